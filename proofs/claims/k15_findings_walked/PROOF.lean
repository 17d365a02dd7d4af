import PyProof.Rows.All
import Wide.All
import OpenK.AllK
import Wide.FinOn
import Lean
import PyProof.EqAt
import PyProof.EqKinds
import PyProof.TupleCall
import PySem.Challenge.RW_quotefind_k15_findings_walked
set_option Elab.async false
set_option linter.all false
set_option maxRecDepth 100000
set_option hygiene false in
local macro_rules
|`(tactic|o_head $H)=>`(tactic|refine holds_open (q:=HD.q HD.pw) (loose:=HD.loose) (Xt:=HD.Xt HD.pw []) (XP:=XL (HD.q HD.pw) []) (Yf:=Hook.obs $H) (Ya:=Hook.val $H) (YP:=Hook.says $H) (d:=HD.d) (kwd:=[]) (N:=HD.Jq) (HD.left HD.pw HD.VB $H fun w os=>by kernel_rfl) (Hook.of $H) (Hook.keeps $H) (fun s e=>xl_of s (Bool.and_eq_true_iff.mp e).1) XL.keeps (by kernel_rfl) (by kernel_rfl) (by kernel_rfl) (fun s e=>recFacts_of (Bool.and_eq_true_iff.mp e).2) (by rfl) (by assumption) (by decide+kernel) ⟨rfl,rfl,rfl,rfl,rfl,by decide+kernel⟩ ?hw ?hc)
|`(YZ $a $b $c)=>`(@aO _ _ _ _ _ _ _ _ _ _ _ _ $a (hr.mono (by decide)) $b $c (by rfl) (by decide) (by rfl) (by rfl))
|`(Y0 $a $b $c)=>`(@aH _ _ $a _ _ _ _ $b (by exact rfl) (Or.inl rfl) $c (by rfl) (by exact .inl rfl))
|`(Y1 $a)=>`(@ak _ _ _ _ _ $a af (by rfl))
|`(Y2 $a $b)=>`(@aL _ _ $a _ $b (by exact rfl) (Or.inl rfl) (by first|exact .inl rfl|exact .inr rfl|assumption))
|`(Y3 $a $b)=>`(@aB _ _ _ _ _ _ _ (aq K) $a $b (fun _ _=>rfl))
|`(Y4 $a $b)=>`(@ak _ _ _ _ _ $a $b (by rfl))
|`(Y5 $a $b $c $d)=>`(@aN _ _ _ _ _ _ _ _ _ $a $b $c PyProof.Rows.Boot.«len» $d (by decide) (by decide) (by rfl) (by rfl))
|`(Y6 $a $b)=>`(@aC _ $a _ _ _ _ $b (by rfl) (by rfl))
|`(Y7 $a)=>`(List.getElem?_eq_some_iff.mp $a)
|`(Y8 $a $b $c)=>`(@aJ _ _ _ _ _ _ _ _ $a $b $c)
|`(Y9 $a)=>`(@aB _ _ _ _ _ _ _ (aq K) (@aB _ _ _ _ _ _ _ (aq K) (pv 0) ai (fun _ _=>rfl)) $a (fun _ _=>rfl))
|`(Y_ $a $b $c $d $e $f $g)=>`(@dW _ $a _ _ _ _ _ _ _ _ _ _ _ $b $c $d $e $f $g (by rfl) (by rfl) (by rfl) (by rfl) (by rfl) (by rfl))
|`(Y' $a)=>`(@aj _ _ _ $a)
|`(Za $a $b)=>`(@au _ _ _ _ _ $a $b)
|`(Zb $a)=>`(@eE _ _ _ _ _ _ $a (by first|exact bh _ (by decide) (by decide)|rfl))
|`(Zc $a $b)=>`(@aX _ _ _ _ _ _ _ _ $a (@aj _ _ _ (@aK _ _ _ _ cB)) $b)
|`(Zd $a $b $c $d $e)=>`(@bN _ _ _ _ _ _ _ _ _ _ _ _ _ _ _ _ $a $b $c $d $e (by rfl) (by rfl) (by rfl))
|`(Ze $a)=>`(List.mem_of_getElem? $a)
|`(Zf $a $b)=>`(@aD _ _ _ _ _ $a $b)
|`(Zg $a $b $c $d $e)=>`(@aN _ _ _ _ _ _ _ _ _ $a $b $c $d $e (by decide) (by decide) (by rfl) (by rfl))
|`(Zh $a)=>`(if_neg $a)
|`(Zi $a)=>`(Heap.get?_push_of_some _ $a)
|`(Zj $a $b $c $d)=>`(@aS _ _ _ _ _ _ _ _ $a $b $c $d)
|`(Zk $a)=>`(if_pos $a)
|`(Zl $a $b)=>`(@aX _ _ _ _ _ _ _ _ (@PW.pt _ _ _ (@pw_or _ _ _ _ _ _ _ (@bR _ _ _ _ (@bE _ _ _ (@aN _ _ _ _ _ _ _ _ _ (eD K) (by exact rfl) T.cn PyProof.Rows.Boot.«isinstance» (@ak _ _ _ _ _ (pv 0) (@ak _ _ _ _ _ (@iC _ _ (.ty "list") _ _ (by exact rfl) T.ko PyProof.Rows.Boot.«list» (by exact rfl) (by decide) (by decide)) af (by rfl)) (by rfl)) (by decide) (by decide) (by rfl) (by rfl)) (by intro _;rfl))) (@pw_or1 _ _ _ _ (@aS _ _ _ _ _ _ _ _ qZ (@aN _ _ _ _ _ _ _ _ _ (aG K) (by exact rfl) T.cD PyProof.Rows.Boot.«len» (@ak _ _ _ _ _ (pv 0) af (by rfl)) (by decide) (by decide) (by rfl) (by rfl)) (@aN _ _ _ _ _ _ _ _ _ (aG K) (by exact rfl) T.cD PyProof.Rows.Boot.«len» (@ak _ _ _ _ _ (pv 1) af (by rfl)) (by decide) (by decide) (by rfl) (by rfl)) (aV _))))) $a $b)
|`(Zm $a)=>`(@aK _ _ _ _ $a)
|`(Zn $a $b $c $d $e)=>`(@bj _ _ _ _ _ _ _ _ $a $b (@cL _ _ _ _ _ _ (by exact rfl) T.dX (@ak _ _ _ _ _ (@aN _ _ _ _ _ _ _ _ _ (aG K) (by exact rfl) T.cD PyProof.Rows.Boot.«len» (@ak _ _ _ _ _ (pv 1) af (by rfl)) (by decide) (by decide) (by rfl) (by rfl)) af (by rfl)) (by rfl)) $c $d $e)
|`(Zo $a $b $c)=>`(@ck _ $a _ _ _ _ _ _ _ $b $c (by rfl) (by rfl))
|`(Zp $a)=>`(Option.some.inj $a)
|`(Zq $a)=>`(@aY _ _ _ _ $a (by rfl))
set_option hygiene false in
local macro_rules
|`(Zr)=>`((by simp))
|`(Zs)=>`((fun vs H Q E h=>?_))
|`(Zt)=>`((by omega))
|`(Zu)=>`((by lia))
|`(Zv)=>`((by exact rfl))
|`(Zw)=>`((pv 0))
|`(Zx)=>`(by omega)
|`(Zy)=>`(by decide)
|`(Zz)=>`(by rfl)
|`(ZA)=>`(by simp)
set_option maxHeartbeats 4000000
namespace HD
open PySem PySem.W PyProof.Rows
noncomputable section
noncomputable abbrev pw:Program:=PySem.Challenge.pw_quotefind_k15_findings_walked
noncomputable abbrev pq:Program:=pw
theorem VB:pw=pq:=rfl
def z0:Str:=⟨⟨[60,109,111,100,117,108,101,62]⟩⟩
def z1:Str:=⟨⟨[95,95,109,97,105,110,95,95]⟩⟩
def Tu:Str:=⟨⟨[47,99,108,97,105,109,47,99,117,116,46,112,121]⟩⟩
noncomputable abbrev y0:String:=PySem.W.SL.s658472552662922059x5
noncomputable abbrev VC:String:=PySem.W.SL.s5856160107412720595x4
noncomputable abbrev R(a:Addr):Value:= .ref a
noncomputable abbrev I(i:Int):Value:= .int i 0
noncomputable abbrev N:Value:= .none
noncomputable abbrev U(v:Value):Option Value:=some v
noncomputable abbrev B:=BT.node
noncomputable abbrev L:=BT.nil
noncomputable abbrev tu(l:List Value):Obj:=⟨.type "tuple",none, .seq ⟨l⟩ 0,⟨[]⟩⟩
noncomputable abbrev fi(l:List Value):Obj:=⟨.none,none, .fields ⟨l⟩,⟨[]⟩⟩
noncomputable abbrev cd(n:Str)(t:Nat)(l a f:Int)(r8:Addr)(b:Bool)(VD:Addr)(VE VF VG:Value)(t3:Int)(t4:Nat):Obj:=⟨.type VC,none, .fields ⟨[.str n t, .str n (t+1), .str Tu (t+2),I l,I a,I 0,I 0,I f,R r8, .bool b,I 181,R VD,N,VE,VF,VG,I t3,I l, .str Tu t4]⟩,⟨[]⟩⟩
noncomputable def tp(p:Program)(i:Nat):Stmt:=p.main.body.getD i (.Pass ⟨0,0,0,0⟩)
noncomputable def b0(_:Program)(P:Params):Obj:=PySem.W.boot_o_0 P
noncomputable def b1(_:Program)(P:Params):Obj:=PySem.W.boot_o_1 P
noncomputable def b2(_:Program)(P:Params):Obj:=PySem.W.boot_o_2 P
noncomputable def b3(_:Program)(P:Params):Obj:=PySem.W.boot_o_3 P
noncomputable def b4(_:Program)(P:Params):Obj:=PySem.W.boot_o_4 P
noncomputable def b5(_:Program)(P:Params):Obj:=PySem.W.boot_o_5 P
noncomputable def b6(_:Program)(P:Params):Obj:=PySem.W.boot_o_6 P
noncomputable def b7(_:Program)(P:Params):Obj:=PySem.W.boot_o_7 P
noncomputable def b8(_:Program)(P:Params):Obj:=PySem.W.boot_o_8 P
noncomputable def b9(_:Program)(P:Params):Obj:=PySem.W.boot_o_9 P
noncomputable def Tv(_:Program)(P:Params):Obj:=PySem.W.boot_o_10 P
noncomputable def Tw(p:Program)(P:Params):Obj:=tu []
noncomputable def Tx(p:Program)(P:Params):Obj:=fi []
noncomputable def Tz(p:Program)(P:Params):Obj:=cd z0 182 1 0 0 11 false 12 N N N 185 186
noncomputable def TC(p:Program)(P:Params):Obj:=⟨(.type y0),none,.plain,⟨[U (R 13),U (R 3),U (R 3),none,U (.str z1 164),none,U (R 0)]⟩⟩
noncomputable def La(p:Program)(P:Params):List Obj:=[b0 p P,b1 p P,b2 p P,b3 p P,b4 p P,b5 p P,b6 p P,b7 p P,b8 p P,b9 p P,Tv p P,Tw p P,Tx p P,Tz p P,TC p P]
noncomputable def Ta(p:Program)(P:Params):BT:=(B (b0 p P) (B (b1 p P) (B (b3 p P) (B (b7 p P) L L) (B (Tw p P) L L)) (B (b5 p P) (B (b9 p P) L L) (B (Tz p P) L L))) (B (b2 p P) (B (b4 p P) (B (b8 p P) L L) (B (Tx p P) L L)) (B (b6 p P) (B (Tv p P) L L) (B (TC p P) L L))))
noncomputable def keep:List Nat:=[0,2,3,4,5,7,8,9,11,12,13,14,16,17,19,20,21,22,23,24,25,27,28,29,31,32,33,34,35,36,37,38,40,41,42,43,44,45,46,47,48,49,50,51,52,53,54,55,56,57,58,59,60]
noncomputable def loose:List Str:=[]
noncomputable def env(p:Program):Env:={scope:=p.main.scope,locals:=mainNs,globals:=mainNs,cells:=[],code:=(R 13),frame:=some 14}
noncomputable def cE(p:Program):Code:= .body (behindTheImports p) (env p)
noncomputable def qP:Pos:=⟨0,0,0,0⟩
noncomputable def pP:Pos:=⟨0,0,0,0⟩
noncomputable def bP:Pos:=⟨0,0,0,0⟩
noncomputable def fP:Pos:=⟨442,0,456,88⟩
noncomputable def an:Option Value:=(some (R 6))
noncomputable abbrev Mt:Nat:=60
noncomputable abbrev m0:Nat:=11
noncomputable abbrev Mu:Nat:=12
noncomputable abbrev Mv:Nat:=1
noncomputable abbrev Jo:Nat:=3805
noncomputable abbrev Jp:Nat:=2
noncomputable abbrev Jq:Nat:=8334
noncomputable abbrev nA:Nat:=15
noncomputable abbrev VH:Nat:=187
noncomputable abbrev VI:Nat:=187
end
end HD
namespace HD
open PySem PySem.W PyProof.Rows
noncomputable section
abbrev S0(w:World)(os:OsState):Shared:=⟨boot_heap w.params,⟨[]⟩,boot_drawn,boot_toks,os⟩
abbrev Sa(p:Program)(w:World)(os:OsState):Shared:=⟨⟨⟨La p w.params⟩,{}⟩,⟨[]⟩,{},VH,os⟩
abbrev Sb(p:Program)(w:World)(os:OsState):SharedT:=⟨Ta p w.params,nA,{},⟨[]⟩,{},VI,os⟩
abbrev q(p:Program):Program:=view p keep
abbrev Xt(p:Program)(R:WRecords):Shared→Bool:=fun s=>xlAt (q p) [] s&&recOk R s
theorem Mw(w:World)(os:OsState):topGo treeTable pq w m0 an Mu (S0 w os) (topStub pq)=some (Sa pq w os,⟨denote treeTable (cE pq),cE pq,pP,[topFrame qP]⟩):=by
 rewrite[Fast.te15667345088766844465,Fast.te14364793385576792824,Fast.te11892475500146522536];kernel_rfl
theorem Mx(w:World)(os:OsState):segRun treeTable pq w m0 an 1 Mv (Sa pq w os) (blockOf (behindTheImports pq) (env pq) (cE pq) pP [topFrame qP])=some (.next,(Sb pq w os).abs,cE pq,bP):=by
 rewrite[Fast.te14374325043358763698,Fast.te14364793385576792824];kernel_rfl
def Rm(w:World)(os:OsState):=Fast.tw10110043849684766642 Fast.tw14364793385576792824 pq w m0 an 1 Jo (Sb pq w os) (piecesOf (behindTheImports pq) (env pq) (cE pq) bP [topFrame qP])
def Sm(w:World)(os:OsState):SharedT:=match Rm w os with|some (_,s,_,_)=>s|none=>Sb pq w os
theorem My(w:World)(os:OsState):segRunT treeTable pq w m0 an 1 Jo (Sb pq w os) (piecesOf (behindTheImports pq) (env pq) (cE pq) bP [topFrame qP])=some (.next,Sm w os,cE pq,fP):=by
 rewrite[Fast.te10110043849684766642,Fast.te14364793385576792824];kernel_rfl
def Rf(w:World)(os:OsState):=Fast.tw14082659384304107361 Fast.tw14364793385576792824 pq w m0 an Jp (Sm w os).abs ⟨doneF .next,cE pq,fP,[topFrame qP]⟩
def Sf(w:World)(os:OsState):Shared:=match Rf w os with|some s=>s|none=>S0 w os
theorem Mz(w:World)(os:OsState):topRun treeTable pq w m0 an Jp (Sm w os).abs ⟨doneF .next,cE pq,fP,[topFrame qP]⟩=some (Sf w os):=by
 rewrite[Fast.te14082659384304107361,Fast.te14364793385576792824];kernel_rfl
theorem Jr(w:World):((boot_heap w.params).isNs mainGlobals&&(⟨[]⟩:Array GenState).size==0,(boot_heap w.params).objs.size,(boot_heap w.params).nsMap mainGlobals "__annotations__")=(true,m0,an):=by
 rewrite[Fast.te8920871248978507458];kernel_rfl
theorem Js:∀w:World,(fencedOpening treeTable pq w Jq).map (fun s=>(s.heap,s.gens,s.drawn,s.toks))=some (boot_heap w.params,⟨[]⟩,boot_drawn,boot_toks):=
 boot_open (by kernel_rfl) (by kernel_rfl) (fun s=>by kernel_rfl)
theorem MA(w:World)(os:OsState):topRun treeTable pq w m0 an (Mu+(Mv+(Jo+Jp))) (S0 w os) (topStub pq)=some (Sf w os):=by
 refine go_top (Mw w os) (piece_block (Mx w os) ?_);have h:=piece_app (rest:=[]) (segRun_of (My w os)) (piece_nil (env:=env pq) (Mz w os));rw[List.append_nil]at h;exact h
theorem DD(w:World)(os:OsState):
 (staticsOk (importedModules pq.main.body) (boot_heap w.params) (Sf w os).heap&&namesBound pq (Sf w os).heap&&gensDone (Sf w os)&&laidKept (boot_heap w.params) (Sf w os).heap)=true
 ∧seen ((recsOf (q pq)).map (·.name)) (ownsOf (q pq)) [] {Sf w os with gens:=#[]}=expectedOf (q pq)
 ∧(Sf w os).heap.bltView=bltViewBooted:=by
 refine⟨?_,?_,?_⟩
 ·rewrite[Fast.te5923862056798008813];kernel_rfl
 ·rewrite[Fast.te5160383126252970620,Fast.te3399658132070893891,Fast.te5991557255702980513];kernel_rfl
 ·kernel_rfl
theorem Jt(w:World)(os:OsState):
 ((Sf w os).heap.keysOk (looseW (q pq) loose) ((recsOf (q pq)).map (·.name)) ((litsOf (q pq)).map (·.1)) ((clssOf (q pq) (looseW (q pq) loose)).map (·.name))&&(Sf w os).heap.accountedOkI (importedModules pq.main.body)&&(Sf w os).heap.isNs mainGlobals&&(Sf w os).heap.isNs builtinsNs&&tablesOk (q pq) (Sf w os).heap&&Xt pq [] (Sf w os)&&(if true then(Sf w os).gens.size==0 else !leftWithCleanup (Sf w os).gens))=true:=by
 rewrite[Fast.te10880121769531294198,Fast.te821141287760084731,Fast.te3399658132070893891,Fast.te7409074990110511671,Fast.te13664370479719496447,Fast.te14722251495701143533,Fast.te5923862056798008813,Fast.te10994771534591457954];kernel_rfl
theorem Ju(w:World)(os:OsState):
 tabsOk (q pq) (Sf w os)=true
 ∧pinSeenD (q pq) (drecsOf (q pq)) (Sf w os)=pinGoodD (drecsOf (q pq))
 ∧plainSeenE (q pq) (looseW (q pq) loose) (Sf w os)=plainGoodE (q pq) (looseW (q pq) loose)
 ∧plainSeenD (q pq) loose (Sf w os)=plainGoodD (q pq) loose
 ∧wideSeen (q pq) (Sf w os)=wideGood (q pq)
 ∧clsSeenW (q pq) loose (Sf w os)=clsGoodW (q pq) loose:=by
 refine⟨?_,?_,?_,?_,?_,?_⟩
 ·rewrite[Fast.te479339242167458305];kernel_rfl
 ·rewrite[Fast.te16090120013241838585,Fast.te3247288618530077131];kernel_rfl
 ·rewrite[Fast.te2386780881361962483,Fast.te821141287760084731];kernel_rfl
 ·rewrite[Fast.te11698064438423848299];kernel_rfl
 ·rewrite[Fast.te7317090234206586261];kernel_rfl
 ·rewrite[Fast.te7369524293546568484];kernel_rfl
theorem lx{p q:Program}{lo:List Str}{Xt:Shared→Bool}{α:Type}{Yf:Shared→α}{a:α}{w:World}{N M n:Nat}{h:Heap}{gs:Array GenState}{dr:Drawn}{k:Nat}{an:Option Value}{g:OsState→Shared}
  (o:(fencedOpening treeTable p w N).map (fun s=>(s.heap,s.gens,s.drawn,s.toks))=some (h,gs,dr,k)) (z:(h.isNs mainGlobals&&gs.size==0,h.objs.size,h.nsMap mainGlobals "__annotations__")=(true,n,an))
  (r:∀os,topRun treeTable p w n an M ⟨h,gs,dr,k,os⟩ (topStub p)=some (g os)) (le:M≤N) (x1:∀os,(staticsOk (importedModules p.main.body) h (g os).heap&&namesBound p (g os).heap&&gensDone (g os)&&laidKept h (g os).heap)=true)
  (x2:∀os,openSeen q lo (importedModules p.main.body) Xt true (g os)=openGood q lo) (x3:∀os,Yf (g os)=a):(openEnds treeTable p w N).map (fun s=>(openSeen q lo (importedModules p.main.body) Xt true s,Yf s))=some (openGood q lo,a):=by
 obtain⟨⟨h,gs,dr,k,os⟩,e1,e2⟩:=Option.map_eq_some_iff.mp o;cases e2;obtain⟨y1,y2⟩:=Prod.mk.inj z;obtain⟨y2,y3⟩:=Prod.mk.inj y2;have t:=topRun_mono (N-M) _ _ _ _ (r os);rw[Nat.add_sub_cancel' le]at t;have f:topFrom treeTable p w N ⟨h,gs,dr,k,os⟩=some (g os):=by
  unfold topFrom;dsimp only;rw[y1,y2,y3,t];show(match staticsOk _ h (g os).heap&&namesBound p (g os).heap&&gensDone (g os)&&laidKept h (g os).heap with|true=>_|false=>_)=_;rw[x1 os]
 unfold openEnds;rw[e1,Option.bind_some,f];exact congrArg some (Prod.ext (x2 os) (x3 os))
theorem left(p:Program)(e:p=pq)(H:Hook)(hk:∀w os,H.obs (Sf w os)=H.val w):LeftO p (q p) loose (Xt p []) H.obs H.val Jq:=by
 subst e;intro w;exact lx (g:=Sf w) (Js w) (Jr w) (MA w) (Zy) (fun os=>(DD w os).1) (fun os=>let ⟨_,x2,x3⟩:=DD w os;let ⟨x5,x6,x7,x8,x9,x0⟩:=Ju w os;looks_pair x2 (looks_pair x3 (looks_pair (Jt w os) (looks_pair x5 (looks_pair x6 (looks_pair x7 (looks_pair x8 (looks_pair x9 x0)))))))) (hk w)
def d:DefRec:=match tp pw Mt with
 | .FunctionDef n a b _ _ _ sc _ _ ps=>⟨n,a,b,sc,ps⟩
 | _=>⟨Str.empty,default,[],default,default⟩
end
end HD
namespace HD
theorem ws:PySem.W.OpenLaw.wellSaid PySem.Challenge.rw_quotefind_k15_findings_walked=true:=by
 rewrite[PySem.W.Fast.te9446332074065402090];kernel_rfl
end HD
namespace L2
open PySem PySem.Spec PyProof.Rows
abbrev Key:=Sum Int Str
def vf:Key→Value→Bool
 | .inl k,v=>Value.isInt k v
 | .inr x,v=>Value.isStrOf x v
def Qy(w:World):Key→Int
 | .inl k=>hashInt k
 | .inr x=>hashStr w x
theorem cY:∀{k:Key}{v:Value},vf k v=true→(∃i t,k=Sum.inl i∧v=Value.int i t)∨(∃x t,k=Sum.inr x∧v=Value.str x t)
 | .inl i,v,h=>by
  obtain⟨t,e⟩:=Value.isInt_shape (k:=i) (v:=v) h;exact .inl ⟨i,t,rfl,e⟩
 | .inr x,v,h=>by
  obtain⟨t,e⟩:=Value.isStrOf_shape (x:=x) (v:=v) h;exact .inr ⟨x,t,rfl,e⟩
theorem B1(i:Int)(t:Tok):vf (.inl i) (.int i t)=true:=by simp[vf,Value.isInt]
theorem B2(x:Str)(t:Tok):vf (.inr x) (.str x t)=true:=by simp[vf,Value.isStrOf]
theorem Jv(a b:Int):decide ((Sum.inl a:Key)=Sum.inl b)=(a==b):=by
 by_cases e:a=b
 ·subst e;simp
 ·have h:¬(Sum.inl a:Key)=Sum.inl b:=fun q=>e (Sum.inl.inj q)
  rw[decide_eq_false h];exact(beq_eq_false_iff_ne.mpr e).symm
theorem Jw(a b:Str):decide ((Sum.inr a:Key)=Sum.inr b)=decide (a=b):=by
 by_cases e:a=b
 ·subst e;simp
 ·have h:¬(Sum.inr a:Key)=Sum.inr b:=fun q=>e (Sum.inr.inj q)
  rw[decide_eq_false h,decide_eq_false e]
theorem Jx(a:Int)(b:Str):decide ((Sum.inl a:Key)=Sum.inr b)=false:=decide_eq_false (fun q=>nomatch q)
theorem Jy(a:Str)(b:Int):decide ((Sum.inr a:Key)=Sum.inl b)=false:=decide_eq_false (fun q=>nomatch q)
def cZ(prog:Program)(w:World):PySem.KeyKind prog w Key where
 is:=vf
 hash:=Qy w
 inj:=fun v a b ha hb=>by
  rcases cY ha with⟨i,t,rfl,rfl⟩|⟨x,t,rfl,rfl⟩
  ·rcases cY hb with⟨j,u,rfl,e⟩|⟨y,u,rfl,e⟩
   ·injection e with e1 _;rw[e1]
   ·exact nomatch e
  ·rcases cY hb with⟨j,u,rfl,e⟩|⟨y,u,rfl,e⟩
   ·exact nomatch e
   ·injection e with e1 _;rw[e1]
 byValue:=fun k v h=>by
  rcases cY h with⟨i,t,rfl,rfl⟩|⟨x,t,rfl,rfl⟩<;>rfl
 pyHash:=fun hv h=>by
  rcases cY hv with⟨i,t,rfl,rfl⟩|⟨x,t,rfl,rfl⟩
  ·exact wpAny_pyHash_int h
  ·exact wpAny_pyHash_str h
 eqBool:=fun hu hv h=>by
  rcases cY hu with⟨i,t,rfl,rfl⟩|⟨x,t,rfl,rfl⟩
  ·rcases cY hv with⟨j,u,rfl,rfl⟩|⟨y,u,rfl,rfl⟩
   ·rw[Jv]at h;exact wpAny_eqBool_int h
   ·rw[Jx]at h;exact SeqAt.EqAt.int_str i t y u _ _ _ _ h
  ·rcases cY hv with⟨j,u,rfl,rfl⟩|⟨y,u,rfl,rfl⟩
   ·rw[Jy]at h;exact SeqAt.EqAt.str_int x t j u _ _ _ _ h
   ·rw[Jw]at h;exact wpAny_eqBool_str h
 «strs»:=fun k x t v h=>by
  rcases cY h with⟨i,u,rfl,e⟩|⟨y,u,rfl,e⟩
  ·exact nomatch e
  ·injection e with e1 _;subst e1;cases v<;>rfl
theorem yc(prog:Program)(w:World)(i:Int)(t:Tok):(cZ prog w).is (.inl i) (.int i t)=true:=B1 i t
theorem yd(prog:Program)(w:World)(x:Str)(t:Tok):(cZ prog w).is (.inr x) (.str x t)=true:=B2 x t
inductive V where
 |cO|bl (b:Bool)|int (i:Int)|str (x:Str)|B4 (b:Array UInt8)|HY (b:UInt64)|ref (a:Addr)|ty (n:String)
 deriving DecidableEq
def RelV:V→Value→Prop
 | .cO,u=>u=Value.none
 | .bl b,u=>u=Value.bool b
 | .int i,u=>∃t,u=Value.int i t
 | .str x,u=>∃t,u=Value.str x t
 | .B4 b,u=>∃t,u=Value.bytes b t
 | .HY b,u=>∃t,u=Value.float b t
 | .ref a,u=>u=Value.ref a
 | .ty n,u=>u=Value.type n
abbrev Vals:List V→List Value→Prop:=Paired RelV
theorem Vals.length{xs:List V}{us:List Value}(r:Vals xs us):xs.length=us.length:=Paired.length r
theorem Vals.get:∀{xs:List V}{us:List Value}{i:Nat}{x:V},Vals xs us→xs[i]?=some x→∃u,us[i]?=some u∧RelV x u
 | _,_,_,_, .nil,e=>by simp at e
 | _,_,0,_, .cons r _,e=>by simp at e;subst e;exact⟨_,rfl,r⟩
 | _,_,i+1,x, .cons _ t,e=>by
  obtain⟨u,h1,h2⟩:=Vals.get (i:=i) (x:=x) t (by simpa using e);exact⟨u,by simpa using h1,h2⟩
theorem Vals.set{x:V}{u:Value}(r:RelV x u):∀{xs:List V}{us:List Value}(i:Nat),Vals xs us→Vals (xs.set i x) (us.set i u)
 | _,_,_, .nil=> .nil
 | _,_,0, .cons _ t=> .cons r t
 | _,_,i+1, .cons q t=> .cons q (Vals.set r i t)
theorem Vals.append:∀{xs ys:List V}{us ws:List Value},Vals xs us→Vals ys ws→Vals (xs++ys) (us++ws)
 | _,_,_,_, .nil,s=>s
 | _,_,_,_, .cons r t,s=> .cons r (Vals.append t s)
theorem Vals.take:∀{xs:List V}{us:List Value}(n:Nat),Vals xs us→Vals (xs.take n) (us.take n)
 | _,_,0,_=> .nil
 | _,_,_+1, .nil=> .nil
 | _,_,n+1, .cons r t=> .cons r (Vals.take n t)
theorem Vals.drop:∀{xs:List V}{us:List Value}(n:Nat),Vals xs us→Vals (xs.drop n) (us.drop n)
 | _,_,0,r=>r
 | _,_,_+1, .nil=> .nil
 | _,_,n+1, .cons _ t=>Vals.drop n t
def kj:Option V→Option Value→Prop
 |some v,some u=>RelV v u
 |none,none=>True
 | _,_=>False
def KV{κ:Type}:List (κ×V)→List (κ×Value)→Prop:=Paired fun(p:κ×V)(q:κ×Value)=>p.1=q.1∧RelV p.2 q.2
def kV:Key→V
 | .inl i=> .int i
 | .inr x=> .str x
inductive HO where
 |lst (xs:List V)
 |tup (xs:List V)
 |dK (kvs:List (Key×V))|dT (kvs:List (List Key×V))
 |set (S:Int→Bool) (n:Nat)
 |ins (C dx:Addr) (fs:List (Str×V))
 |own (x:Addr)
 |xd (fs:List (Str×V))
 |met (f x:Addr)
 |O7 (lo hi:Int)
 |r9 (o:Obj) (u:HO)
 |F_ (ps:Array Value)
 |ext (φ:Heap→Prop)
abbrev Hp:=Addr→Option HO
def upd(H:Hp)(a:Addr)(o:HO):Hp:=fun b=>if b=a then some o else H b
theorem ae{H:Hp}{a:Addr}{o:HO}:upd H a o a=some o:=by unfold upd;rw[if_pos rfl]
theorem ao{H:Hp}{a b:Addr}{o:HO}(h:b≠a):upd H a o b=H b:=by unfold upd;rw[Zh h]
theorem fW{H:Hp}{a:Addr}{o u:HO}:upd (upd H a o) a u=upd H a u:=by
 funext b;unfold upd;split<;>rfl
theorem iV{H:Hp}{a b:Addr}{o u:HO}(h:H a=some o)(h':H b=some u)(d:o≠u):a≠b:=by
 intro e;subst e;rw[h]at h';exact d (Zp h')
theorem aE{H:Hp}{a b:Addr}{o:HO}(h:H a=some o)(h':H b=none):a≠b:=by
 intro e;subst e;rw[h]at h';cases h'
section
variable(P:Program)(w:World)
def cS(H:Hp)(h:Heap)(a:Addr):HO→Prop
 | .lst xs=>xs.length≤sizeLine∧∃(its:List Value)(n:Nat),Vals xs its∧h.get? a=some {cls:= .type "list",data:= .seq its.toArray n}
 | .tup xs=>xs.length≤sizeLine∧∃its:List Value,Vals xs its∧IsTup h a its.toArray
 | .dK kvs=>kvs.length≤sizeLine∧(a==sysModules)=false∧∃vs,KV kvs vs∧h.DictOf (cZ P w) a vs
 | .dT kvs=>kvs.length≤sizeLine∧(a==sysModules)=false∧∃xs:List (List Key×Addr×Value),
   Paired (fun(p:List Key×V)(q:List Key×Addr×Value)=>p.1=q.1∧H q.2.1=some (.tup (p.1.map kV))∧RelV p.2 q.2.2) kvs xs∧
   ∃o es ep,h.get? a=some o∧o.ExactDict∧o.data= .dict es ep∧es.toList=xs.map (entryOfKey (tupleKind (cZ P w)))∧(xs.map (·.1)).Nodup
 | .set S n=>h.SetOf (intKind P w) a S n
 | .ins C dx fs=>H dx=some (.own a)∧fs.length≤1000∧dx≠a∧h.get? a=some (PySem.W.instObj C dx)∧
   ∃mA,h.Ns1 dx mA∧(∀f,kj (fs.lookup f) (mA f))∧PySem.Within mA (fs.map (·.1))
 | .own _=>∃o,h.get? a=some o
 | .xd fs=>∃mA,h.Ns1 a mA∧∀f,kj (fs.lookup f) (mA f)
 | .O7 lo hi=>∃t u v,h.get? a=some {cls:= .type "range",data:= .fields #[.int lo t, .int hi u, .int 1 v]}
 | .r9 o u=>h.get? a=some o∧cS H h a u
 | .F_ ps=>h.get? a=some {cls:= .none,data:= .fields ps}
 | .met f x=>h.get? a=some (PySem.W.methodObj (.ref f) (.ref x))
 | .ext φ=>φ h∧(∃o,h.get? a=some o)∧∀h1 h2:Heap,φ h1→(∀o,h1.get? a=some o→h2.get? a=some o)→φ h2
def lg(H:Hp)(h:Heap):Prop:=∀a o,H a=some o→cS P w H h a o
end
section
variable{P:Program}{w:World}{H H':Hp}{h h':Heap}{a:Addr}{o:HO}
theorem cS.lt(x:cS P w H h a o):a<h.objs.size:=by
 cases o with
 |lst xs=>obtain⟨_,_,_,_,e⟩:=x;exact Heap.lt_size e
 |tup xs=>obtain⟨_,_,_,p⟩:=x;exact p.lt
 |dK kvs=>obtain⟨_,_,_,_,o,_,_,e,_⟩:=x;exact Heap.lt_size e
 |dT kvs=>obtain⟨_,_,_,_,o,_,_,e,_⟩:=x;exact Heap.lt_size e
 |set S n=>obtain⟨o,_,_,_,e,_⟩:=x;exact Heap.lt_size e
 |ins C dx fs=>obtain⟨_,_,_,e,_⟩:=x;exact Heap.lt_size e
 |own y=>obtain⟨_,e⟩:=x;exact Heap.lt_size e
 |xd fs=>obtain⟨_,⟨_,_,_,e,_⟩,_⟩:=x;exact Heap.lt_size e
 |O7 lo hi=>obtain⟨_,_,_,e⟩:=x;exact Heap.lt_size e
 |r9 ob u=>obtain⟨e,_⟩:=x;exact Heap.lt_size e
 |F_ ps=>exact Heap.lt_size (show h.get? a=some _ from x)
 |met f y=>exact Heap.lt_size (show h.get? a=some _ from x)
 |ext φ=>obtain⟨_,⟨_,e⟩,_⟩:=x;exact Heap.lt_size e
theorem Paired.Jz{α β:Type}{F G:α→β→Prop}:∀{MB:List α}{MD:List β},Paired F MB MD→(∀a b,F a b→G a b)→Paired G MB MD
 | _,_, .nil,_=> .nil
 | _,_, .cons r t,f=> .cons (f _ _ r) (Paired.Jz t f)
theorem cS.vV(x:cS P w H h a o)(k:∀b u,(b=a∨H b=some (.own a))→h.get? b=some u→h'.get? b=some u)
  (ho:∀b,H b=some (.own a)→H' b=some (.own a)) (ht:∀b xs,H b=some (.tup xs)→H' b=some (.tup xs)):cS P w H' h' a o:=by
 induction o with
 |lst xs=>obtain⟨z,its,n,r,e⟩:=x;exact⟨z,its,n,r,k _ _ (.inl rfl) e⟩
 |tup xs=>obtain⟨z,its,r,ob,e,c⟩:=x;exact⟨z,its,r,ob,k _ _ (.inl rfl) e,c⟩
 |dK kvs=>obtain⟨z,y,vs,r,ob,es,ep,e,c⟩:=x;exact⟨z,y,vs,r,ob,es,ep,k _ _ (.inl rfl) e,c⟩
 |dT kvs=>
  obtain⟨z,y,xs,r,ob,es,ep,e,c⟩:=x;exact⟨z,y,xs,Paired.Jz r fun p q z=>⟨z.1,ht _ _ z.2.1,z.2.2⟩,ob,es,ep,k _ _ (.inl rfl) e,c⟩
 |set S n=>obtain⟨ob,es,ep,t,e,c⟩:=x;exact⟨ob,es,ep,t,k _ _ (.inl rfl) e,c⟩
 |ins C dx fs=>
  obtain⟨d,z,ne,e,mA,⟨od,es,ep,e2,c⟩,r⟩:=x;exact⟨ho _ d,z,ne,k _ _ (.inl rfl) e,mA,⟨od,es,ep,k _ _ (.inr d) e2,c⟩,r⟩
 |own y=>obtain⟨ob,e⟩:=x;exact⟨ob,k _ _ (.inl rfl) e⟩
 |xd fs=>obtain⟨mA,⟨od,es,ep,e,c⟩,r⟩:=x;exact⟨mA,⟨od,es,ep,k _ _ (.inl rfl) e,c⟩,r⟩
 |O7 lo hi=>obtain⟨t,u,v,e⟩:=x;exact⟨t,u,v,k _ _ (.inl rfl) e⟩
 |r9 ob u ih=>obtain⟨e,q⟩:=x;exact⟨k _ _ (.inl rfl) e,ih q⟩
 |F_ ps=>
  have e:h.get? a=some {cls:= .none,data:= .fields ps}:=x;show h'.get? a=some {cls:= .none,data:= .fields ps};exact k a _ (.inl rfl) e
 |met f y=>
  have e:h.get? a=some (PySem.W.methodObj (.ref f) (.ref y)):=x;show h'.get? a=some (PySem.W.methodObj (.ref f) (.ref y));exact k a _ (.inl rfl) e
 |ext φ=>obtain⟨p,⟨o,e⟩,st⟩:=x;exact⟨st _ _ p fun o q=>k _ _ (.inl rfl) q,⟨o,k _ _ (.inl rfl) e⟩,st⟩
theorem lg.lt(x:lg P w H h)(e:H a=some o):a<h.objs.size:=(x a o e).lt
theorem lg.fresh(x:lg P w H h)(e:h.objs.size≤a):H a=none:=by
 cases q:H a with
 |none=>rfl
 |some u=>exact absurd (Nat.lt_of_lt_of_le (x.lt q) e) (Nat.lt_irrefl _)
theorem lg.kept(x:lg P w H h)(k:∀b u,h.get? b=some u→h'.get? b=some u):lg P w H h':=fun a o e=>
 (x a o e).vV (fun b u _ q=>k b u q) (fun _ q=>q) fun _ _ q=>q
theorem lg.laid(x:lg P w H h)(k:∀b u,h.get? b=some u→h'.get? b=some u)(hp:h.objs.size≤a)(new:cS P w (upd H a o) h' a o):lg P w (upd H a o) h':=fun b u e=>by
 have hn:=x.fresh hp;by_cases hb:b=a
 ·subst hb;rw[ae]at e;cases e;exact new
 ·rw[ao hb]at e;exact(x b u e).vV (fun c v _ q=>k c v q) (fun c q=>by rw[ao (aE q hn)];exact q) fun c xs q=>by rw[ao (aE q hn)];exact q
end
def Rd(H:Hp)(a:Addr)(u:HO):Prop:=H a=some u∨∃o,H a=some (.r9 o u)
theorem Rd.of{H:Hp}{a:Addr}{u:HO}(h:H a=some u):Rd H a u:= .inl h
theorem Rd.ok{P:Program}{w:World}{H:Hp}{h:Heap}{a:Addr}{u:HO}(r:Rd H a u)(x:lg P w H h):cS P w H h a u:=by
 rcases r with r|⟨o,r⟩
 ·exact x a u r
 ·obtain⟨_,q⟩:=x a _ r;exact q
def ME:Option HO→Prop
 |some (.lst _)=>True
 |some (.dK _)=>True
 |some (.dT _)=>True
 |some (.set _ _)=>True
 |some (.ins _ _ _)=>True
 |some (.ext _)=>True
 | _=>False
section
variable{P:Program}{w:World}{H:Hp}{h h':Heap}{x e:Addr}{o':HO}
theorem lg.write(ok:lg P w H h)(mu:ME (H x))(he:e=x∨H e=some (.own x))(k:∀b u,b≠e→h.get? b=some u→h'.get? b=some u)(LP:∃u,h'.get? e=some u)
  (new:cS P w (upd H x o') h' x o'):lg P w (upd H x o') h':=fun b u q=>by
 have MF:∀c y,H c=some (.own y)→c≠x:=fun c y r z=>by subst z;rw[r]at mu;exact mu
 have Qz:∀c xs,H c=some (.tup xs)→c≠x:=fun c xs r z=>by subst z;rw[r]at mu;exact mu
 by_cases hb:b=x
 ·subst hb;rw[ae]at q;cases q;exact new
 ·rw[ao hb]at q;by_cases JA:b=e
  ·have q':H b=some (.own x):=by
    rcases he with z|z
    ·exact absurd (JA.trans z) hb
    ·rw[JA];exact z
   rw[q]at q';cases q';obtain⟨v,hv⟩:=LP;exact⟨v,by rw[JA];exact hv⟩
  ·refine(ok b u q).vV (fun c v hc r=>k c v ?_ r) (fun c r=>by rw[ao (MF c b r)];exact r) fun c xs r=>by rw[ao (Qz c xs r)];exact r
   rcases hc with rfl|hc
   ·exact JA
   ·rintro rfl;rcases he with z|z
    ·exact MF c b hc z
    ·rw[hc]at z;cases z;exact hb rfl
end
structure Un(fs ex:List Addr)(H H':Hp)(h h':Heap):Prop where
 keep:∀b o,h.get? b=some o→H b=none→b∉fs→b∉ex→h'.get? b=some o
 slot:∀b o,h.get? b=some o→H b=none→b∈fs→b∉ex→∃sl,h'.get? b=some {o with slots:=sl}
 free:∀b o,h.get? b=some o→H b=none→b∉ex→H' b=none
 there:∀b o,h.get? b=some o→b∉ex→∃o',h'.get? b=some o'
 cI:∀b xs,H b=some (.tup xs)→H' b=some (.tup xs)
 n9:∀b o u,H b=some (.r9 o u)→H' b=some (.r9 o u)
 rH:∀b ps,H b=some (.F_ ps)→∃more,H' b=some (.F_ (ps++more))
section
variable{fs VJ ex Yj:List Addr}{H H1 H2:Hp}{h h1 h2 h':Heap}{a x e:Addr}{o:HO}
theorem Un.any(u:Un fs ex H H1 h h1){b:Addr}{ob:Obj}(q:h.get? b=some ob)(n:H b=none)(hx:b∉ex):∃sl,h1.get? b=some {ob with slots:=sl}:=by
 by_cases hb:b∈fs
 ·exact u.slot b ob q n hb hx
 ·exact⟨ob.slots,u.keep b ob q n hb hx⟩
theorem Un.kept(k:∀b u,h.get? b=some u→h'.get? b=some u):Un fs ex H H h h':=
 ⟨fun b ob q _ _ _=>k b ob q,fun b ob q _ _ _=>⟨ob.slots,k b ob q⟩,fun _ _ _ n _=>n,fun b ob q _=>⟨ob,k b ob q⟩,fun _ _ q=>q,fun _ _ _ q=>q,fun _ ps q=>⟨#[],by rw[q];simp⟩⟩
theorem Un.refl:Un fs ex H H h h:=Un.kept fun _ _ q=>q
theorem Un.laid(k:∀b u,h.get? b=some u→h'.get? b=some u)(hp:h.objs.size≤a)(hn:H a=none):Un fs ex H (upd H a o) h h' where
 keep:=fun b u q _ _ _=>k b u q
 slot:=fun b u q _ _ _=>⟨u.slots,k b u q⟩
 free:=fun b u q n _=>by rw[ao (Nat.ne_of_lt (Nat.lt_of_lt_of_le (Heap.lt_size q) hp))];exact n
 there:=fun b u q _=>⟨u,k b u q⟩
 cI:=fun b xs q=>by rw[ao (aE q hn)];exact q
 n9:=fun b u xs q=>by rw[ao (aE q hn)];exact q
 rH:=fun b ps q=>⟨#[],by rw[ao (aE q hn),q];simp⟩
theorem Un.write(mu:ME (H x))(he:e=x∨H e=some (.own x))(k:∀b u,b≠e→h.get? b=some u→h'.get? b=some u)(LP:∃u,h'.get? e=some u):Un fs ex H (upd H x o) h h':=by
 have hx:∀b,H b=none→b≠x:=fun b n z=>by subst z;rw[n]at mu;exact mu
 have hb:∀b,H b=none→b≠e:=fun b n z=>by
  subst z;rcases he with r|r
  ·exact hx b n r
  ·rw[n]at r;cases r
 have hm:∀b u,H b=some u→¬ME (some u)→b≠x:=fun b u q nm z=>by subst z;rw[q]at mu;exact nm mu
 refine⟨fun b u q n _ _=>k b u (hb b n) q,fun b u q n _ _=>⟨u.slots,k b u (hb b n) q⟩,fun b u q n _=>by rw[ao (hx b n)];exact n,fun b u q _=>?_,
  fun b xs q=>by rw[ao (hm b _ q fun z=>z)];exact q,fun b u xs q=>by rw[ao (hm b _ q fun z=>z)];exact q,fun b ps q=>⟨#[],by rw[ao (hm b _ q fun z=>z),q];simp⟩⟩
 by_cases JA:b=e
 ·subst JA;exact LP
 ·exact⟨u,k b u JA q⟩
end
def O8(h:Heap)(H:Hp):List Addr:=(List.range h.objs.size).filter fun a=>(H a).isSome
def vW(h:Heap)(H:Hp):Heap:=PySem.W.hideAll h (O8 h H)
theorem B5(h:Heap)(H:Hp):(vW h H).objs.size=h.objs.size:=PySem.W.hideAll_size _ _
theorem DE{h:Heap}{H:Hp}{b:Addr}{o:Obj}(e:h.get? b=some o)(n:H b=none):(vW h H).get? b=some o:=
 PySem.W.hideAll_get _ e fun hm=>by
  have q:(H b).isSome=true:=(List.mem_filter.mp hm).2;rw[n]at q;simp at q
theorem F'{h:Heap}{H:Hp}{b:Addr}{o:Obj}(e:(vW h H).get? b=some o):h.get? b=some o∧H b=none:=by
 have e':h.get? b=some o:=PySem.W.of_hideAll (O8 h H) e;refine⟨e',?_⟩;cases q:H b with
 |none=>rfl
 |some x=>
  have hm:b∈O8 h H:=List.mem_filter.mpr ⟨List.mem_range.mpr (Heap.lt_size e'),by simp[q]⟩;have z:(vW h H).get? b=none:=PySem.W.hideAll_none (O8 h H) hm;rw[z]at e;cases e
def Ga(g h:Heap)(L:Addr):List (Addr×Obj):=(List.range h.objs.size).filterMap fun a=>if a=L∨(g.get? a).isSome=true then none else(h.get? a).map fun o=>(a,o)
def rest(g h:Heap)(L d:Addr):List (Addr×Obj):=(Ga g h L).filter fun p=>decide (p.1≠d)
structure Mod(K:PySem.W.Frag)(mg:Str→Option Value)(base:Heap):Prop where
 LQ:K.In base
 glob:base.Ns mainGlobals mg
 blt:∃mb,base.Ns builtinsNs mb∧∀x:Str,x≠"__name__"→mb x=bootBuiltins x
 nolimit:base.NoLimit
structure Cx where
 prog:Program
 w:World
 K:PySem.W.Frag
 mg:Str→Option Value
 base:Heap
 A:Around
 N:List Str
 dB:Shared
 eW:Hp
 env:Env
 outer:List Env
 stack:List Env
 ex:List Addr
 fn:Str→Bool
 calm:Bool
 pn:List (Addr×Obj)
 xe:Value→Shared→Prop
def n5(l:List Env):List Addr:=l.filterMap (·.frame)
abbrev Cx.fs(X:Cx):List Addr:=n5 X.outer
def QA(sc:Scope)(x:Str):Prop:=sc.names.lookup x=some .local∨sc.names.lookup x=some .cell∨sc.names.lookup x=some .free
def Loc(sc:Scope)(x:Str):Prop:=sc.names.lookup x=some .local∨sc.names.lookup x=some .cell
def Look(env:Env)(h:Heap)(m:Str→Option Value)(x:Str)(u:Value):Prop:=
 (env.kindOf x=some .local∧m x=some u)∨((env.kindOf x=some .cell∨env.kindOf x=some .free)∧∃c,env.cells.lookup x=some c∧h.IsCell c (some u))
structure Cx.Ok(X:Cx):Prop where
 mod:Mod X.K X.mg X.base
 kind:X.env.scope.kind= .function
 glob:X.env.globals=mainGlobals
 blt:X.env.builtins=builtinsNs
 above:X.dB.heap.objs.size≤X.env.locals
 inj:∀x y c,X.env.cells.lookup x=some c→X.env.cells.lookup y=some c→x=y
 has:∀x,(X.env.kindOf x=some .cell∨X.env.kindOf x=some .free)→∃c,X.env.cells.lookup x=some c
 QB:∀x c,X.fn x=true→X.env.cells.lookup x=some c→X.dB.heap.objs.size≤c
 hd:X.calm=true→X.A.handled=none
 frames:X.A.frames=some X.stack
 TK:X.stack=X.outer∨(X.stack=X.env::X.outer∧X.env.frame=some X.env.locals)
 Yk:∀b∈X.ex,b≠X.env.locals∧∀x c,X.env.cells.lookup x=some c→c≠b
 bs:∀b o,X.base.get? b=some o→X.dB.heap.get? b=some o∧X.eW b=none
 JB:X.base.objs.size≤X.dB.heap.objs.size
 JC:∀b o,X.base.get? b=some o→b∉X.ex
 MI:∀b∈X.ex,b∉X.fs
 ux:X.dB.heap.FunFrames X.base X.outer
 MJ:∀b∈X.fs,X.eW b=none
structure Inv(X:Cx)(pins:List (Addr×Obj))(σ:List (Option V))(H:Hp)(s:Shared):Prop where
 ok:X.Ok
 os:s.os=X.dB.os
 bare:AllBare s.gens
 base:Un X.fs X.ex X.eW H X.dB.heap s.heap
 loc:∃m,s.heap.Ns X.env.locals m∧∀(i:Nat)(x:Str)(v:V),X.N[i]?=some x→σ[i]?=some (some v)→QA X.env.scope x→∃u,RelV v u∧Look X.env s.heap m x u
 cell:∀x c,X.env.cells.lookup x=some c→∃v,s.heap.IsCell c v
 free:H X.env.locals=none
 mL:∀x c,X.env.cells.lookup x=some c→H c=none
 pin:∀p∈X.pn++pins,s.heap.get? p.1=some p.2∧H p.1=none∧p.1≠X.env.locals∧p.1∉X.fs∧∀v,p.2.data≠ .cell v
 bX:lg X.prog X.w H s.heap
 len:σ.length=X.N.length
section
variable{X:Cx}{pins:List (Addr×Obj)}{σ:List (Option V)}{H H':Hp}{s:Shared}{h':Heap}
theorem Cx.Ok.QC(ok:X.Ok){b:Addr}{o:Obj}(e:X.base.get? b=some o):b∉X.fs:=fun hb=>by
 have:=(ok.ux.mem hb).1;rw[e]at this;cases this
theorem Inv.bs(I:Inv X pins σ H s):∀b o,X.base.get? b=some o→s.heap.get? b=some o∧H b=none:=fun b o e=>
 ⟨I.base.keep b o (I.ok.bs b o e).1 (I.ok.bs b o e).2 (I.ok.QC e) (I.ok.JC b o e),I.base.free b o (I.ok.bs b o e).1 (I.ok.bs b o e).2 (I.ok.JC b o e)⟩
theorem Inv.bk(I:Inv X pins σ H s):∀b o,X.base.get? b=some o→s.heap.get? b=some o:=fun b o e=>(I.bs b o e).1
theorem Inv.mod(I:Inv X pins σ H s):Mod X.K X.mg X.base:=I.ok.mod
theorem Inv.p8(I:Inv X pins σ H s):X.K.In s.heap:=I.ok.mod.LQ.keeps I.bk
theorem Inv.lt(I:Inv X pins σ H s):X.env.locals<s.heap.objs.size:=let ⟨_,hn,_⟩:=I.loc;hn.lt
theorem Inv.sz(I:Inv X pins σ H s):X.dB.heap.objs.size≤s.heap.objs.size:=Nat.le_trans I.ok.above (Nat.le_of_lt I.lt)
theorem Inv.QD(I:Inv X pins σ H s){a:Addr}(h:s.heap.objs.size≤a):a∉X.fs:=fun hb=>by
 obtain⟨_,o,ho,_⟩:=I.ok.ux.mem hb;exact absurd (Nat.lt_of_lt_of_le (Heap.lt_size ho) (Nat.le_trans I.sz h)) (Nat.lt_irrefl _)
theorem Inv.JD(I:Inv X pins σ H s):∀x c,X.env.cells.lookup x=some c→c≠X.env.locals:=fun x c e z=>by
 obtain⟨v,o,ho,hd⟩:=I.cell x c e;obtain⟨m,⟨o',es,ep,JE,LR,_⟩,_⟩:=I.loc;rw[z,JE]at ho;cases ho;rw[LR]at hd;cases hd
theorem Inv.ux(I:Inv X pins σ H s):s.heap.FunFrames X.base X.outer:=by
 have all:∀(l:List Env),(∀b∈n5 l,b∈X.fs)→X.dB.heap.FunFrames X.base l→s.heap.FunFrames X.base l:=by
  intro l
  induction l with
  |nil=>intro _ _;trivial
  |cons env r ih=>
   intro hs hl;obtain⟨hk,⟨L,o,hf,hn,ho,hd⟩,hr⟩:=hl;have hL:L∈X.fs:=hs L (by unfold n5;rw[List.filterMap_cons,hf];exact List.mem_cons_self);obtain⟨sl,e⟩:=I.base.slot L o ho (I.ok.MJ L hL) hL fun z=>I.ok.MI L z hL
   exact⟨hk,⟨L,_,hf,hn,e,hd⟩,ih (fun b hb=>hs b (by unfold n5;rw[List.filterMap_cons,hf];exact List.mem_cons_of_mem _ hb)) hr⟩
 exact all X.outer (fun _ hb=>hb) I.ok.ux
theorem Inv.stack(I:Inv X pins σ H s):s.heap.FunFrames X.base X.stack:=by
 rcases I.ok.TK with e|⟨e,hf⟩
 ·rw[e];exact I.ux
 ·rw[e];obtain⟨m,hn,_⟩:=I.loc;refine .cons (by rw[I.ok.kind];decide) hf hn ?_ I.ux;exact Heap.get?_none_of_le (Nat.le_trans I.ok.JB I.ok.above)
theorem Inv.sE(I:Inv X pins σ H s):∀b∈n5 X.stack,b∈X.env.locals::X.fs:=fun b hb=>by
 rcases I.ok.TK with e|⟨e,hf⟩
 ·rw[e]at hb;exact List.mem_cons_of_mem _ hb
 ·rw[e]at hb;unfold n5 at hb;rw[List.filterMap_cons,hf]at hb;exact hb
theorem Inv.vX(I:Inv X pins σ H s):∀b∈n5 X.stack,H b=none:=fun b hb=>by
 rcases List.mem_cons.mp (I.sE b hb)with e|hb
 ·rw[e];exact I.free
 ·obtain⟨_,o,ho,_⟩:=I.ok.ux.mem hb;exact I.base.free b o ho (I.ok.MJ b hb) fun z=>I.ok.MI b z hb
theorem Inv.step{g':Array GenState}{t':Nat}{d':Drawn}{ch:List Addr}(I:Inv X pins σ H s)
  (FT:∀b∈ch,(b∈X.ex∨X.dB.heap.objs.size≤b)∧b≠X.env.locals∧(∀x c,X.env.cells.lookup x=some c→c≠b)∧∀p∈X.pn++pins,p.1≠b)
  (keep:∀b o,b≠X.env.locals→b∉X.fs→b∉ch→s.heap.get? b=some o→H b=none→h'.get? b=some o)
  (slot:∀b o,b≠X.env.locals→b∈X.fs→b∉ch→s.heap.get? b=some o→H b=none→∃sl,h'.get? b=some {o with slots:=sl}) (free:∀b o,b∉ch→s.heap.get? b=some o→H b=none→H' b=none)
  (there:∀b o,b∉ch→s.heap.get? b=some o→∃o',h'.get? b=some o')
  (cI:∀b xs,H b=some (.tup xs)→H' b=some (.tup xs)) (n9:∀b o u,H b=some (.r9 o u)→H' b=some (.r9 o u)) (rH:∀b ps,H b=some (.F_ ps)→∃more,H' b=some (.F_ (ps++more)))
  (ns:∀m,s.heap.Ns X.env.locals m→h'.Ns X.env.locals m) (bX:lg X.prog X.w H' h') (hg:AllBare g'):
  Inv X pins σ H' {s with heap:=h',gens:=g',drawn:=d',toks:=t'}:=by
 have TL:∀b o,X.dB.heap.get? b=some o→b≠X.env.locals:=fun b o e=>Nat.ne_of_lt (Nat.lt_of_lt_of_le (Heap.lt_size e) I.ok.above)
 have O9:∀b o,X.dB.heap.get? b=some o→b∉X.ex→b∉ch:=fun b o e hx hb=>by
  rcases(FT b hb).1 with z|z
  ·exact hx z
  ·exact absurd (Nat.lt_of_lt_of_le (Heap.lt_size e) z) (Nat.lt_irrefl _)
 have cellK:∀x c,X.env.cells.lookup x=some c→∀v,s.heap.IsCell c v→h'.IsCell c v:=fun x c e v ⟨o,ho,hd⟩=>by
  have MK:c∉ch:=fun z=>(FT c z).2.2.1 x c e rfl
  by_cases hc:c∈X.fs
  ·obtain⟨sl,q⟩:=slot c o (I.JD x c e) hc MK ho (I.mL x c e);exact⟨_,q,hd⟩
  ·exact⟨o,keep c o (I.JD x c e) hc MK ho (I.mL x c e),hd⟩
 refine⟨I.ok,I.os,hg,⟨fun b o e n hb hx=>?_,fun b o e n hb hx=>?_,fun b o e n hx=>?_,fun b o e hx=>?_,fun b xs e=>cI b xs (I.base.cI b xs e),fun b o xs e=>n9 b o xs (I.base.n9 b o xs e),fun b ps e=>?_⟩,?_,fun x c e=>?_,?_,fun x c e=>?_,fun p hp=>?_,bX,I.len⟩
 ·exact keep b o (TL b o e) hb (O9 b o e hx) (I.base.keep b o e n hb hx) (I.base.free b o e n hx)
 ·obtain⟨sl,e1⟩:=I.base.slot b o e n hb hx;obtain⟨MN,e2⟩:=slot b _ (TL b o e) hb (O9 b o e hx) e1 (I.base.free b o e n hx);exact⟨MN,e2⟩
 ·obtain⟨o',e1⟩:=I.base.there b o e hx;exact free b o' (O9 b o e hx) e1 (I.base.free b o e n hx)
 ·obtain⟨o',e1⟩:=I.base.there b o e hx;exact there b o' (O9 b o e hx) e1
 ·obtain⟨m1,e1⟩:=I.base.rH b ps e;obtain⟨m2,e2⟩:=rH b _ e1;exact⟨m1++m2,by rw[e2,Array.append_assoc]⟩
 ·obtain⟨m,hn,hl⟩:=I.loc;refine⟨m,ns m hn,fun i x v e1 e2 e3=>?_⟩;obtain⟨u,r,l⟩:=hl i x v e1 e2 e3;refine⟨u,r,?_⟩;rcases l with l|⟨k,c,e,z⟩
  ·exact .inl l
  ·exact .inr ⟨k,c,e,cellK x c e _ z⟩
 ·obtain⟨v,z⟩:=I.cell x c e;exact⟨v,cellK x c e v z⟩
 ·obtain⟨m,⟨o,_,_,ho,_⟩,_⟩:=I.loc;exact free _ o (fun z=>(FT _ z).2.1 rfl) ho I.free
 ·obtain⟨v,o,ho,hd⟩:=I.cell x c e;exact free c o (fun z=>(FT c z).2.2.1 x c e rfl) ho (I.mL x c e)
 ·obtain⟨e,n,ne,nf,d⟩:=I.pin p hp;have MK:p.1∉ch:=fun z=>(FT p.1 z).2.2.2 p hp rfl
  exact⟨keep p.1 p.2 ne nf MK e n,free p.1 p.2 MK e n,ne,nf,d⟩
theorem Inv.un{t':Nat}(I:Inv X pins σ H s)(u:Un X.fs [] H H' s.heap h')(bX:lg X.prog X.w H' h'):Inv X pins σ H' {s with heap:=h',toks:=t'}:=by
 obtain⟨m,⟨o,es,ep,ho,r⟩,_⟩:=id I.loc;obtain⟨sl,hL⟩:=u.any ho I.free Zr;exact I.step (g':=s.gens) (d':=s.drawn) (ch:=[]) (fun _ z=>nomatch z) (fun b o _ hb _ e n=>u.keep b o e n hb Zr) (fun b o _ hb _ e n=>u.slot b o e n hb Zr) (fun b o _ e n=>u.free b o e n (ZA)) (fun b o _ e=>u.there b o e Zr) u.cI u.n9 u.rH (fun m' hm=>by
  obtain⟨o',O_,Pa,JE,r'⟩:=hm;rw[ho]at JE;cases JE;exact⟨_,O_,Pa,hL,r'⟩) bX I.bare
theorem Inv.call{g':Array GenState}{t':Nat}{d':Drawn}{ch:List Addr}(I:Inv X pins σ H s)(u:Un (n5 X.stack) ch H H' s.heap h')(bX:lg X.prog X.w H' h')(hg:AllBare g')
  (FT:∀b∈ch,(b∈X.ex∨X.dB.heap.objs.size≤b)∧b≠X.env.locals∧(∀x c,X.env.cells.lookup x=some c→c≠b)∧∀p∈X.pn++pins,p.1≠b):
  Inv X pins σ H' {s with heap:=h',gens:=g',drawn:=d',toks:=t'}:=by
 obtain⟨m,⟨o,es,ep,ho,r⟩,_⟩:=id I.loc;obtain⟨sl,hL⟩:=u.any ho I.free fun z=>(FT _ z).2.1 rfl
 exact I.step (ch:=ch) FT (fun b o hL hb hc e n=>u.keep b o e n (fun z=>(List.mem_cons.mp (I.sE b z)).elim hL hb) hc) (fun b o _ _ hc e n=>u.any e n hc) (fun b o hc e n=>u.free b o e n hc) (fun b o hc e=>u.there b o e hc) u.cI u.n9 u.rH (fun m' hm=>by
  obtain⟨o',O_,Pa,JE,r'⟩:=hm;rw[ho]at JE;cases JE;exact⟨_,O_,Pa,hL,r'⟩) bX hg
theorem Inv.turned{t':Nat}{it:Addr}(I:Inv X pins σ H s)(k:∀b o,b≠it→s.heap.get? b=some o→h'.get? b=some o)(hn:H it=none)(hL:it≠X.env.locals)
  (h1:it∈X.ex∨X.dB.heap.objs.size≤it) (h2:∀x c,X.env.cells.lookup x=some c→c≠it) (h3:∀p∈X.pn++pins,p.1≠it):Inv X pins σ H {s with heap:=h',toks:=t'}:=by
 have HZ:∀b u,H b=some u→b≠it:=fun b u e z=>by rw[z,hn]at e;cases e
 refine I.step (g':=s.gens) (d':=s.drawn) (ch:=[it]) (fun b hb=>?_) (fun b o _ _ hc e _=>k b o (fun z=>hc (by simp[z])) e) (fun b o _ _ hc e _=>⟨o.slots,k b o (fun z=>hc (by simp[z])) e⟩) (fun _ _ _ _ n=>n)
  (fun b o hc e=>⟨o,k b o (fun z=>hc (by simp[z])) e⟩) (fun _ _ e=>e) (fun _ _ _ e=>e) (fun b ps e=>⟨#[],by rw[e];simp⟩) (fun m hm=>?_) (fun b u e=>?_) I.bare
 ·have e:b=it:=by simpa using hb
  subst e;exact⟨h1,hL,h2,h3⟩
 ·obtain⟨o,es,ep,ho,r⟩:=hm;exact⟨o,es,ep,k _ o (Ne.symm hL) ho,r⟩
 ·refine(I.bX b u e).vV (fun c v hc q=>k c v ?_ q) (fun _ q=>q) fun _ _ q=>q
  rcases hc with z|z
  ·rw[z];exact HZ b u e
  ·exact HZ c _ z
theorem Inv.tok(I:Inv X pins σ H s)(t:Nat):Inv X pins σ H {s with toks:=t}:=I.un (h':=s.heap) (t':=t) Un.refl I.bX
theorem Inv.kept{t':Nat}(I:Inv X pins σ H s)(k:∀b u,s.heap.get? b=some u→h'.get? b=some u):Inv X pins σ H {s with heap:=h',toks:=t'}:=I.un (Un.kept k) (I.bX.kept k)
theorem Inv.laid{a:Addr}{o:HO}{t':Nat}(I:Inv X pins σ H s)(k:∀b u,s.heap.get? b=some u→h'.get? b=some u)(hp:s.heap.objs.size≤a)(new:cS X.prog X.w (upd H a o) h' a o):
  Inv X pins σ (upd H a o) {s with heap:=h',toks:=t'}:=I.un (Un.laid k hp (I.bX.fresh hp)) (I.bX.laid k hp new)
theorem Inv.write{x e:Addr}{o:HO}{t':Nat}(I:Inv X pins σ H s)(mu:ME (H x))(he:e=x∨H e=some (.own x))(k:∀b u,b≠e→s.heap.get? b=some u→h'.get? b=some u)(LP:∃u,h'.get? e=some u)
  (new:cS X.prog X.w (upd H x o) h' x o):Inv X pins σ (upd H x o) {s with heap:=h',toks:=t'}:=I.un (Un.write mu he k LP) (I.bX.write mu he k LP new)
theorem Inv.AZ{H_:List (Addr×Obj)}(I:Inv X pins σ H s)(h:∀p∈H_,s.heap.get? p.1=some p.2∧H p.1=none∧p.1≠X.env.locals∧p.1∉X.fs∧∀v,p.2.data≠ .cell v):Inv X H_ σ H s:=
 ⟨I.ok,I.os,I.bare,I.base,I.loc,I.cell,I.free,I.mL,fun p hp=>(List.mem_append.mp hp).elim (fun z=>I.pin p (List.mem_append_left _ z)) (h p),I.bX,I.len⟩
theorem ye{N:List Str}(hN:N.Nodup){i j:Nat}{x:Str}(a:N[i]?=some x)(b:N[j]?=some x):i=j:=by
 obtain⟨h1,e1⟩:=Y7 a;obtain⟨h2,e2⟩:=Y7 b;exact(List.getElem_inj hN).mp (e1.trans e2.symm)
theorem vh{M:Model}{A:Around}{E:Value→Shared→Prop}{i:Nat}{x:Str}{v:V}{u:Value}{Q:Unit→Shared→Prop}(I:Inv X pins σ H s)(hN:X.N.Nodup)(hi:X.N[i]?=some x)(hx:Loc X.env.scope x)(r:RelV v u)
  (h:∀s',Inv X pins (σ.set i (some v)) H s'→(∃a,Heap.SameBut a s.heap s'.heap∧(a=X.env.locals∨X.env.cells.lookup x=some a))→Q () s') (hf:X.fn x=true∨X.env.scope.names.lookup x=some .local:=by first|exact .inl rfl|exact .inr rfl|assumption):wpAny M A (storeName X.env x u) Q E s:=by
 obtain⟨m,hn,hl⟩:=id I.loc;have QE:(X.env.scope.kind== .class||(X.env.scope.kind== .module&&X.env.locals !=X.env.globals))=false:=by rw[I.ok.kind];rfl
 have MO:i<σ.length:=by rw[I.len];exact(Y7 hi).1
 have JD:=I.JD;have tracked:∀{a:Addr}{h':Heap},(∃o,s.heap.get? a=some o∧H a=none)→Heap.SameBut a s.heap h'→lg X.prog X.w H h':=fun{a h'} ha hs b ob e=>by
  obtain⟨_,_,A0⟩:=ha;refine(I.bX b ob e).vV (fun c w' hc q=>(hs.2 c ?_).trans q) (fun _ q=>q) fun _ _ q=>q
  rintro rfl;rcases hc with rfl|hc
  ·rw[A0]at e;cases e
  ·rw[A0]at hc;cases hc
 rcases hx with hk|hk
 ·refine wpAny_storeName_local hk hn (fun h' DF hs=>?_) QE;obtain⟨oL,_,_,Ia,_⟩:=id hn;refine h _ ⟨I.ok,I.os,I.bare,⟨fun b o e n hb hx=>?_,fun b o e n hb hx=>?_,I.base.free,fun b o e hx=>?_,I.base.cI,I.base.n9,I.base.rH⟩,⟨_,DF,fun j y v' e1 e2 e3=>?_⟩,fun y c e=>?_,I.free,I.mL,fun p hp=>?_,tracked ⟨oL,Ia,I.free⟩ hs,by simpa using I.len⟩ ⟨_,hs, .inl rfl⟩
  ·exact(hs.2 b (Nat.ne_of_lt (Nat.lt_of_lt_of_le (Heap.lt_size e) I.ok.above))).trans (I.base.keep b o e n hb hx)
  ·obtain⟨sl,e1⟩:=I.base.slot b o e n hb hx;exact⟨sl,(hs.2 b (Nat.ne_of_lt (Nat.lt_of_lt_of_le (Heap.lt_size e) I.ok.above))).trans e1⟩
  ·obtain⟨o',e1⟩:=I.base.there b o e hx;exact⟨o',(hs.2 b (Nat.ne_of_lt (Nat.lt_of_lt_of_le (Heap.lt_size e) I.ok.above))).trans e1⟩
  ·by_cases hj:j=i
   ·subst hj;rw[hi]at e1;cases e1;rw[List.getElem?_set_self MO]at e2;cases e2;exact⟨u,r, .inl ⟨hk,ZA⟩⟩
   ·rw[List.getElem?_set_ne (Ne.symm hj)]at e2;obtain⟨u',r',q⟩:=hl j y v' e1 e2 e3;refine⟨u',r',?_⟩;rcases q with⟨k,e⟩|⟨k,c,e,z⟩
    ·refine .inl ⟨k,?_⟩;have:y≠x:=fun e=>hj (ye hN e1 (e▸hi))
     simp[this,e]
    ·exact .inr ⟨k,c,e,z.sameBut hs (JD y c e)⟩
  ·obtain⟨w',z⟩:=I.cell y c e;exact⟨w',z.sameBut hs (JD y c e)⟩
  ·obtain⟨e,n,ne,nf,d⟩:=I.pin p hp;exact⟨(hs.2 p.1 ne).trans e,n,ne,nf,d⟩
 ·have MP:X.fn x=true:=by
   rcases hf with z|z
   ·exact z
   ·rw[z]at hk;cases hk
  obtain⟨c,hc⟩:=I.ok.has x (.inl hk);obtain⟨w',z⟩:=I.cell x c hc;refine wpAny_storeName_cell I.ok.kind hk hc z (fun h' JF hs=>?_);obtain⟨oc,TN,QG⟩:=id z;refine h {s with heap:=h'} ⟨I.ok,I.os,I.bare,⟨fun b o e n hb hx=>?_,fun b o e n hb hx=>?_,I.base.free,fun b o e hx=>?_,I.base.cI,I.base.n9,I.base.rH⟩,⟨m,hn.sameBut hs (Ne.symm (JD x c hc)),fun j y v' e1 e2 e3=>?_⟩,fun y c' e=>?_,I.free,I.mL,fun p hp=>?_,tracked ⟨oc,TN,I.mL x c hc⟩ hs,by simpa using I.len⟩ ⟨c,hs, .inr hc⟩
  ·exact(hs.2 b (Nat.ne_of_lt (Nat.lt_of_lt_of_le (Heap.lt_size e) (I.ok.QB x c MP hc)))).trans (I.base.keep b o e n hb hx)
  ·obtain⟨sl,e1⟩:=I.base.slot b o e n hb hx;exact⟨sl,(hs.2 b (Nat.ne_of_lt (Nat.lt_of_lt_of_le (Heap.lt_size e) (I.ok.QB x c MP hc)))).trans e1⟩
  ·obtain⟨o',e1⟩:=I.base.there b o e hx;exact⟨o',(hs.2 b (Nat.ne_of_lt (Nat.lt_of_lt_of_le (Heap.lt_size e) (I.ok.QB x c MP hc)))).trans e1⟩
  ·by_cases hj:j=i
   ·subst hj;rw[hi]at e1;cases e1;rw[List.getElem?_set_self MO]at e2;cases e2;exact⟨u,r, .inr ⟨.inl hk,c,hc,JF⟩⟩
   ·rw[List.getElem?_set_ne (Ne.symm hj)]at e2;obtain⟨u',r',q⟩:=hl j y v' e1 e2 e3;refine⟨u',r',?_⟩;rcases q with q|⟨k,c',e,z'⟩
    ·exact .inl q
    ·refine .inr ⟨k,c',e,z'.sameBut hs ?_⟩;rintro rfl;exact hj (ye hN e1 (I.ok.inj _ _ _ e hc▸hi))
  ·by_cases TQ:c'=c
   ·subst TQ;exact⟨_,JF⟩
   ·obtain⟨w2,z2⟩:=I.cell y c' e;exact⟨w2,z2.sameBut hs TQ⟩
  ·obtain⟨e,n,ne,nf,d⟩:=I.pin p hp;refine⟨(hs.2 p.1 ?_).trans e,n,ne,nf,d⟩;intro q;rw[q,TN]at e;have q':oc=p.2:=Zp e;exact d w' (by rw[←q'];exact QG)
theorem yf{M:Model}{A:Around}{E:Value→Shared→Prop}{i:Nat}{x:Str}{v:V}{u:Value}{Q:Unit→Shared→Prop}(I:Inv X pins σ H s)(hN:X.N.Nodup)(hi:X.N[i]?=some x)(hx:Loc X.env.scope x)(r:RelV v u)
  (h:∀s',Inv X pins (σ.set i (some v)) H s'→Q () s') (hf:X.fn x=true∨X.env.scope.names.lookup x=some .local:=by first|exact .inl rfl|exact .inr rfl|assumption):wpAny M A (storeName X.env x u) Q E s:=
 vh I hN hi hx r (fun s' I' _=>h s' I') hf
theorem Inv.MQ{s':Shared}{ch:List Addr}(I:Inv X pins σ H s)(ho:s'.os=s.os)(u:Un (n5 X.stack) ch H H' s.heap s'.heap)(bX:lg X.prog X.w H' s'.heap)(hg:AllBare s'.gens)
  (FT:∀b∈ch,(b∈X.ex∨X.dB.heap.objs.size≤b)∧b≠X.env.locals∧(∀x c,X.env.cells.lookup x=some c→c≠b)∧∀p∈X.pn++pins,p.1≠b):Inv X pins σ H' s':=by
 obtain⟨h',g',d',t',o'⟩:=s';have e:o'=s.os:=ho;subst e;exact I.call (g':=g') (t':=t') (d':=d') u bX hg FT
end
abbrev XK:=Value→Option Addr→Hp→Prop
abbrev St:=List (Option V)
abbrev VK:=V→Hp→Prop
abbrev TE:=St→Hp→VK→Prop
abbrev TT:=St→Hp→(Bool→Hp→Prop)→Prop
abbrev TA:=St→Hp→(List V→Hp→Prop)→Prop
structure Ends where
 nx:St→Hp→Prop
 rt:VK
 bk:St→Hp→Prop:=fun _ _=>False
 ct:St→Hp→Prop:=fun _ _=>False
abbrev TS:=Ends→St→Hp→Prop
def EP(X:Cx)(pins:List (Addr×Obj))(σ:St)(Q:VK)(u:Value)(s':Shared):Prop:=∃v H',Inv X pins σ H' s'∧RelV v u∧Q v H'
def TP(X:Cx)(pins:List (Addr×Obj))(σ:St)(Q:Bool→Hp→Prop)(b:Bool)(s':Shared):Prop:=∃H',Inv X pins σ H' s'∧Q b H'
def AP(X:Cx)(pins:List (Addr×Obj))(σ:St)(Q:List V→Hp→Prop)(us:List Value)(s':Shared):Prop:=∃vs H',Inv X pins σ H' s'∧Vals vs us∧Q vs H'
def SP(X:Cx)(pins:List (Addr×Obj))(D:Ends)(f:Flow)(s':Shared):Prop:=
 match f with
 | .next=>∃bH H',Inv X pins bH H' s'∧D.nx bH H'
 | .brk=>∃bH H',Inv X pins bH H' s'∧D.bk bH H'
 | .cont=>∃bH H',Inv X pins bH H' s'∧D.ct bH H'
 | .ret u=>∃v bH H',Inv X pins bH H' s'∧RelV v u∧D.rt v H'
def PE(X:Cx)(e:Expr)(t:TE):Prop:=
 ∀(pins:List (Addr×Obj))(s:Shared)(σ:St)(H:Hp)(Q:VK),Inv X pins σ H s→t σ H Q→wpAny (model X.prog X.w) X.A (eval e X.env) (EP X pins σ Q) X.xe s
def PT(X:Cx)(e:Expr)(t:TT):Prop:=
 ∀(pins:List (Addr×Obj))(s:Shared)(σ:St)(H:Hp)(Q:Bool→Hp→Prop),Inv X pins σ H s→t σ H Q→wpAny (model X.prog X.w) X.A (isTrue e X.env (eval e X.env)) (TP X pins σ Q) X.xe s
def PW(X:Cx)(e:Expr)(t:TT):Prop:=
 ∀(whole:Sem Value)(pins:List (Addr×Obj))(s:Shared)(σ:St)(H:Hp)(Q:Bool→Hp→Prop),Inv X pins σ H s→t σ H Q→wpAny (model X.prog X.w) X.A (isTrue e X.env whole) (TP X pins σ Q) X.xe s
theorem PW.pt{X:Cx}{e:Expr}{t:TT}(h:PW X e t):PT X e t:=h _
def PA(X:Cx)(es:List Expr)(t:TA):Prop:=
 ∀(pos:Pos)(pins:List (Addr×Obj))(s:Shared)(σ:St)(H:Hp)(Q:List V→Hp→Prop),Inv X pins σ H s→t σ H Q→wpAny (model X.prog X.w) X.A (spliced (backTo pos (starEach es X.env))) (AP X pins σ Q) X.xe s
def PS(X:Cx)(st:Stmt)(t:TS):Prop:=
 ∀(pins:List (Addr×Obj))(s:Shared)(σ:St)(H:Hp)(D:Ends),Inv X pins σ H s→t D σ H→wpAny (model X.prog X.w) X.A (exec st X.env) (SP X pins D) X.xe s
def B6(X:Cx)(st:List Stmt)(t:TS):Prop:=
 ∀(pins:List (Addr×Obj))(s:Shared)(σ:St)(H:Hp)(D:Ends),Inv X pins σ H s→t D σ H→wpAny (model X.prog X.w) X.A (execs st X.env) (SP X pins D) X.xe s
theorem cK{α:Type}{t:Sem α}{Q Q':α→Shared→Prop}{M:Model}{A:Around}{E:Value→Shared→Prop}{s:Shared}(h:wpAny M A t Q E s)(hQ:∀a s,Q a s→Q' a s):wpAny M A t Q' E s:=wpAny_mono h hQ fun _ _ x=>x
section
variable{X:Cx}
theorem bin{a b:Expr}{ta tb:TE}(ha:PE X a ta)(hb:PE X b tb){pins:List (Addr×Obj)}{s:Shared}{σ:St}{H:Hp}{R:V→V→Hp→Prop}(I:Inv X pins σ H s)(h:ta σ H fun x H1=>tb σ H1 fun y H2=>R x y H2)
  {α:Type} {Q:α→Shared→Prop} {f:Value→Value→Sem α}
  (hf:∀v u s2 x y H2,Inv X pins σ H2 s2→RelV x v→RelV y u→R x y H2→wpAny (model X.prog X.w) X.A (f v u) Q X.xe s2):
  wpAny (model X.prog X.w) X.A (eval a X.env) (fun v cj=>wpAny (model X.prog X.w) X.A (eval b X.env) (fun u p9=>wpAny (model X.prog X.w) X.A (f v u) Q X.xe p9) X.xe cj) X.xe s:=by
 refine cK (ha pins s σ H _ I h) fun v s1 ⟨x,H1,I1,r1,q1⟩=>?_
 refine cK (hb pins s1 σ H1 _ I1 q1) fun u s2 ⟨y,H2,I2,r2,q2⟩=>?_
 exact hf v u s2 x y H2 I2 r1 r2 q2
inductive JG(i:Nat)(σ:St)(H:Hp)(Q:VK):Prop
 |mk (v:_) (_:σ[i]?=some (some v)) (_:Q v H):JG i σ H Q
def tC(v:V):TE:=fun _ H Q=>Q v H
theorem JH{i:Nat}{x:Str}{pos:Pos}(hN:X.N[i]?=some x)(hv:QA X.env.scope x)(hd:(x==("__debug__":Str))=false:=by decide)(B7:(x==("__classdict__":Str))=false:=by decide):PE X (.Name x pos) (JG i):=by
 intro pins s σ H Q I h;obtain⟨v,e,h⟩:=h;obtain⟨m,hn,hl⟩:=I.loc;obtain⟨u,r,l⟩:=hl i x v hN e hv;have fin:EP X pins σ Q u s:=⟨v,H,I,r,h⟩
 rcases l with⟨hk,hm⟩|⟨hk,c,hc,Ib⟩
 ·exact wpAny_Name (wpAny_loadName_local I.ok.kind hk hn hm fin) hd
 ·rcases hk with hk|hk
  ·exact wpAny_Name (wpAny_loadName_cell I.ok.kind hk hc Ib fin) hd
  ·exact wpAny_Name (wpAny_loadName_free I.ok.kind hk hc Ib fin B7) hd
theorem ai{i j pos}:PE X (.Constant (.int i) j pos) (tC (.int i)):=fun _ _ _ H _ I h=>wpAny_Constant_int ⟨.int i,H,I.tok _,⟨_,rfl⟩,h⟩
theorem cB{b j pos}:PE X (.Constant (.bool b) j pos) (tC (.bl b)):=fun _ _ _ H _ I h=>Constant_bool ⟨.bl b,H,I,rfl,h⟩
theorem jJ{j pos}:PE X (.Constant .none j pos) (tC .cO):=fun _ _ _ H _ I h=>Constant_none ⟨.cO,H,I,rfl,h⟩
theorem dS{x j pos}:PE X (.Constant (.str x) j pos) (tC (.str x)):=fun _ _ _ H _ I h=>Calls.Constant_str ⟨.str x,H,I.tok _,⟨_,rfl⟩,h⟩
def Gl(X:Cx)(x:Str):Prop:=X.env.kindOf x=some .globalImplicit
theorem n_{E:Value→Shared→Prop}{pins:List (Addr×Obj)}{s:Shared}{σ:St}{H:Hp}{x:Str}{u:Value}{pos:Pos}{Q:Value→Shared→Prop}(I:Inv X pins σ H s)(hg:Gl X x)(hm:X.mg x=some u)(h:Q u s)
  (hd:(x==("__debug__":Str))=false:=by decide):wpAny (model X.prog X.w) X.A (eval (.Name x pos) X.env) Q E s:=
 Calls.Name_function_global I.ok.kind hg (Calls.loadGlobal_global (by rw[I.ok.glob];exact I.mod.glob.keeps I.bk) hm h) hd
theorem lh{E:Value→Shared→Prop}{pins:List (Addr×Obj)}{s:Shared}{σ:St}{H:Hp}{x:Str}{u:Value}{pos:Pos}{Q:Value→Shared→Prop}(I:Inv X pins σ H s)(hg:Gl X x)(hm:X.mg x=none)(hv:bootBuiltins x=some u)(h:Q u s)
  (hn:x≠"__name__":=by decide) (hd:(x==("__debug__":Str))=false:=by decide):wpAny (model X.prog X.w) X.A (eval (.Name x pos) X.env) Q E s:=by
 obtain⟨mb,h1,h2⟩:=I.mod.blt;exact Calls.Name_function_global I.ok.kind hg (Calls.loadGlobal_builtin (by rw[I.ok.glob];exact I.mod.glob.keeps I.bk) hm (by rw[I.ok.blt];exact h1.keeps I.bk) ((h2 x hn).trans hv) h) hd
theorem vY{x:Str}{v:V}{u:Value}{pos:Pos}(hg:Gl X x)(hm:X.mg x=some u)(r:RelV v u)(hd:(x==("__debug__":Str))=false:=by decide):PE X (.Name x pos) (tC v):=
 fun _ _ _ H _ I h=>n_ I hg hm ⟨v,H,I,r,h⟩ hd
theorem iC{x:Str}{v:V}{u:Value}{pos:Pos}(hg:Gl X x)(hm:X.mg x=none)(hv:bootBuiltins x=some u)(r:RelV v u)(hn:x≠"__name__":=by decide)(hd:(x==("__debug__":Str))=false:=by decide):PE X (.Name x pos) (tC v):=
 fun _ _ _ H _ I h=>lh I hg hm hv ⟨v,H,I,r,h⟩ hn hd
variable{a b:Expr}{ta tb:TE}{pos:Pos}
def PC(X:Cx)(op:CmpOp)(a b:Expr)(t:TE):Prop:=
 ∀(pins:List (Addr×Obj))(s:Shared)(σ:St)(H:Hp)(Q:VK),Inv X pins σ H s→t σ H Q→
  wpAny (model X.prog X.w) X.A (eval a X.env) (fun v cj=>wpAny (model X.prog X.w) X.A (eval b X.env) (fun u p9=>wpAny (model X.prog X.w) X.A (compareOp op v u) (EP X pins σ Q) X.xe p9) X.xe cj) X.xe s
theorem bh(b:Expr){op:CmpOp}(h:op≠ .In)(h2:op≠ .NotIn):behindInMarks op b=false:=by
 have e1:(op==CmpOp.In)=false:=by cases op<;>first|rfl|exact absurd rfl h
 have e2:(op==CmpOp.NotIn)=false:=by cases op<;>first|rfl|exact absurd rfl h2
 cases b<;>simp[behindInMarks,e1,e2]
def QH(ta:TE):TE:=fun σ H Q=>ta σ H fun x H1=>Q (.bl (decide (x= .cO))) H1
def MR(ta:TE):TE:=fun σ H Q=>ta σ H fun x H1=>Q (.bl (!decide (x= .cO))) H1
theorem RelV.yg{x:V}{v:Value}(r:RelV x v):(v==Value.none)=decide (x= .cO):=by
 cases x with
 |cO=>cases r;rfl
 |bl _=>cases r;rfl
 |int _=>obtain⟨t,rfl⟩:=r;rfl
 |str _=>obtain⟨t,rfl⟩:=r;rfl
 |B4 _=>obtain⟨t,rfl⟩:=r;rfl
 |HY _=>obtain⟨t,rfl⟩:=r;rfl
 |ref _=>cases r;rfl
 |ty _=>cases r;rfl
theorem ll{j pos'}(ha:PE X a ta):PC X .Is a (.Constant .none j pos') (QH ta):=by
 intro pins s σ H Q I h;refine cK (ha pins s σ H _ I h) fun v s1 ⟨x,H1,I1,r1,q1⟩=>?_
 exact Constant_none (is_none_gen ⟨.bl _,H1,I1,by rw[r1.yg];rfl,q1⟩)
theorem oa{j pos'}(ha:PE X a ta):PC X .IsNot a (.Constant .none j pos') (MR ta):=by
 intro pins s σ H Q I h;refine cK (ha pins s σ H _ I h) fun v s1 ⟨x,H1,I1,r1,q1⟩=>?_
 exact Constant_none (isnot_none_gen ⟨.bl _,H1,I1,by rw[r1.yg];rfl,q1⟩)
inductive MS(x:V)(H:Hp)(Q:Bool→Hp→Prop):Prop
 |mk (c:Bool) (_:x= .bl c) (_:Q c H):MS x H Q
def tB(t:TE):TT:=fun σ H Q=>t σ H fun x H1=>MS x H1 Q
theorem zE{op:CmpOp}{t:TE}(h:PC X op a b t)(h1:behindInMarks op b=false:=by first|exact bh _ (Zy) (Zy)|rfl):PE X (.Compare a [op] [b] pos) t:=fun pins s σ H Q I hw=>wpAny_Compare1 (h pins s σ H Q I hw) h1
theorem eE{op:CmpOp}{t:TE}(h:PC X op a b t)(h1:behindInMarks op b=false:=by first|exact bh _ (Zy) (Zy)|rfl):PT X (.Compare a [op] [b] pos) (tB t):=by
 intro pins s σ H Q I hw;refine wpAny_isTrue_Compare1 (cK (h pins s σ H _ I hw) fun v s1 h1=>cK h1 fun u s2 h2=>cK h2 fun c s3 ⟨x,H1,I1,r1,q1⟩=>?_) h1;obtain⟨d,rfl,q⟩:=q1;cases r1;exact wpAny_truthy_bool ⟨H1,I1,q⟩
theorem bE{e:Expr}{t:TE}(h:PE X e t)(he:∀whole,isTrue e X.env whole=(do let v←whole;standAt e.pos;holding [v] (truthy v)):=by intro _;rfl):PT X e (tB t):=by
 intro pins s σ H Q I hw;refine isTrue_plain (cK (h pins s σ H _ I hw) fun v s1 ⟨x,H1,I1,r1,q1⟩=>?_) (he _);obtain⟨d,rfl,q⟩:=q1;cases r1;exact wpAny_truthy_bool ⟨H1,I1,q⟩
variable{tA Pb:TT}{rest:List Expr}
def QI(t u:TT):TT:=fun σ H Q=>t σ H fun c H1=>if c=true then u σ H1 Q else Q false H1
def VL(t u:TT):TT:=fun σ H Q=>t σ H fun c H1=>if c=true then Q true H1 else u σ H1 Q
def QJ(t:TT):TT:=fun σ H Q=>t σ H fun c H1=>Q (!c) H1
theorem pw_and1(ha:PT X a tA):PW X (.BoolOp .And [a] pos) tA:=by
 intro wh pins s σ H Q I h;refine isTrue_and (cK (ha pins s σ H Q I h) fun c s1 e=>?_);cases c with
 |true=>exact isTrue_and_nil e
 |false=>exact e
theorem pw_or1(ha:PT X a tA):PW X (.BoolOp .Or [a] pos) tA:=by
 intro wh pins s σ H Q I h;refine isTrue_or (cK (ha pins s σ H Q I h) fun c s1 e=>?_);cases c with
 |false=>exact isTrue_or_nil e
 |true=>exact e
theorem pw_and(ha:PT X a tA)(hb:PW X (.BoolOp .And (b::rest) pos) Pb):PW X (.BoolOp .And (a::b::rest) pos) (QI tA Pb):=by
 intro wh pins s σ H Q I h;refine isTrue_and (cK (ha pins s σ H _ I h) fun c s1 ⟨H1,I1,q1⟩=>?_);cases c with
 |true=>exact hb wh pins s1 σ H1 Q I1 q1
 |false=>exact⟨H1,I1,q1⟩
theorem pw_or(ha:PT X a tA)(hb:PW X (.BoolOp .Or (b::rest) pos) Pb):PW X (.BoolOp .Or (a::b::rest) pos) (VL tA Pb):=by
 intro wh pins s σ H Q I h;refine isTrue_or (cK (ha pins s σ H _ I h) fun c s1 ⟨H1,I1,q1⟩=>?_);cases c with
 |true=>exact⟨H1,I1,q1⟩
 |false=>exact hb wh pins s1 σ H1 Q I1 q1
theorem bR(ha:PT X a tA):PT X (.UnaryOp .Not a pos) (QJ tA):=by
 intro pins s σ H Q I h;exact isTrue_not (ha pins s σ H (fun c H1=>Q (!c) H1) I h)
def MT(ta tb:TE):TE:=fun σ H Q=>ta σ H fun x H1=>∃c,x= .bl c∧if c=true then tb σ H1 Q else Q (.bl false) H1
def MU(ta:TE):TE:=fun σ H Q=>ta σ H fun x H1=>∃c,x= .bl c∧Q (.bl (!c)) H1
theorem vZ{op}{t:TE}(h:PE X a t):PE X (.BoolOp op [a] pos) t:=fun pins s σ H Q I hw=>BoolOp_one (h pins s σ H Q I hw)
theorem v5(ha:PE X a ta)(hb:PE X (.BoolOp .And (b::rest) pos) tb):PE X (.BoolOp .And (a::b::rest) pos) (MT ta tb):=by
 intro pins s σ H Q I h;refine BoolOp_and (cK (ha pins s σ H _ I h) fun v s1 ⟨x,H1,I1,r1,q1⟩=>?_);obtain⟨c,rfl,q1⟩:=q1;cases r1;refine wpAny_truthy_bool ?_;cases c with
 |true=>exact hb pins s1 σ H1 Q I1 q1
 |false=>exact⟨.bl false,H1,I1,rfl,q1⟩
theorem JI(ha:PE X a ta):PE X (.UnaryOp .Not a pos) (MU ta):=by
 intro pins s σ H Q I h;refine UnaryOp_ (cK (ha pins s σ H _ I h) fun v s1 ⟨x,H1,I1,r1,q1⟩=>?_);obtain⟨c,rfl,q1⟩:=q1;cases r1;exact not_of (wpAny_truthy_bool ⟨.bl (!c),H1,I1,rfl,q1⟩)
def VM(t:TT)(ta tb:TE):TE:=fun σ H Q=>t σ H fun c H1=>if c=true then ta σ H1 Q else tb σ H1 Q
theorem oe{c:Expr}(hc:PT X c tA)(ha:PE X a ta)(hb:PE X b tb):PE X (.IfExp c a b pos) (VM tA ta tb):=by
 intro pins s σ H Q I h;refine wpAny_IfExp (cK (hc pins s σ H _ I h) fun d s1 ⟨H1,I1,q1⟩=>?_);cases d with
 |true=>exact ha pins s1 σ H1 Q I1 q1
 |false=>exact hb pins s1 σ H1 Q I1 q1
end
def iA(K:PySem.W.Frag)(H:Hp)(a:Addr)(xs:List V):Prop:=
 Rd H a (.lst xs)∨
  ∃(o:Obj)(its:Array Value)(n:Nat),K.lookup a=some o∧o.cls= .type "list"∧o.dict=none∧o.data= .seq its n∧its.size≤sizeLine∧Vals xs its.toList
def DG(K:PySem.W.Frag)(H:Hp)(a:Addr)(xs:List V):Prop:=
 Rd H a (.tup xs)∨
  ∃(o:Obj)(its:Array Value)(n:Nat),K.lookup a=some o∧o.cls= .type "tuple"∧o.data= .seq its n∧its.size≤sizeLine∧Vals xs its.toList
def QK:Value→Option V
 | .none=>some .cO
 | .bool b=>some (.bl b)
 | .int i _=>some (.int i)
 | .str x _=>some (.str x)
 | .bytes b _=>some (.B4 b)
 | .float b _=>some (.HY b)
 | .ref a=>some (.ref a)
 | .type n=>some (.ty n)
 | _=>none
theorem RelV.abs{x:V}{u:Value}(r:RelV x u):QK u=some x:=by
 cases x with
 |cO=>cases r;rfl
 |bl _=>cases r;rfl
 |int _=>obtain⟨t,rfl⟩:=r;rfl
 |str _=>obtain⟨t,rfl⟩:=r;rfl
 |B4 _=>obtain⟨t,rfl⟩:=r;rfl
 |HY _=>obtain⟨t,rfl⟩:=r;rfl
 |ref _=>cases r;rfl
 |ty _=>cases r;rfl
theorem RelV.inj{x y:V}{u:Value}(r:RelV x u)(q:RelV y u):x=y:=Zp (r.abs.symm.trans q.abs)
theorem Vals.inj:∀{xs ys:List V}{us:List Value},Vals xs us→Vals ys us→xs=ys
 | _,_,_, .nil, .nil=>rfl
 | _,_,_, .cons r t, .cons r' t'=>by rw[r.inj r',Vals.inj t t']
section
variable{X:Cx}{pins:List (Addr×Obj)}{σ:St}{H:Hp}{s:Shared}{a:Addr}{xs ys:List V}
theorem iA.of{K:PySem.W.Frag}(h:H a=some (.lst xs)):iA K H a xs:= .inl (.inl h)
theorem DG.of{K:PySem.W.Frag}(h:H a=some (.tup xs)):DG K H a xs:= .inl (.inl h)
theorem Inv.list(I:Inv X pins σ H s)(h:iA X.K H a xs):∃its:List Value,Vals xs its∧PlainL s.heap a its.toArray∧xs.length≤sizeLine:=by
 rcases h with h|⟨o,its,n,hk,hc,hd,hs,hz,r⟩
 ·obtain⟨z,its,n,r,e⟩:=h.ok I.bX;exact⟨its,r,⟨_,n,e,rfl,rfl,rfl⟩,z⟩
 ·refine⟨its.toList,r,⟨o,n,I.p8 a o hk,hc,hd,by simpa using hs⟩,?_⟩;have e:=r.length;simp only[Array.length_toList]at e;omega
theorem Inv.tuple(I:Inv X pins σ H s)(h:DG X.K H a xs):∃its:List Value,Vals xs its∧IsTup s.heap a its.toArray∧xs.length≤sizeLine:=by
 rcases h with h|⟨o,its,n,hk,hc,hs,hz,r⟩
 ·obtain⟨z,its,r,p⟩:=h.ok I.bX;exact⟨its,r,p,z⟩
 ·refine⟨its.toList,r,⟨o,I.p8 a o hk,hc,n,by simpa using hs⟩,?_⟩;have e:=r.length;simp only[Array.length_toList]at e;omega
theorem Inv.yh(I:Inv X pins σ H s)(h:iA X.K H a xs)(h':iA X.K H a ys):xs=ys:=by
 obtain⟨its,r,⟨o,n,e,_,_,d⟩,_⟩:=I.list h;obtain⟨its',r',⟨o',n',e',_,_,d'⟩,_⟩:=I.list h';rw[e]at e';cases e';rw[d]at d';injection d' with d1 _;have:its=its':=by simpa using congrArg Array.toList d1
 subst this;exact r.inj r'
end
abbrev Cx.VN(X:Cx)(E:Value→Shared→Prop):Cx:={X with xe:=E}
section
variable{X:Cx}{pins:List (Addr×Obj)}{σ:St}{H:Hp}{s:Shared}{E:Value→Shared→Prop}
end
section
variable{X:Cx}{st:Stmt}{rest:List Stmt}{t u:TS}{e:Expr}{te:TE}{pos:Pos}
def MV:TS:=fun D σ H=>D.nx σ H
def QL(t u:TS):TS:=fun D σ H=>t {D with nx:=u D} σ H
theorem aP:B6 X [] MV:=fun _ _ σ H _ I h=>wpAny_execs_nil ⟨σ,H,I,h⟩
theorem au(h1:PS X st t)(h2:B6 X rest u):B6 X (st::rest) (QL t u):=by
 intro pins s σ H D I h;refine wpAny_execs_cons (cK (h1 pins s σ H {D with nx:=u D} I h) fun f s1 q=>?_);cases f with
 |next=>
  obtain⟨bH,H',I',q⟩:=q;exact h2 pins s1 bH H' D I' q
 |ret v=>exact q
 |brk=>exact q
 |cont=>exact q
theorem aj(h1:PS X st t):B6 X [st] t:=by
 intro pins s σ H D I h;refine wpAny_execs_cons (cK (h1 pins s σ H D I h) fun f s1 q=>?_);cases f with
 |next=>exact wpAny_execs_nil q
 |ret v=>exact q
 |brk=>exact q
 |cont=>exact q
theorem Inv.quiet{pins:List (Addr×Obj)}{σ:St}{H:Hp}{s:Shared}(I:Inv X pins σ H s):interactive X.env=false:=by simp[interactive,I.ok.kind]
def MW(te:TE):TS:=fun D σ H=>te σ H fun _ H1=>D.nx σ H1
theorem aY(he:PE X e te)(hs:swapsWith e none pos.line X.env=pure false:=by rfl):PS X (.Expr e pos) (MW te):=by
 intro pins s σ H D I h;exact wpAny_Expr_any (cK (he pins s σ H _ I h) fun v s1 ⟨x,H1,I1,r1,q1⟩=>⟨σ,H1,I1,q1⟩) I.quiet hs
def QM(te:TE):TS:=fun D σ H=>te σ H D.rt
theorem aK(he:PE X e te):PS X (.Return (some e) pos) (QM te):=by
 intro pins s σ H D I h;exact wpAny_Return_some (cK (he pins s σ H _ I h) fun v s1 ⟨x,H1,I1,r1,q1⟩=>⟨x,σ,H1,I1,r1,q1⟩)
def QN(c:TT)(t u:TS):TS:=fun D σ H=>c σ H fun b H1=>if b=true then t D σ H1 else u D σ H1
theorem aX{c:Expr}{a b:List Stmt}{tc:TT}(hc:PT X c tc)(ha:B6 X a t)(hb:B6 X b u):PS X (.If c a b pos) (QN tc t u):=by
 intro pins s σ H D I h;refine wpAny_If (cK (hc pins s σ H _ I h) fun d s1 ⟨H1,I1,q1⟩=>?_);cases d with
 |true=>exact ha pins s1 σ H1 D I1 q1
 |false=>exact hb pins s1 σ H1 D I1 q1
end
abbrev TG:=V→St→Hp→(St→Hp→Prop)→Prop
abbrev Ic:=List V→St→Hp→(St→Hp→Prop)→Prop
def PG(X:Cx)(target:Expr)(t:TG):Prop:=
 ∀(pins:List (Addr×Obj))(s:Shared)(σ:St)(H:Hp)(v:V)(u:Value)(Q:St→Hp→Prop),Inv X pins σ H s→RelV v u→t v σ H Q→
  wpAny (model X.prog X.w) X.A (assign target X.env u) (fun _ s'=>∃bH H',Inv X pins bH H' s'∧Q bH H') X.xe s
def MY(X:Cx)(ts:List Expr)(t:Ic):Prop:=
 ∀(pins:List (Addr×Obj))(s:Shared)(σ:St)(H:Hp)(vs:List V)(us:List Value)(Q:St→Hp→Prop),Inv X pins σ H s→Vals vs us→t vs σ H Q→
  wpAny (model X.prog X.w) X.A (assignInOrder ((assignEach ts X.env).map (·.2)) us) (fun _ s'=>∃bH H',Inv X pins bH H' s'∧Q bH H') X.xe s
abbrev JJ:=V→V→V→Hp→(Hp→Prop)→Prop
def MZ(X:Cx)(t:JJ):Prop:=
 ∀(pins:List (Addr×Obj))(s:Shared)(σ:St)(H:Hp)(o i v:V)(ov iv u:Value)(Q:Hp→Prop),Inv X pins σ H s→RelV o ov→RelV i iv→RelV v u→t o i v H Q→
  wpAny (model X.prog X.w) X.A (setItem ov iv u) (fun _ s'=>∃H',Inv X pins σ H' s'∧Q H') X.xe s
section
variable{X:Cx}{pos:Pos}
def A3(i:Nat):TG:=fun v σ H Q=>Q (σ.set i (some v)) H
theorem aL{i:Nat}{x:Str}(hN:X.N.Nodup)(hi:X.N[i]?=some x)(hx:Loc X.env.scope x)(hf:X.fn x=true∨X.env.scope.names.lookup x=some .local:=by first|exact .inl rfl|exact .inr rfl|assumption):PG X (.Name x pos) (A3 i):=by
 intro pins s σ H v u Q I r h;exact wpAny_assign_Name (yf I hN hi hx r (fun s' I'=>⟨_,H,I',h⟩) hf)
def QO:Ic:=fun vs σ H Q=>vs=[]∧Q σ H
def M0(t:TG)(u:Ic):Ic:=fun vs σ H Q=>∃v r,vs=v::r∧t v σ H fun bH H'=>u r bH H' Q
theorem fX:MY X [] QO:=by
 intro pins s σ H vs us Q I r h;obtain⟨e,h⟩:=h;subst e;cases r;exact assignInOrder_nil ⟨σ,H,I,h⟩
theorem bf{e:Expr}{es:List Expr}{t:TG}{u:Ic}(h1:PG X e t)(h2:MY X es u)
  (hs:(assignEach (e::es) X.env).map (·.2)=assign e X.env::(assignEach es X.env).map (·.2):=by rfl):MY X (e::es) (M0 t u):=by
 intro pins s σ H vs us Q I r h;obtain⟨v,vr,e1,h⟩:=h;subst e1;cases r with
 |cons r rr=>
  rw[hs];refine assignInOrder_cons (cK (h1 pins s σ H _ _ _ I r h) fun _ s1 ⟨LS,H1,I1,q1⟩=>?_);exact h2 pins s1 LS H1 _ _ Q I1 rr q1
inductive JK(K:PySem.W.Frag)(n:Nat)(t:Ic)(v:V)(σ:St)(H:Hp)(Q:St→Hp→Prop):Prop
 |mk (a:_) (xs:_) (_:v= .ref a) (_:DG K H a xs) (_:xs.length=n) (_:t xs σ H Q):JK K n t v σ H Q
theorem JL{es:List Expr}{k:Nat}{t:Ic}{n:Nat}(hc:X.calm=true)(h:MY X es t)
  (hn:(assignEach es X.env).length=n:=by rfl) (vi:(assignEach es X.env).findIdx? (·.1)=none:=by rfl):PG X (.Tuple es k pos) (JK X.K n t):=by
 intro pins s σ H v u Q I r hw;obtain⟨a,xs,e1,hq,hl,hw⟩:=hw;subst e1;cases r;obtain⟨its,rv,ht,hz⟩:=I.tuple hq;refine assign_Tuple_tuple (I.ok.hd hc) ht (by simp[hn,←hl,rv.length]) vi fun h' hx=>?_
 have I1:Inv X pins σ H {s with heap:=h'}:=I.kept (t':=s.toks) fun b o e=>hx b o (Nat.ne_of_lt (Heap.lt_size e)) e
 exact h pins _ σ H xs _ Q I1 (by simpa using rv) hw
def QP(to ti:TE)(t:JJ):TG:=fun v σ H Q=>to σ H fun o H1=>ti σ H1 fun i H2=>t o i v H2 fun H3=>Q σ H3
theorem JM{o i:Expr}{to ti:TE}{t:JJ}(ho:PE X o to)(hi:PE X i ti)(hs:MZ X t)
  (ha:∀v,assign (.Subscript o i pos) X.env v=(do
   let ov←holding [v] (eval o X.env)
   let iv←holding [v,ov] (eval i X.env)
   standAt pos
   holding [v,ov,iv] (setItem ov iv v)
   release [v,ov,iv] []):=by intro _;rfl):PG X (.Subscript o i pos) (QP to ti t):=by
 intro pins s σ H v u Q I r h;rw[ha];refine wpAny_bind (wpAny_holding (cK (ho pins s σ H _ I h) fun ov s1 ⟨x,H1,I1,r1,q1⟩=>?_));refine wpAny_bind (wpAny_holding (cK (hi pins s1 σ H1 _ I1 q1) fun iv s2 ⟨y,H2,I2,r2,q2⟩=>?_));refine wpAny_bind (wpAny_standAt (wpAny_bind (wpAny_holding (cK (hs pins s2 σ H2 x y v ov iv u _ I2 r1 r2 r q2) fun _ s3 ⟨H3,I3,q3⟩=>?_))));exact wpAny_release ⟨σ,H3,I3,q3⟩
def JN(te:TE)(g:TG):TS:=fun D σ H=>te σ H fun x H1=>g x σ H1 D.nx
theorem zF{tg e:Expr}{te:TE}{g:TG}(he:PE X e te)(hg:PG X tg g)(hs:swapsWithSole [tg] e pos.line X.env=pure false:=by rfl)(hw:swappedStores [tg] e X.env=pure none:=by rfl)
  (h1:(assignEach [tg] X.env).map (·.2)=[assign tg X.env]:=by rfl):PS X (.Assign [tg] e pos) (JN te g):=by
 intro pins s σ H D I h;refine wpAny_Assign_stores (cK (he pins s σ H _ I h) fun v s1 ⟨x,H1,I1,r1,q1⟩=>?_) hs hw;rw[h1];exact cK (hg pins s1 σ H1 x v _ I1 r1 q1) fun _ s2 q=>q
theorem aH{i:Nat}{x:Str}{e:Expr}{te:TE}{pos':Pos}(hN:X.N.Nodup)(hi:X.N[i]?=some x)(hx:Loc X.env.scope x)(he:PE X e te)(hs:swapsWith e (some (.Name x pos')) pos.line X.env=pure false:=by rfl)(hf:X.fn x=true∨X.env.scope.names.lookup x=some .local:=by first|exact .inl rfl|exact .inr rfl|assumption):
  PS X (.Assign [.Name x pos'] e pos) (JN te (A3 i)):=by
 intro pins s σ H D I h;refine wpAny_Assign_Name (cK (he pins s σ H _ I h) fun v s1 ⟨y,H1,I1,r1,q1⟩=>?_) hs;exact yf I1 hN hi hx r1 (fun s2 I2=>⟨_,H1,I2,q1⟩) hf
end
section
variable{X:Cx}{pos:Pos}
def JO(c:TT)(tb:TS):TS:=fun D σ H=>∃W:Nat→St→Hp→Prop,(∃m,W m σ H)∧∀m σ H,W m σ H→
 c σ H fun b H1=>if b=true then ∃N:St→Hp→Prop,(∀bH H',N bH H'→∃m',m'<m∧W m' bH H')∧tb {D with nx:=N,ct:=N,bk:=D.nx} σ H1 else D.nx σ H1
theorem sF{c:Expr}{body:List Stmt}{tc:TT}{tb:TS}(hp:PassesOwn (model X.prog X.w) X.A X.env X.xe)(hc:PT X c tc)(hb:B6 X body tb):PS X (.While c body [] pos) (JO tc tb):=by
 intro pins s σ H D I h;obtain⟨W,⟨m0,w0⟩,turn⟩:=h;refine wpAny_While (codeAny_whileLoop (fun n s'=>∃bH H',Inv X pins bH H' s'∧W n bH H') ?_ m0 ⟨σ,H,I,w0⟩);rintro n s1 ⟨LS,H1,I1,w1⟩;refine wpAny_passesOwn hp (cK (hc pins s1 LS H1 _ I1 (turn n LS H1 w1)) fun b s2 ⟨H2,I2,q2⟩=>?_);cases b with
 |true=>
  obtain⟨N,hN,q2⟩:=q2;rw[if_pos rfl];refine wpAny_passesOwn hp (cK (hb pins s2 LS H2 _ I2 q2) fun f s3 q3=>?_);cases f with
  |next=>
   obtain⟨DH,H3,I3,n3⟩:=q3;obtain⟨m',hm,w3⟩:=hN DH H3 n3;exact⟨m',hm,DH,H3,I3,w3⟩
  |cont=>
   obtain⟨DH,H3,I3,n3⟩:=q3;obtain⟨m',hm,w3⟩:=hN DH H3 n3;exact⟨m',hm,DH,H3,I3,w3⟩
  |brk=>exact q3
  |ret v=>exact q3
 |false=>
  rw[Zh Bool.false_ne_true];exact wpAny_execs_nil ⟨LS,H2,I2,q2⟩
end
structure It where
 go:Nat→Hp→Prop
 Gb:Nat→Hp→V→Hp→Prop
 stop:Nat→Hp→Prop
def iq(X:Cx)(pins:List (Addr×Obj))(H:Hp)(b:Addr):Prop:=
 H b=none∧b≠X.env.locals∧b∉X.fs∧(b∈X.ex∨X.dB.heap.objs.size≤b)∧(∀x c,X.env.cells.lookup x=some c→c≠b)∧∀p∈X.pn++pins,p.1≠b
theorem Inv.uy{X:Cx}{pins:List (Addr×Obj)}{σ:St}{H H':Hp}{s:Shared}{b:Addr}(I:Inv X pins σ H s)(hb:s.heap.objs.size≤b)(hn:H' b=none):iq X pins H' b:=by
 refine⟨hn,Nat.ne_of_gt (Nat.lt_of_lt_of_le I.lt hb),I.QD hb, .inr (Nat.le_trans I.sz hb),fun x c e z=>?_,fun p hp z=>?_⟩
 ·obtain⟨v,q⟩:=I.cell x c e;exact absurd (Nat.lt_of_lt_of_le q.lt (by rw[z];exact hb)) (Nat.lt_irrefl _)
 ·exact absurd (Nat.lt_of_lt_of_le (Heap.lt_size (I.pin p hp).1) (by rw[z];exact hb)) (Nat.lt_irrefl _)
structure Turn(P:Program)(w:World)(K:PySem.W.Frag)(tg:Expr)(J:It)(fp:List Addr)(it:Addr)(tn:Nat→Heap→Prop):Prop where
 mem:it∈fp
 obj:∀i h,tn i h→∀b∈fp,∃o,h.get? b=some o∧∀v,o.data≠ .cell v
 keep:∀i h h',tn i h→(∀b∈fp,∀o,h.get? b=some o→h'.get? b=some o)→tn i h'
 item:∀(X:Cx),X.prog=P→X.w=w→X.K=K→X.calm=true→∀(i:Nat)(pins:List (Addr×Obj))(s:Shared)(σ:St)(H:Hp)(E:Value→Shared→Prop),Inv X pins σ H s→(∀b∈fp,iq X pins H b)→tn i s.heap→J.go i H→
  wpAny (model P w) X.A (pyNext (.ref it)) (fun r s1=>∃u,r=some u∧
   wpAny (model P w) X.A (letOwnedTupleGo tg (.ref it) u) (fun _ s2=>∃x H',Inv X pins σ H' s2∧RelV x u∧J.Gb i H x H'∧tn (i+1) s2.heap∧∀b∈fp,H' b=none) E s1) E s
 done:∀(X:Cx),X.prog=P→X.w=w→X.K=K→X.calm=true→∀(i:Nat)(pins:List (Addr×Obj))(s:Shared)(σ:St)(H:Hp)(E:Value→Shared→Prop),Inv X pins σ H s→(∀b∈fp,iq X pins H b)→tn i s.heap→J.stop i H→
  wpAny (model P w) X.A (pyNext (.ref it)) (fun r s1=>r=none∧Inv X pins σ H s1) E s
 self:∀(A:Around)(i:Nat)(s:Shared)(Q:Value→Shared→Prop)(E:Value→Shared→Prop),tn i s.heap→Q (.ref it) s→wpAny (model P w) A (pyIter (.ref it)) Q E s
abbrev TI:=St→Hp→(It→Hp→Prop)→Prop
def QR(X:Cx)(pins:List (Addr×Obj))(σ:St)(tg:Expr)(R:It→Hp→Prop)(QS:Value)(s2:Shared):Prop:=
 ∃(it:Addr)(fp:List Addr)(tn:Nat→Heap→Prop)(J:It)(H':Hp),QS= .ref it∧Inv X pins σ H' s2∧Turn X.prog X.w X.K tg J fp it tn∧tn 0 s2.heap∧(∀b∈fp,iq X pins H' b)∧R J H'
def PI(X:Cx)(tg iter:Expr)(wi:TI):Prop:=
 ∀(pins:List (Addr×Obj))(s:Shared)(σ:St)(H:Hp)(R:It→Hp→Prop),Inv X pins σ H s→wi σ H R→
  wpAny (model X.prog X.w) X.A (eval iter X.env) (fun v s1=>wpAny (model X.prog X.w) X.A (pyIter v) (QR X pins σ tg R) X.xe s1) X.xe s
theorem yi{M:Model}{A:Around}{E:Value→Shared→Prop}{s:Shared}{tg:Expr}{it:Addr}{u:Value}{o:Obj}{n:String}{vs:Array Value}{Q:Unit→Shared→Prop}(ho:s.heap.get? it=some o)(hc:o.cls= .type n)(hd:o.data= .fields vs)
  (hn:["enumerate","zip","dict_itemiterator","dict_reverseitemiterator","odict_iterator","itertools.zip_longest","itertools.pairwise"].contains n=false) (hQ:Q () s):wpAny M A (letOwnedTupleGo tg (.ref it) u) Q E s:=by
 unfold letOwnedTupleGo;cases tg<;>first
  |exact wpAny_pure hQ
  |(cases u<;>first
    |exact wpAny_pure hQ
    |(refine wpAny_bind (wpAny_load ho ?_)
      rw[hc,hd];show wpAny M A (if (["enumerate","zip","dict_itemiterator","dict_reverseitemiterator","odict_iterator","itertools.zip_longest","itertools.pairwise"].contains n&&vs[0]?==some (rawInt _))=true then _ else _) Q E s;rw[Zh (by intro h;rw[hn,Bool.false_and]at h;cases h)];exact wpAny_pure hQ))
def LU(K:PySem.W.Frag)(a:Addr):It:=
 ⟨fun i H=>∃xs x,iA K H a xs∧xs[i]?=some x,fun i H x H'=>H'=H∧∀xs,iA K H a xs→xs[i]?=some x,fun i H=>∃xs,iA K H a xs∧xs.length≤i⟩
def JP(lo:Int)(n:Nat):It:=⟨fun i _=>i<n,fun i H x H'=>H'=H∧x= .int (lo+i),fun i _=>n≤i⟩
theorem B8{P:Program}{w:World}{K:PySem.W.Frag}{tg:Expr}(a it:Addr):Turn P w K tg (LU K a) [it] it (fun i h=>h.IsListIter it a i) where
 mem:=ZA
 obj:=fun i h st b hb=>by
  have e:b=it:=by simpa using hb
  subst e;obtain⟨o,e,c,d⟩:=st;exact⟨o,e,fun v z=>by rw[d]at z;cases z⟩
 keep:=fun i h h' st k=>st.at fun o e=>k it (ZA) o e
 item:=by
  intro X hP hw hK hc i pins s σ H E I hf st hg;subst hP hw hK;obtain⟨xs,x,hq,hx⟩:=hg;obtain⟨its,rv,p,hz⟩:=I.list hq;obtain⟨u,hu,ru⟩:=rv.get hx;obtain⟨f0,f1,f2,f3,f4,f5⟩:=hf it (ZA);refine wpAny_pyNext_list_item st p.isList (x:=u) (by simpa using hu) fun h' aU sb=>?_
  have I1:Inv X pins σ H {s with heap:=h'}:=I.turned (t':=s.toks) (fun b o hb e=>(sb.2 b hb).trans e) f0 f1 f3 f4 f5;obtain⟨o,e,c,d⟩:=id aU;exact⟨u,rfl,yi (s:={s with heap:=h'}) e c d (Zy) ⟨x,H,I1,ru,⟨rfl,fun ys hy=>by rw[I.yh hy hq];exact hx⟩,aU,fun b hb=>(hf b hb).1⟩⟩
 done:=by
  intro X hP hw hK hc i pins s σ H E I hf st hg;subst hP hw hK;obtain⟨xs,hq,hx⟩:=hg;obtain⟨its,rv,p,hz⟩:=I.list hq;obtain⟨f0,f1,f2,f3,f4,f5⟩:=hf it (ZA);have hl:=rv.length;exact wpAny_pyNext_list_end (I.ok.hd hc) st p.isList (by simp;omega) fun h' eb=>⟨rfl,I.turned (t':=s.toks) (fun b o hb e=>eb b o hb e) f0 f1 f3 f4 f5⟩
 self:=fun _ _ _ _ _ st h=>wpAny_pyIter_listiter st h
theorem zG{P:Program}{w:World}{K:PySem.W.Frag}{tg:Expr}(it:Addr)(lo:Int)(n:Nat):Turn P w K tg (JP lo n) [it] it (fun i h=>IsRangeIter h it (lo+(i:Nat)*1) ((n:Int)-(i:Nat)) 1) where
 mem:=ZA
 obj:=fun i h st b hb=>by
  have e:b=it:=by simpa using hb
  subst e;exact⟨_,st,fun v z=>by
   have z':Data.fields _=Data.cell v:=z;cases z'⟩
 keep:=fun i h h' st k=>k it (ZA) _ st
 item:=by
  intro X hP hw hK hc i pins s σ H E I hf st hg;subst hP hw hK;obtain⟨f0,f1,f2,f3,f4,f5⟩:=hf it (ZA);have W:=Walks.range (prog:=X.prog) (w:=X.w) (I.ok.hd hc) it lo 1 n;refine W.item i s _ _ hg st fun v h' tk hv aU kk=>?_
  obtain⟨t,rfl⟩:=hv;have I1:Inv X pins σ H {s with heap:=h',toks:=tk}:=I.turned (fun b o hb e=>kk b o (by simpa using hb) e) f0 f1 f3 f4 f5;refine⟨_,rfl,yi (s:={s with heap:=h',toks:=tk}) (n:="range_iterator") aU rfl rfl (Zy) ⟨.int (lo+i),H,I1,⟨t,?_⟩,⟨rfl,rfl⟩,aU,fun b hb=>(hf b hb).1⟩⟩;rw[Int.mul_one]
 done:=by
  intro X hP hw hK hc i pins s σ H E I hf st hg;subst hP hw hK;obtain⟨f0,f1,f2,f3,f4,f5⟩:=hf it (ZA);exact wpAny_pyNext_range_end (I.ok.hd hc) st (by have:n≤i:=hg;omega) fun h' eb=>⟨rfl,I.turned (t':=s.toks) (fun b o hb e=>eb b o hb e) f0 f1 f3 f4 f5⟩
 self:=fun _ _ _ _ _ st h=>wpAny_pyIter_rangeiter st h
section
variable{X:Cx}{tg:Expr}
def Ie(K:PySem.W.Frag)(tl:TE):TI:=fun σ H R=>tl σ H fun x H1=>∃a,x= .ref a∧(∃xs,iA K H1 a xs)∧R (LU K a) H1
theorem Gd{l:Expr}{tl:TE}(hl:PE X l tl):PI X tg l (Ie X.K tl):=by
 intro pins s σ H R I h;refine cK (hl pins s σ H _ I h) fun v s1 ⟨x,H1,I1,r1,q1⟩=>?_
 obtain⟨a,e,⟨xs,hq⟩,q⟩:=q1;subst e;cases r1;obtain⟨its,rv,p,hz⟩:=I1.list hq;refine wpAny_pyIter_list p.isList ?_;refine⟨s1.heap.objs.size,[s1.heap.objs.size],_,_,H1,rfl,I1.kept (t':=s1.toks) fun b o e=>Zi e,B8 a _,⟨_,Heap.get?_push_size _ rfl,rfl,rfl⟩,fun b hb=>?_,q⟩;have e:b=s1.heap.objs.size:=by simpa using hb
 subst e;exact I1.uy (Nat.le_refl _) (I1.bX.fresh (Nat.le_refl _))
theorem DI{pins:List (Addr×Obj)}{σ:St}{H:Hp}{s:Shared}{R:It→Hp→Prop}{E:Value→Shared→Prop}{lo hi:Int}{t u v:Tok}{tk:Nat}(I:Inv X pins σ H s)(h1:-(2^62)≤lo)(h2:lo<2^62)(h3:-(2^62)≤hi)(h4:hi<2^62)
  (q:R (JP lo (hi-lo).toNat) H):wpAny (model X.prog X.w) X.A (pyIter (.ref s.heap.objs.size)) (QR X pins σ tg R) E {s with heap:=s.heap.push {cls:= .type "range",data:= .fields #[.int lo t, .int hi u, .int 1 v]},toks:=tk}:=by
 refine wpAny_pyIter_range (IsRange.new ..) (small_one h1 h2 h3 h4) ?_;have I1:Inv X pins σ H {s with heap:=s.heap.push {cls:= .type "range",data:= .fields #[.int lo t, .int hi u, .int 1 v]},toks:=tk}:=I.kept fun b o e=>Zi e
 refine⟨(s.heap.push {cls:= .type "range",data:= .fields #[.int lo t, .int hi u, .int 1 v]}).objs.size,[(s.heap.push {cls:= .type "range",data:= .fields #[.int lo t, .int hi u, .int 1 v]}).objs.size],_,_,H,rfl,
  I1.kept (t':=tk) fun b o e=>Zi e,zG _ lo (hi-lo).toNat,?_,fun b hb=>?_,q⟩
 ·have e1:lo+((0:Nat):Int)*1=lo:=ZA;have e2:(((hi-lo).toNat:Nat):Int)-((0:Nat):Int)=Builtin.Range.rangeSize lo hi 1:=by rw[rangeSize_one];split<;>omega
  show IsRangeIter _ _ (lo+((0:Nat):Int)*1) ((((hi-lo).toNat:Nat):Int)-((0:Nat):Int)) 1;rw[e1,e2];exact Heap.get?_push_size _ rfl
 ·have e:b=(s.heap.push {cls:= .type "range",data:= .fields #[.int lo t, .int hi u, .int 1 v]}).objs.size:=by simpa using hb
  subst e;exact I1.uy (Nat.le_refl _) (I1.bX.fresh (Nat.le_refl _))
def M4(ta:TA):TI:=fun σ H R=>ta σ H fun vs H1=>∃j:Int,vs=[.int j]∧-(2^62)≤j∧j<2^62∧R (JP 0 j.toNat) H1
theorem cL{a:Expr}{ta:TA}{p pos:Pos}(hg:Gl X "range")(hm:X.mg "range"=none)(ha:PA X [a] ta)(hs:starEach [a] X.env=[(false,eval a X.env)]:=by rfl):PI X tg (.Call (.Name "range" p) [a] [] pos) (M4 ta):=by
 intro pins s σ H R I h;refine Call_ (lh I hg hm boot_range (PyProof.Rows.callWith_type1 (cK (ha pos pins s σ H _ I h) fun us s1 ⟨vs,H1,I1,r1,q1⟩=>?_) hs rfl));obtain⟨j,e,q1,q2,q⟩:=q1;subst e;cases r1 with
 |cons r rr=>
  cases rr;obtain⟨t,rfl⟩:=r;exact call_range_1 (DI I1 Zt (Zx) q1 q2 (by simpa using q))
def QT(wi:TI)(g:TG)(tb:TS):TS:=fun D σ H=>wi σ H fun J H1=>∃W:Nat→Nat→St→Hp→Prop,(∃m,W 0 m σ H1)∧∀i m σ H,W i m σ H→
 (J.stop i H∧D.nx σ H)∨(J.go i H∧∃N:St→Hp→Prop,(∀bH H',N bH H'→∃m',m'<m∧W (i+1) m' bH H')∧∀x H',J.Gb i H x H'→g x σ H' fun fV H2=>tb {D with nx:=N,ct:=N,bk:=D.nx} fV H2)
def sG(fp:List Addr)(h:Heap):List (Addr×Obj):=fp.filterMap fun b=>(h.get? b).map fun o=>(b,o)
theorem gN{fp:List Addr}{h:Heap}{b:Addr}{o:Obj}(hb:b∈fp)(e:h.get? b=some o):(b,o)∈sG fp h:=List.mem_filterMap.mpr ⟨b,hb,by rw[e];rfl⟩
theorem B9{fp:List Addr}{h:Heap}{p:Addr×Obj}(hp:p∈sG fp h):p.1∈fp∧h.get? p.1=some p.2:=by
 obtain⟨b,hb,e⟩:=List.mem_filterMap.mp hp;cases q:h.get? b with
 |none=>rw[q]at e;cases e
 |some o=>
  rw[q]at e;have e':(b,o)=p:=Zp e;subst e';exact⟨hb,q⟩
theorem Inv.pinned{pins:List (Addr×Obj)}{σ:St}{H:Hp}{s:Shared}{fp:List Addr}(I:Inv X pins σ H s)(hf:∀b∈fp,iq X pins H b)(ho:∀b∈fp,∃o,s.heap.get? b=some o∧∀v,o.data≠ .cell v):Inv X (pins++sG fp s.heap) σ H s:=
 I.AZ fun p hp=>(List.mem_append.mp hp).elim (fun z=>I.pin p (List.mem_append_right _ z)) fun z=>by
  obtain⟨hb,e⟩:=B9 z;obtain⟨f0,f1,f2,_⟩:=hf p.1 hb;obtain⟨o,e',d⟩:=ho p.1 hb;rw[e]at e';cases e';exact⟨e,f0,f1,f2,d⟩
theorem Inv.lp{pins pl:List (Addr×Obj)}{σ:St}{H:Hp}{s:Shared}(I:Inv X (pins++pl) σ H s):Inv X pins σ H s:=I.AZ fun p hp=>I.pin p (List.mem_append_right _ (List.mem_append_left _ hp))
theorem bj{iter:Expr}{body:List Stmt}{wi:TI}{g:TG}{tb:TS}{pos:Pos}(hp:PassesOwn (model X.prog X.w) X.A X.env X.xe)(hc:X.calm=true)(hi:PI X tg iter wi)(hg:PG X tg g)(hb:B6 X body tb)
  (hs:∀x,foldedSetIterable iter X.env x=pure x:=by intro _;rfl):PS X (.For tg iter body [] pos) (QT wi g tb):=by
 intro pins s σ H D I h;refine wpAny_For (cK (hi pins s σ H _ I h) fun v s1 h1=>cK h1 fun QS s2 h2=>?_) hs;obtain⟨it,fp,tn,J,H2,e,I2,T,dQ,f2,W,⟨m0,w0⟩,turn⟩:=h2;subst e;have zH:∀{H':Hp},(∀b∈fp,H' b=none)→∀b∈fp,iq X pins H' b:=fun hn b hb=>⟨hn b hb,(f2 b hb).2⟩
 refine codeAny_forLoop_any (fun n s'=>∃i bH H',Inv X pins bH H' s'∧tn i s'.heap∧(∀b∈fp,H' b=none)∧W i n bH H') ?_ m0 ⟨0,σ,H2,I2,dQ,fun b hb=>(f2 b hb).1,w0⟩;rintro n s3 ⟨i,DH,H3,I3,DJ,LV,w3⟩;rcases turn i n DH H3 w3 with⟨stop,qn⟩|⟨go,N,hN,step⟩
 ·refine wpAny_passesOwn hp (cK (T.done X rfl rfl rfl hc i pins s3 DH H3 X.xe I3 (zH LV) DJ stop) fun r s4 ⟨hr,I4⟩=>?_);subst hr;exact wpAny_execs_nil ⟨DH,H3,I4,qn⟩
 ·refine wpAny_passesOwn hp (cK (T.item X rfl rfl rfl hc i pins s3 DH H3 X.xe I3 (zH LV) DJ go) fun r s4 ⟨u,hr,h4⟩=>?_);subst hr;refine wpAny_passesOwn hp (cK h4 fun _ s5 ⟨x,H5,I5,r5,y5,LW,Pc⟩=>?_);have VO:=I5.pinned (zH Pc) (T.obj _ _ LW);refine wpAny_passesOwn hp (cK (hg _ s5 DH H5 x u _ VO r5 (step x H5 y5)) fun _ s6 ⟨VP,H6,I6,q6⟩=>?_);refine wpAny_passesOwn hp (cK (hb _ s6 VP H6 _ I6 q6) fun f s7 q7=>?_);have again:∀{DK:St}{H7:Hp},Inv X (pins++sG fp s5.heap) DK H7 s7→N DK H7→∃m,m<n∧∃i bH H',Inv X pins bH H' s7∧tn i s7.heap∧(∀b∈fp,H' b=none)∧W i m bH H':=fun{DK H7} I7 n7=>by
   obtain⟨m',hm,w7⟩:=hN DK H7 n7;refine⟨m',hm,i+1,DK,H7,I7.lp,T.keep _ _ _ LW fun b hb o e=>(I7.pin (b,o) (List.mem_append_right _ (List.mem_append_right _ (gN hb e)))).1,fun b hb=>?_,w7⟩;obtain⟨o,e,d⟩:=T.obj _ _ LW b hb;exact(I7.pin (b,o) (List.mem_append_right _ (List.mem_append_right _ (gN hb e)))).2.1
  cases f with
  |next=>obtain⟨DK,H7,I7,n7⟩:=q7;exact again I7 n7
  |cont=>obtain⟨DK,H7,I7,n7⟩:=q7;exact again I7 n7
  |brk=>obtain⟨DK,H7,I7,q7⟩:=q7;exact⟨DK,H7,I7.lp,q7⟩
  |ret v=>obtain⟨x7,DK,H7,I7,r7,q7⟩:=q7;exact⟨x7,DK,H7,I7.lp,r7,q7⟩
end
theorem bJ{K:PySem.W.Frag}{a:Addr}{xs:List V}{g:TG}{tb:TS}{D:Ends}{σ:St}{H:Hp}(Pv:Nat→St→Hp→Prop)(h0:Pv 0 σ H)(hl:∀i σ H,i≤xs.length→Pv i σ H→iA K H a xs)
  (hs:∀i x σ H,xs[i]?=some x→Pv i σ H→g x σ H fun fV H2=>tb {D with nx:=Pv (i+1),ct:=Pv (i+1),bk:=D.nx} fV H2) (hd:∀σ H,Pv xs.length σ H→D.nx σ H):
  ∃W:Nat→Nat→St→Hp→Prop,(∃m,W 0 m σ H)∧∀i m σ H,W i m σ H→
   ((LU K a).stop i H∧D.nx σ H)∨((LU K a).go i H∧∃N:St→Hp→Prop,(∀bH H',N bH H'→∃m',m'<m∧W (i+1) m' bH H')∧∀x H',(LU K a).Gb i H x H'→g x σ H' fun fV H2=>tb {D with nx:=N,ct:=N,bk:=D.nx} fV H2):=by
 refine⟨fun i m σ H=>m=xs.length-i∧i≤xs.length∧Pv i σ H,⟨xs.length,ZA,Nat.zero_le _,h0⟩,?_⟩;rintro i m σ H ⟨rfl,hi,p⟩;have q:=hl i σ H hi p;by_cases h_:i<xs.length
 ·refine .inr ⟨⟨xs,xs[i],q,by simp[h_]⟩,Pv (i+1),fun bH H' p'=>⟨xs.length-(i+1),Zx,rfl,h_,p'⟩,fun x H' y=>?_⟩;obtain⟨e,y⟩:=y;subst e;exact hs i x σ _ (y xs q) p
 ·have e:i=xs.length:=Zx;subst e;exact .inl ⟨⟨xs,q,Nat.le_refl _⟩,hd σ H p⟩
theorem dI{lo:Int}{n:Nat}{g:TG}{tb:TS}{D:Ends}{σ:St}{H:Hp}(Pv:Nat→St→Hp→Prop)(h0:Pv 0 σ H)
  (hs:∀i σ H,i<n→Pv i σ H→g (.int (lo+i)) σ H fun fV H2=>tb {D with nx:=Pv (i+1),ct:=Pv (i+1),bk:=D.nx} fV H2) (hd:∀σ H,Pv n σ H→D.nx σ H):
  ∃W:Nat→Nat→St→Hp→Prop,(∃m,W 0 m σ H)∧∀i m σ H,W i m σ H→
   ((JP lo n).stop i H∧D.nx σ H)∨((JP lo n).go i H∧∃N:St→Hp→Prop,(∀bH H',N bH H'→∃m',m'<m∧W (i+1) m' bH H')∧∀x H',(JP lo n).Gb i H x H'→g x σ H' fun fV H2=>tb {D with nx:=N,ct:=N,bk:=D.nx} fV H2):=by
 refine⟨fun i m σ H=>m=n-i∧i≤n∧Pv i σ H,⟨n,ZA,Nat.zero_le _,h0⟩,?_⟩;rintro i m σ H ⟨rfl,hi,p⟩;by_cases h_:i<n
 ·refine .inr ⟨h_,Pv (i+1),fun bH H' p'=>⟨n-(i+1),Zx,rfl,h_,p'⟩,fun x H' y=>?_⟩;obtain⟨e,y⟩:=y;subst e y;exact hs i σ _ h_ p
 ·have e:i=n:=Zx;subst e;exact .inl ⟨Nat.le_refl _,hd σ H p⟩
abbrev R2:=V→V→Hp→VK→Prop
def rJ(X:Cx)(f:Value→Value→Sem Value)(r:R2):Prop:=
 ∀(pins:List (Addr×Obj))(s:Shared)(σ:St)(H:Hp)(x y:V)(v u:Value)(Q:VK),Inv X pins σ H s→RelV x v→RelV y u→r x y H Q→
  wpAny (model X.prog X.w) X.A (f v u) (EP X pins σ Q) X.xe s
def QU(X:Cx)(f:Value→Sem Value)(r:V→Hp→VK→Prop):Prop:=
 ∀(pins:List (Addr×Obj))(s:Shared)(σ:St)(H:Hp)(x:V)(v:Value)(Q:VK),Inv X pins σ H s→RelV x v→r x H Q→
  wpAny (model X.prog X.w) X.A (f v) (EP X pins σ Q) X.xe s
def iW(X:Cx)(f:Value)(r:List V→Hp→VK→Prop):Prop:=
 ∀(pins:List (Addr×Obj))(s:Shared)(σ:St)(H:Hp)(xs:List V)(us:List Value)(Q:VK),Inv X pins σ H s→Vals xs us→r xs H Q→
  wpAny (model X.prog X.w) X.A (call f us) (EP X pins σ Q) X.xe s
def Pd(r:R2)(ta tb:TE):TE:=fun σ H Q=>ta σ H fun x H1=>tb σ H1 fun y H2=>r x y H2 Q
def VQ(r:V→Hp→VK→Prop)(ta:TE):TE:=fun σ H Q=>ta σ H fun x H1=>r x H1 Q
inductive rI(C:Int→Int→Prop)(g:Int→Int→V)(x:V)(y:V)(H:Hp)(Q:VK):Prop
 |mk (i:_) (j:_) (_:x= .int i) (_:y= .int j) (_:C i j) (_:Q (g i j) H):rI C g x y H Q
inductive Ge(g:Int→Int→V)(x:V)(y:V)(H:Hp)(Q:VK):Prop
 |mk (i:_) (j:_) (_:x= .int i) (_:y= .int j) (_:Q (g i j) H):Ge g x y H Q
inductive rU(g:Int→V)(x:V)(H:Hp)(Q:VK):Prop
 |mk (i:_) (_:x= .int i) (_:Q (g i) H):rU g x H Q
section
variable{X:Cx}{a b c:Expr}{ta tb tc:TE}{pos:Pos}
theorem JQ(ha:PE X a ta)(hb:PE X b tb){pins:List (Addr×Obj)}{s:Shared}{σ:St}{H:Hp}{R:V→V→Hp→Prop}(I:Inv X pins σ H s)
  (h:ta σ H fun x H1=>tb σ H1 fun y H2=>R x y H2) {Q:Value→Shared→Prop} {f:Value→Value→Sem Value}
  (hf:∀v u s2 x y H2,Inv X pins σ H2 s2→RelV x v→RelV y u→R x y H2→wpAny (model X.prog X.w) X.A (f v u) Q X.xe s2):
  wpAny (model X.prog X.w) X.A (eval a X.env) (fun v cj=>wpAny (model X.prog X.w) X.A (eval b X.env) (fun u p9=>wpAny (model X.prog X.w) X.A (f v u) Q X.xe p9) X.xe cj) X.xe s:=by
 refine cK (ha pins s σ H _ I h) fun v s1 ⟨x,H1,I1,r1,q1⟩=>?_
 refine cK (hb pins s1 σ H1 _ I1 q1) fun u s2 ⟨y,H2,I2,r2,q2⟩=>?_
 exact hf v u s2 x y H2 I2 r1 r2 q2
theorem aJ{op:Operator}{r:R2}(ho:rJ X (binaryOp op) r)(ha:PE X a ta)(hb:PE X b tb):PE X (.BinOp a op b pos) (Pd r ta tb):=by
 intro pins s σ H Q I h;exact wpAny_BinOp (JQ ha hb I h fun v u s2 x y H2 I2 rx ry q=>ho pins s2 σ H2 x y v u Q I2 rx ry q)
theorem qY{op:UnaryOp}{r:V→Hp→VK→Prop}(ho:QU X (unaryOp op) r)(ha:PE X a ta):PE X (.UnaryOp op a pos) (VQ r ta):=by
 intro pins s σ H Q I h;exact UnaryOp_ (cK (ha pins s σ H _ I h) fun v s1 ⟨x,H1,I1,r1,q1⟩=>ho pins s1 σ H1 x v Q I1 r1 q1)
theorem QV{f:Value→Value→Sem Value}{C:Int→Int→Prop}{g:Int→Int→Int}
  (rule:∀(i j:Int)(t u:Tok)(s:Shared)(Q:Value→Shared→Prop)(E:Value→Shared→Prop),C i j→Q (.int (g i j) s.toks) {s with toks:=s.toks+1}→wpAny (model X.prog X.w) X.A (f (.int i t) (.int j u)) Q E s):
  rJ X f (rI C fun i j=> .int (g i j)):=by
 intro pins s σ H x y v u Q I rx ry h;obtain⟨i,j,rfl,rfl,hc,q⟩:=h;obtain⟨t,rfl⟩:=rx;obtain⟨t',rfl⟩:=ry;exact rule i j t t' s _ _ hc ⟨.int (g i j),H,I.tok _,⟨_,rfl⟩,q⟩
theorem M5{f:Value→Value→Sem Value}{g:Int→Int→Int}
  (rule:∀(i j:Int)(t u:Tok)(s:Shared)(Q:Value→Shared→Prop)(E:Value→Shared→Prop),Q (.int (g i j) s.toks) {s with toks:=s.toks+1}→wpAny (model X.prog X.w) X.A (f (.int i t) (.int j u)) Q E s):
  rJ X f (Ge fun i j=> .int (g i j)):=by
 intro pins s σ H x y v u Q I rx ry h;obtain⟨i,j,rfl,rfl,q⟩:=h;obtain⟨t,rfl⟩:=rx;obtain⟨t',rfl⟩:=ry;exact rule i j t t' s _ _ ⟨.int (g i j),H,I.tok _,⟨_,rfl⟩,q⟩
theorem Gf{f:Value→Value→Sem Value}{g:Int→Int→Bool}
  (rule:∀(i j:Int)(t u:Tok)(s:Shared)(Q:Value→Shared→Prop)(E:Value→Shared→Prop),Q (.bool (g i j)) s→wpAny (model X.prog X.w) X.A (f (.int i t) (.int j u)) Q E s):
  rJ X f (Ge fun i j=> .bl (g i j)):=by
 intro pins s σ H x y v u Q I rx ry h;obtain⟨i,j,rfl,rfl,q⟩:=h;obtain⟨t,rfl⟩:=rx;obtain⟨t',rfl⟩:=ry;exact rule i j t t' s _ _ ⟨.bl (g i j),H,I,rfl,q⟩
def JR(i j:Int):Prop:=0<j∧j<1073741824
def JS(i j:Int):Prop:=(-(2^64)<i∧i<2^64)∨(-(2^64)<j∧j<2^64)
theorem JS.ok{i j:Int}(h:JS i j):IntMulOk i j:=by
 rcases h with⟨h1,h2⟩|⟨h1,h2⟩
 ·exact .of_left (intBits_le_64 h1 h2)
 ·exact .of_right (intBits_le_64 h1 h2)
theorem bx:rJ X (binaryOp .Add) (Ge fun i j=> .int (i+j)):=M5 fun _ _ _ _ _ _ _ q=>add_int q
theorem bY:rJ X (binaryOp .Sub) (Ge fun i j=> .int (i-j)):=M5 fun _ _ _ _ _ _ _ q=>sub_int q
theorem m6:rJ X (binaryOp .Mult) (rI JS fun i j=> .int (i*j)):=QV fun _ _ _ _ _ _ _ hc q=>mul_int q hc.ok
theorem dU:rJ X (binaryOp .FloorDiv) (rI JR fun i j=> .int (i/j)):=QV fun i j _ _ _ _ _ hc q=>by
 have h1:(0:Int)<j:=hc.1;have h2:j<1073741824:=hc.2;exact floordiv_int Zt (by rw[Int.fdiv_eq_ediv_of_nonneg i Zt];exact q) (.inl (PyProof.noPylong_small Zt))
theorem bS:rJ X (binaryOp .Mod) (rI (fun _ j=>0<j) fun i j=> .int (i%j)):=QV fun i j _ _ _ _ _ hc q=>by
 have h1:(0:Int)<j:=hc;exact mod_int' Zt (by rw[Int.fmod_eq_emod_of_nonneg i Zt];exact q)
theorem VR{f:Value→Sem Value}{g:Int→Int}
  (rule:∀(i:Int)(t:Tok)(s:Shared)(Q:Value→Shared→Prop)(E:Value→Shared→Prop),Q (.int (g i) s.toks) {s with toks:=s.toks+1}→wpAny (model X.prog X.w) X.A (f (.int i t)) Q E s):
  QU X f (rU fun i=> .int (g i)):=by
 intro pins s σ H x v Q I rx h;obtain⟨i,rfl,q⟩:=h;obtain⟨t,rfl⟩:=rx;exact rule i t s _ _ ⟨.int (g i),H,I.tok _,⟨_,rfl⟩,q⟩
theorem lq:QU X (unaryOp .USub) (rU fun i=> .int (-i)):=VR fun _ _ _ _ _ q=>neg_int q
end
def M6:V→V→Bool
 | .cO, .cO=>true| .cO, .int _=>true| .int _, .cO=>true| .cO, .bl _=>true| .bl _, .cO=>true| .cO, .str _=>true| .str _, .cO=>true
 | .int _, .int _=>true| .bl _, .bl _=>true| .str _, .str _=>true| .B4 _, .B4 _=>true
 | .int _, .str _=>true| .str _, .int _=>true| .bl _, .str _=>true| .str _, .bl _=>true
 | _,_=>false
def VS:R2:=fun x y H Q=>M6 x y=true∧Q (.bl (decide (x=y))) H
def VT:R2:=fun x y H Q=>M6 x y=true∧Q (.bl (!decide (x=y))) H
theorem A4{i j:Int}:decide (V.int i=V.int j)=(i==j):=by
 rw[Bool.eq_iff_iff];simp
theorem DL{i j:Bool}:decide (V.bl i=V.bl j)=(i==j):=by
 rw[Bool.eq_iff_iff];simp
theorem A5{i j:Str}:decide (V.str i=V.str j)=(i==j):=by
 rw[Bool.eq_iff_iff];simp
theorem A6{i j:Array UInt8}:decide (V.B4 i=V.B4 j)=(i.toList==j.toList):=by
 rw[Bool.eq_iff_iff];cases i;cases j;simp
section
variable{X:Cx}{a b c:Expr}{ta tb tc:TE}{pos:Pos}
theorem bI{pins:List (Addr×Obj)}{σ:St}{H:Hp}{s:Shared}{Q:VK}{k k':Bool}(I:Inv X pins σ H s)(q:Q (.bl k) H)(e:k=k'):EP X pins σ Q (.bool k') s:=by
 subst e;exact⟨.bl k,H,I,rfl,q⟩
theorem jm:rJ X (compareOp .Eq) VS:=by
 intro pins s σ H x y v u Q I rx ry h;obtain⟨hs,q⟩:=h;cases x with
 |cO=>
  cases rx;cases y with
  |cO=>cases ry;exact PySem.EqNone.eq_none_none (bI I q Zr)
  |bl j=>cases ry;exact PySem.EqNone.eq_none_bool (bI I q Zr)
  |int j=>obtain⟨t',rfl⟩:=ry;exact PySem.EqNone.eq_none_int (bI I q Zr)
  |str j=>obtain⟨t',rfl⟩:=ry;exact PySem.EqNone.eq_none_str (bI I q Zr)
  | _=>exact absurd (show false=true from hs) Bool.false_ne_true
 |bl i=>
  cases rx;cases y with
  |cO=>cases ry;exact PySem.EqNone.eq_bool_none (bI I q Zr)
  |bl j=>cases ry;exact eq_bool (bI I q DL)
  |str j=>obtain⟨t',rfl⟩:=ry;exact PySem.EqMixed.eq_bool_str (bI I q Zr)
  | _=>exact absurd (show false=true from hs) Bool.false_ne_true
 |int i=>
  obtain⟨t,rfl⟩:=rx;cases y with
  |cO=>cases ry;exact PySem.EqNone.eq_int_none (bI I q Zr)
  |int j=>obtain⟨t',rfl⟩:=ry;exact eq_int (bI I q A4)
  |str j=>obtain⟨t',rfl⟩:=ry;exact PySem.EqMixed.eq_int_str (bI I q Zr)
  | _=>exact absurd (show false=true from hs) Bool.false_ne_true
 |str i=>
  obtain⟨t,rfl⟩:=rx;cases y with
  |cO=>cases ry;exact PySem.EqNone.eq_str_none (bI I q Zr)
  |bl j=>cases ry;exact PySem.EqMixed.eq_str_bool (bI I q Zr)
  |int j=>obtain⟨t',rfl⟩:=ry;exact PySem.EqMixed.eq_str_int (bI I q Zr)
  |str j=>obtain⟨t',rfl⟩:=ry;exact eq_str (bI I q A5)
  | _=>exact absurd (show false=true from hs) Bool.false_ne_true
 |B4 i=>
  obtain⟨t,rfl⟩:=rx;cases y with
  |B4 j=>obtain⟨t',rfl⟩:=ry;exact PySem.W.eq_bytes (bI I q A6)
  | _=>exact absurd (show false=true from hs) Bool.false_ne_true
 | _=>cases y<;>exact absurd (show false=true from hs) Bool.false_ne_true
theorem qZ:rJ X (compareOp .NotEq) VT:=by
 intro pins s σ H x y v u Q I rx ry h;obtain⟨hs,q⟩:=h;cases x with
 |cO=>
  cases rx;cases y with
  |cO=>cases ry;exact PySem.EqNone.ne_none_none (bI I q Zr)
  |bl j=>cases ry;exact PySem.EqNone.ne_none_bool (bI I q Zr)
  |int j=>obtain⟨t',rfl⟩:=ry;exact PySem.EqNone.ne_none_int (bI I q Zr)
  |str j=>obtain⟨t',rfl⟩:=ry;exact PySem.EqNone.ne_none_str (bI I q Zr)
  | _=>exact absurd (show false=true from hs) Bool.false_ne_true
 |bl i=>
  cases rx;cases y with
  |cO=>cases ry;exact PySem.EqNone.ne_bool_none (bI I q Zr)
  |bl j=>cases ry;exact ne_bool (bI I q (congrArg not DL))
  |str j=>obtain⟨t',rfl⟩:=ry;exact PySem.EqMixed.ne_bool_str (bI I q Zr)
  | _=>exact absurd (show false=true from hs) Bool.false_ne_true
 |int i=>
  obtain⟨t,rfl⟩:=rx;cases y with
  |cO=>cases ry;exact PySem.EqNone.ne_int_none (bI I q Zr)
  |int j=>obtain⟨t',rfl⟩:=ry;exact ne_int (bI I q (congrArg not A4))
  |str j=>obtain⟨t',rfl⟩:=ry;exact PySem.EqMixed.ne_int_str (bI I q Zr)
  | _=>exact absurd (show false=true from hs) Bool.false_ne_true
 |str i=>
  obtain⟨t,rfl⟩:=rx;cases y with
  |cO=>cases ry;exact PySem.EqNone.ne_str_none (bI I q Zr)
  |bl j=>cases ry;exact PySem.EqMixed.ne_str_bool (bI I q Zr)
  |int j=>obtain⟨t',rfl⟩:=ry;exact PySem.EqMixed.ne_str_int (bI I q Zr)
  |str j=>obtain⟨t',rfl⟩:=ry;exact ne_str (bI I q (congrArg not A5))
  | _=>exact absurd (show false=true from hs) Bool.false_ne_true
 |B4 i=>
  obtain⟨t,rfl⟩:=rx;cases y with
  |B4 j=>obtain⟨t',rfl⟩:=ry;exact PySem.W.ne_bytes (bI I q (congrArg not A6))
  | _=>exact absurd (show false=true from hs) Bool.false_ne_true
 | _=>cases y<;>exact absurd (show false=true from hs) Bool.false_ne_true
theorem mM:rJ X (compareOp .Lt) (Ge fun i j=> .bl (decide (i<j))):=Gf fun _ _ _ _ _ _ _ q=>lt_int q
theorem A7:rJ X (compareOp .LtE) (Ge fun i j=> .bl (decide (i≤j))):=Gf fun _ _ _ _ _ _ _ q=>le_int q
theorem oh:rJ X (compareOp .Gt) (Ge fun i j=> .bl (decide (j<i))):=Gf fun _ _ _ _ _ _ _ q=>gt_int q
theorem A8:rJ X (compareOp .GtE) (Ge fun i j=> .bl (decide (j≤i))):=Gf fun _ _ _ _ _ _ _ q=>ge_int q
theorem aV(b:Expr){op:CmpOp}(h:op≠ .In:=by decide)(h2:op≠ .NotIn:=by decide):behindInMarks op b=false:=by
 have e1:(op==CmpOp.In)=false:=by cases op<;>first|rfl|exact absurd rfl h
 have e2:(op==CmpOp.NotIn)=false:=by cases op<;>first|rfl|exact absurd rfl h2
 cases b<;>simp[behindInMarks,e1,e2]
theorem iD{op:CmpOp}{r:R2}(ho:rJ X (compareOp op) r)(ha:PE X a ta)(hb:PE X b tb)(hm:behindInMarks op b=false):PE X (.Compare a [op] [b] pos) (Pd r ta tb):=by
 intro pins s σ H Q I h;exact wpAny_Compare1 (JQ ha hb I h fun v u s2 x y H2 I2 rx ry q=>ho pins s2 σ H2 x y v u Q I2 rx ry q) hm
def M7(t:TE):TT:=fun σ H Q=>t σ H fun x H'=>∃k,x= .bl k∧Q k H'
theorem aS{op:CmpOp}{r:R2}(ho:rJ X (compareOp op) r)(ha:PE X a ta)(hb:PE X b tb)(hm:behindInMarks op b=false):PT X (.Compare a [op] [b] pos) (M7 (Pd r ta tb)):=by
 intro pins s σ H Q I h;refine wpAny_isTrue_Compare1 (cK (ha pins s σ H _ I h) fun v s1 ⟨x,H1,I1,r1,q1⟩=>cK (hb pins s1 σ H1 _ I1 q1) fun u s2 ⟨y,H2,I2,r2,q2⟩=>
  cK (ho pins s2 σ H2 x y v u _ I2 r1 r2 q2) fun c s3 ⟨z,H3,I3,r3,k,e,q3⟩=>?_) hm
 subst e;cases r3;exact wpAny_truthy_bool ⟨H3,I3,q3⟩
theorem p_:(sizeLine:Nat)<2^63:=by rw[sizeLine_eq];decide
theorem m7:rJ X (binaryOp .Add) (fun x y H Q=>∃i j,x= .str i∧y= .str j∧i.length+j.length≤sizeLine∧Q (.str (i++j)) H):=by
 intro pins s σ H x y v u Q I rx ry h;obtain⟨i,j,rfl,rfl,hz,q⟩:=h;obtain⟨t,rfl⟩:=rx;obtain⟨t',rfl⟩:=ry;exact add_str (fun t' tk=>⟨.str (i++j),H,I.tok _,⟨_,rfl⟩,q⟩) hz
theorem vals1{x:V}{us:List Value}(r:Vals [x] us):∃u,us=[u]∧RelV x u:=by
 cases r with
 |cons r1 r2=>cases r2;exact⟨_,rfl,r1⟩
theorem vals2{x y:V}{us:List Value}(r:Vals [x,y] us):∃u w',us=[u,w']∧RelV x u∧RelV y w':=by
 cases r with
 |cons r1 r2=>
  cases r2 with
  |cons r3 r4=>cases r4;exact⟨_,_,rfl,r1,r3⟩
theorem B_(hc:X.calm=true):iW X (.builtin "max") (fun xs H Q=>∃i j,xs=[.int i, .int j]∧Q (.int (if j>i then j else i)) H):=by
 intro pins s σ H xs us Q I r h;obtain⟨i,j,rfl,q⟩:=h;obtain⟨u,w',rfl,⟨t,rfl⟩,⟨t',rfl⟩⟩:=vals2 r;refine max_two_ints (I.ok.hd hc) fun h' tk k=>⟨_,H,I.kept k,?_,q⟩
 by_cases hj:j>i
 ·rw[Zk hj,Zk hj];exact⟨_,rfl⟩
 ·rw[Zh hj,Zh hj];exact⟨_,rfl⟩
theorem qb(hc:X.calm=true):iW X (.builtin "min") (fun xs H Q=>∃i j,xs=[.int i, .int j]∧Q (.int (if j<i then j else i)) H):=by
 intro pins s σ H xs us Q I r h;obtain⟨i,j,rfl,q⟩:=h;obtain⟨u,w',rfl,⟨t,rfl⟩,⟨t',rfl⟩⟩:=vals2 r;refine min_two_ints (I.ok.hd hc) fun h' tk k=>⟨_,H,I.kept k,?_,q⟩
 by_cases hj:j<i
 ·rw[Zk hj,Zk hj];exact⟨_,rfl⟩
 ·rw[Zh hj,Zh hj];exact⟨_,rfl⟩
theorem qc:iW X (.type "int") (fun xs H Q=>(∃i,xs=[.int i]∧Q (.int i) H)∨∃k,xs=[.bl k]∧Q (.int (if k then 1 else 0)) H):=by
 intro pins s σ H xs us Q I r h;rcases h with⟨i,rfl,q⟩|⟨k,rfl,q⟩
 ·obtain⟨u,rfl,t,rfl⟩:=vals1 r;exact call_int_int ⟨.int i,H,I,⟨_,rfl⟩,q⟩
 ·obtain⟨u,rfl,r1⟩:=vals1 r;cases r1;exact call_int_bool ⟨.int (if k then 1 else 0),H,I.tok _,⟨_,rfl⟩,q⟩
end
structure zI(h:Heap)(x dx C:Addr)(mA:Str→Option Value):Prop where
 obj:h.get? x=some (PySem.W.instObj C dx)
 ns:h.Ns1 dx mA
 ne:dx≠x
theorem Ca{h:Heap}{dx:Addr}{mA:Str→Option Value}(n:h.Ns1 dx mA):∃od,h.get? dx=some od∧∀name,PySem.W.lookIn name od=some (mA name):=by
 obtain⟨o,es,ep,ho,hd,hk,_,hm⟩:=n;refine⟨o,ho,fun name=>?_⟩;have e:=hm name;unfold nsFind findBy at e;rw[←Array.find?_toList]at e;unfold PySem.W.lookIn;rw[hd];dsimp only;split
 ·rename_i y q
  rw[q]at e;exact congrArg some e
 ·rename_i q
  rw[q]at e;have a:es.toList.any (·.refKey)=false:=by
   rw[List.any_eq_false];intro y hy;obtain⟨z,t,oj⟩:=hk y (Array.mem_toList_iff.mp hy);simp[DictEntry.refKey,oj]
  have a':¬es.toList.any (·.refKey)=true:=by rw[a];exact Bool.false_ne_true
  rw[Zh a'];exact congrArg some e
theorem zI.look{h:Heap}{x dx C:Addr}{mA:Str→Option Value}(I:zI h x dx C mA):∃od,PySem.W.InstAt h x (PySem.W.instObj C dx) C (some od)∧∀name,PySem.W.lookIn name od=some (mA name):=
 let ⟨od,ho,hl⟩:=Ca I.ns
 ⟨od,⟨I.obj,rfl,rfl,ho⟩,hl⟩
section
variable{prog:Program}{w:World}{A:Around}{E:Value→Shared→Prop}{s:Shared}{K:PySem.W.Frag}{x dx C f:Addr}{mA:Str→Option Value}{name:Str}{v:Value}
theorem get_map{expr:Bool}{Q:Value→Shared→Prop}(X:K.In s.heap)(I:zI s.heap x dx C mA)(hg:PySem.W.plainGet K C name=true)(hh:PySem.W.hasDictIn K C=true)
  (ha:PySem.W.findIn K (.ref C) name=some none) (hv:mA name=some v) (M8:PySem.W.handedIn v=true) (h:Q v {s with toks:=s.toks+1}):
  wpAny (model prog w) A (getAttr (.ref x) name expr) Q E s:=by
 obtain⟨od,J,hl⟩:=I.look;exact PySem.W.get_value X J (PySem.W.plainGet_of hg).1 (PySem.W.findObj_own hh ha rfl (by rw[hl,hv])) M8 h
theorem DM{pl:Sem Bool}{Q:Value×List Value→Shared→Prop}(X:K.In s.heap)(I:zI s.heap x dx C mA)(hg:PySem.W.plainGet K C name=true)
  (hf:PySem.W.findIn K (.ref C) name=some (some (.ref f))) (ht:PySem.W.isFn K (.ref f)=true) (hv:mA name=none) (h:Q (.ref f,[.ref x]) s):
  wpAny (model prog w) A (getMethod (.ref x) name pl) Q E s:=by
 obtain⟨od,J,hl⟩:=I.look;exact PySem.W.method_fn X J (PySem.W.plainGet_of hg).1 (PySem.W.plainGet_of hg).2 hf (beq_iff_eq.mp ht) (by show(PySem.W.lookIn name od).map (·.isSome)=some false;rw[hl,hv];rfl) h
theorem Gg{ns:List Str}{Q:Unit→Shared→Prop}(X:K.In s.heap)(I:zI s.heap x dx C mA)
  (hs:PySem.W.findIn K (.ref C) "__setattr__"=some (some (.builtin "object.__setattr__"))) (hp:PySem.W.plainOver K C=true) (ht:PySem.W.takerIn K C name=some none) (hh:PySem.W.hasDictIn K C=true)
  (hw:PySem.Within mA ns) (hsz:ns.length≤sizeLine)
  (h:∀h',zI h' x dx C (fun y=>if y=name then some v else mA y)→Heap.SameBut dx s.heap h'→Q () {s with heap:=h',toks:=s.toks+2}):
  wpAny (model prog w) A (setAttr (.ref x) name v) Q E s:=by
 obtain⟨od,J,hl⟩:=I.look;refine PySem.W.set_plain X J hs (PySem.W.osa_open (s:={s with toks:=s.toks+1}) (r:=none) X J hp ht fun b=>?_);obtain⟨cd,hc,LR⟩:=PySem.W.any_some hh;have hx:s.heap.get? x=some ⟨.ref C,some dx, .plain,#[]⟩:=I.obj;refine wpAny_bind (wpAny_pure (wpAny_bind (wpAny_bind (wpAny_loadPart hx (wpAny_bind (PySem.W.Looks.here (s:={s with toks:=s.toks+1}) (PySem.W.looks_clsIn X hc) ?_))))));rw[LR];refine wpAny_pure (a:=some dx) (wpAny_bind (wpAny_pure (wpAny_bind ?_)));refine wpAny_nsSet1 (s:={s with toks:=s.toks+1}) I.ns fun h' xV JT=>?_
 obtain⟨oD,Yl,Ym,VU,VV,VW⟩:=xV.count (PySem.Within.cons name v hw);refine wpAny_bind (wpAny_lookBehind VU (by rw[VV];exact pastItsLine_dict (Nat.le_trans VW (by rw[List.length_cons];omega))) ?_);exact wpAny_pure (h _ ⟨(JT.2 _ (Ne.symm I.ne)).trans I.obj,xV,I.ne⟩ JT)
theorem DN{R:Result→Shared→Prop}{vs:List Value}{kw:List (Str×Value)}(X:K.In s.heap)(hm:PySem.W.makesIn K C=true)
  (hi:PySem.W.findIn K (.ref C) "__init__"=some (some (.ref f))) (hf:PySem.W.typeIn K (.ref f)=some (.type "function"))
  (h:codeAny (model prog w) (A.under (.builtin "type.__call__" ⟨.ref C::vs,kw⟩)) (.call (.ref f) ⟨.ref (s.heap.objs.size+1)::vs,kw⟩) (PySem.W.InitBack (s.heap.objs.size+1) R)
   {s with heap:=(s.heap.push PySem.W.emptyDict).push (PySem.W.instObj C s.heap.objs.size)}):
  codeAny (model prog w) A (.call (.ref C) ⟨vs,kw⟩) R s:=by
 obtain⟨hh,g,d,t,os⟩:=s;exact PySem.W.make_core (PySem.W.makes_of X hm) (PySem.W.looks_findIn X hi) (fun self=>PySem.W.bind_fn X self hf) (.inl rfl) h
end
def bp(f:Str)(v:V):List (Str×V)→List (Str×V)
 |[]=>[(f,v)]
 |(g,x)::r=>if g=f then(g,v)::r else(g,x)::bp f v r
theorem q_(f g:Str)(v:V):∀fs:List (Str×V),(bp f v fs).lookup g=if g=f then some v else fs.lookup g
 |[]=>by
  show List.lookup g [(f,v)]=_;by_cases h:g=f
  ·have hb:(g==f)=true:=beq_iff_eq.mpr h;simp only[List.lookup,hb,Zk h]
  ·have hb:(g==f)=false:=beq_eq_false_iff_ne.mpr h;simp only[List.lookup,hb,Zh h]
 |(k,x)::r=>by
  have ih:=q_ f g v r;rw[show bp f v ((k,x)::r)=(if k=f then(k,v)::r else(k,x)::bp f v r)from rfl];by_cases hk:k=f
  ·rw[Zk hk];by_cases h:g=k
   ·have hb:(g==k)=true:=beq_iff_eq.mpr h;simp only[List.lookup,hb,Zk (h.trans hk)]
   ·have hb:(g==k)=false:=beq_eq_false_iff_ne.mpr h;simp only[List.lookup,hb,Zh (fun e:g=f=>h (e.trans hk.symm))]
  ·rw[Zh hk];by_cases h:g=k
   ·have hb:(g==k)=true:=beq_iff_eq.mpr h;simp only[List.lookup,hb,Zh (fun e:g=f=>hk (h.symm.trans e))]
   ·have hb:(g==k)=false:=beq_eq_false_iff_ne.mpr h;simp only[List.lookup,hb];exact ih
theorem qd(f:Str)(v:V):∀fs:List (Str×V),f∈(bp f v fs).map (·.1)∧∀g,g∈fs.map (·.1)→g∈(bp f v fs).map (·.1)
 |[]=>⟨by simp[bp],fun g h=>by simp at h⟩
 |(k,x)::r=>by
  obtain⟨i1,i2⟩:=qd f v r;rw[show bp f v ((k,x)::r)=(if k=f then(k,v)::r else(k,x)::bp f v r)from rfl];by_cases hk:k=f
  ·rw[Zk hk];subst hk;exact⟨ZA,fun g h=>by simpa using h⟩
  ·rw[Zh hk];refine⟨?_,fun g h=>?_⟩
   ·rw[List.map_cons];exact List.mem_cons_of_mem _ i1
   ·rw[List.map_cons]at h⊢;rcases List.mem_cons.mp h with e|e
    ·exact List.mem_cons.mpr (.inl e)
    ·exact List.mem_cons_of_mem _ (i2 g e)
theorem aW(f:Str)(v:V):∀fs:List (Str×V),(bp f v fs).length≤fs.length+1
 |[]=>by simp[bp]
 |(k,x)::r=>by
  have ih:=aW f v r;rw[show bp f v ((k,x)::r)=(if k=f then(k,v)::r else(k,x)::bp f v r)from rfl];by_cases hk:k=f
  ·rw[Zk hk,List.length_cons,List.length_cons];omega
  ·rw[Zh hk,List.length_cons,List.length_cons];omega
theorem kj.some_of{v:V}{o:Option Value}(r:kj (some v) o):∃u,o=some u∧RelV v u:=by
 cases o with
 |none=>exact(show False from r).elim
 |some u=>exact⟨u,rfl,r⟩
theorem kj.none_of{o:Option Value}(r:kj none o):o=none:=by
 cases o with
 |none=>rfl
 |some u=>exact(show False from r).elim
theorem Cb{v:V}{u:Value}(r:RelV v u):PySem.W.handedIn u=true:=by
 cases v with
 |cO=>cases(show u=Value.none from r);rfl
 |bl b=>cases(show u=Value.bool b from r);rfl
 |int i=>obtain⟨t,e⟩:=(show ∃t,u=Value.int i t from r);cases e;rfl
 |str x=>obtain⟨t,e⟩:=(show ∃t,u=Value.str x t from r);cases e;rfl
 |B4 b=>obtain⟨t,e⟩:=(show ∃t,u=Value.bytes b t from r);cases e;rfl
 |HY b=>obtain⟨t,e⟩:=(show ∃t,u=Value.float b t from r);cases e;rfl
 |ref a=>cases(show u=Value.ref a from r);rfl
 |ty n=>cases(show u=Value.type n from r);rfl
section
variable{P:Program}{w:World}{H H':Hp}{h h':Heap}{a C dx:Addr}{fs VJ:List (Str×V)}
theorem r_(bX:lg P w H h)(e:H a=some (.ins C dx fs)):∃mA,zI h a dx C mA∧(∀f,kj (fs.lookup f) (mA f))∧PySem.Within mA (fs.map (·.1))∧fs.length≤1000∧H dx=some (.own a):=by
 obtain⟨d,z,ne,ob,mA,n,r,q⟩:=(show cS P w H h a (.ins C dx fs)from bX a _ e)
 exact⟨mA,⟨ob,n,ne⟩,r,q,z,d⟩
end
structure v7(K:PySem.W.Frag)(C:Addr):Prop where
 pg:PySem.W.plainGet K C Str.empty=true
 hd:PySem.W.hasDictIn K C=true
 po:PySem.W.plainOver K C=true
 sa:PySem.W.findIn K (.ref C) "__setattr__"=some (some (.builtin "object.__setattr__"))
theorem v7.get{K:PySem.W.Frag}{C:Addr}(c:v7 K C)(f:Str):PySem.W.plainGet K C f=true:=c.pg
def bZ(K:PySem.W.Frag)(C:Addr)(f:Str):Prop:=PySem.W.findIn K (.ref C) f=some none
theorem bZ.M9{K:PySem.W.Frag}{C:Addr}{f:Str}(n:bZ K C f):PySem.W.takerIn K C f=some none:=by
 unfold PySem.W.takerIn;rw[show PySem.W.findIn K (.ref C) f=some none from n];rfl
structure DO(K:PySem.W.Frag)(C:Addr)(f:Str)(v:V)(u:Value):Prop where
 at_:PySem.W.findIn K (.ref C) f=some (some u)
 rel:RelV v u
 get:PySem.W.specialIn K u "__get__"=some none
 cp:PySem.W.copiedNames.contains f=false
structure Meth(K:PySem.W.Frag)(C:Addr)(m:Str)(f:Addr):Prop where
 at_:PySem.W.findIn K (.ref C) m=some (some (.ref f))
 fn:PySem.W.isFn K (.ref f)=true
 kp:PySem.W.keepIn K (.ref f)=true
section
variable{X:Cx}{pins:List (Addr×Obj)}{σ:St}{H:Hp}{s:Shared}{a C dx:Addr}{fs:List (Str×V)}{f:Str}{v:V}{A:Around}{E:Value→Shared→Prop}
theorem zJ{b:Bool}{Q:Value→Shared→Prop}(I:Inv X pins σ H s)(e:H a=some (.ins C dx fs))(c:v7 X.K C)(n:bZ X.K C f)(l:fs.lookup f=some v)
  (h:∀u s',Inv X pins σ H s'→RelV v u→Q u s'):wpAny (model X.prog X.w) A (getAttr (.ref a) f b) Q E s:=by
 obtain⟨mA,O,r,_,_,_⟩:=r_ I.bX e;obtain⟨u,hu,ru⟩:=kj.some_of (v:=v) (o:=mA f) (by rw[←l];exact r f);exact get_map I.p8 O (c.get f) c.hd n hu (Cb ru) (h u _ (I.tok _) ru)
theorem m8{m:Str}{g:Addr}{pl:Sem Bool}{Q:Value×List Value→Shared→Prop}(I:Inv X pins σ H s)(e:H a=some (.ins C dx fs))(c:v7 X.K C)(k:Meth X.K C m g)(l:fs.lookup m=none)
  (h:Q (.ref g,[.ref a]) s):wpAny (model X.prog X.w) A (getMethod (.ref a) m pl) Q E s:=by
 obtain⟨mA,O,r,_,_,_⟩:=r_ I.bX e;have hn:mA m=none:=kj.none_of (by rw[←l];exact r m);exact DM I.p8 O (c.get m) k.at_ k.fn hn h
theorem zK{y:V}{u:Value}{Q:Unit→Shared→Prop}(I:Inv X pins σ H s)(e:H a=some (.ins C dx fs))(c:v7 X.K C)(n:bZ X.K C f)(hl:fs.length<1000)(ry:RelV y u)
  (h:∀s',Inv X pins σ (upd H a (.ins C dx (bp f y fs))) s'→Q () s'):wpAny (model X.prog X.w) A (setAttr (.ref a) f u) Q E s:=by
 obtain⟨mA,O,r,wi,_,ho⟩:=r_ I.bX e;have hz:(fs.map (·.1)).length≤sizeLine:=by rw[List.length_map,sizeLine_eq];omega
 refine Gg I.p8 O c.sa c.po n.M9 c.hd wi hz fun h' O' sb=>h _ ?_
 have hd:∃o,h'.get? dx=some o:=let ⟨o,_,_,e',_⟩:=O'.ns;⟨o,e'⟩
 refine I.write (x:=a) (e:=dx) (by rw[e];exact True.intro) (.inr ho) (fun b q hb z=>(sb.2 b hb).trans z) hd ?_;refine⟨by rw[ao O.ne];exact ho,?_,O.ne,O'.obj,_,O'.ns,fun g=>?_,fun g hg=>?_⟩
 ·have:=aW f y fs;omega
 ·show kj ((bp f y fs).lookup g) (if g=f then some u else mA g);rw[q_];by_cases q:g=f
  ·rw[Zk q,Zk q];exact ry
  ·rw[Zh q,Zh q];exact r g
 ·by_cases q:g=f
  ·rw[q];exact(qd f y fs).1
  ·refine(qd f y fs).2 g (wi g fun z=>hg ?_);show(if g=f then some u else mA g)=none;rw[Zh q];exact z
theorem Inv.made(I:Inv X pins σ H s):Inv X pins σ (upd (upd H s.heap.objs.size (.own (s.heap.objs.size+1))) (s.heap.objs.size+1) (.ins C s.heap.objs.size []))
  {s with heap:=(s.heap.push PySem.W.emptyDict).push (PySem.W.instObj C s.heap.objs.size)}:=by
 have e1:(s.heap.push PySem.W.emptyDict).get? s.heap.objs.size=some PySem.W.emptyDict:=Heap.get?_push_size s.heap rfl;have e2:((s.heap.push PySem.W.emptyDict).push (PySem.W.instObj C s.heap.objs.size)).get? (s.heap.objs.size+1)=some (PySem.W.instObj C s.heap.objs.size):=by
  have:=Heap.get?_push_size (s.heap.push PySem.W.emptyDict) (o:=PySem.W.instObj C s.heap.objs.size) rfl;rwa[Heap.size_push]at this
 have e3:(s.heap.push PySem.W.emptyDict).Ns s.heap.objs.size (fun _=>none):=⟨PySem.W.emptyDict,#[],_,e1,rfl,(fun e he=>absurd he Zr),fun _=>rfl⟩
 have I1:=I.laid (a:=s.heap.objs.size) (o:= .own (s.heap.objs.size+1)) (h':=s.heap.push PySem.W.emptyDict) (t':=s.toks) (fun b u q=>Zi q) (Nat.le_refl _) ⟨_,e1⟩;refine I1.laid (a:=s.heap.objs.size+1) (o:= .ins C s.heap.objs.size []) (t':=s.toks) (fun b u q=>Zi q) (Nat.le_of_eq (Heap.size_push _ _)) ?_;have ne:s.heap.objs.size≠s.heap.objs.size+1:=Nat.ne_of_lt (Nat.lt_succ_self _);refine⟨by rw[ao ne,ae],Nat.zero_le _,ne,e2,fun _=>none,(Heap.Ns1.of_empty e3).at fun o q=>Zi q,fun _=>True.intro,fun y hy=>absurd rfl hy⟩
theorem Gh{prog:Program}{w:World}{env:Env}{e:Expr}{f:Str}{pos:Pos}{s:Shared}{Q:Value→Shared→Prop}(hb:attributeBase e f env (eval e env)=eval e env)
  (h:wpAny (model prog w) A (eval e env) (fun o cj=>wpAny (model prog w) A (getAttr o f true) Q E cj) E s):wpAny (model prog w) A (eval (.Attribute e f pos) env) Q E s:=
 Attribute_any_ h (by rw[arm_eval_Attribute,hb])
end
inductive Ig(K:PySem.W.Frag)(f:Str)(x:V)(H1:Hp)(Q:VK):Prop
 |mk (a:Addr) (C:Addr) (dx:Addr) (fs:List (Str×V)) (v:V) (_:x= .ref a) (_:H1 a=some (.ins C dx fs)) (_:v7 K C) (_:bZ K C f) (_:fs.lookup f=some v) (_:Q v H1):Ig K f x H1 Q
def M_(K:PySem.W.Frag)(ta:TE)(f:Str):TE:=fun σ H Q=>ta σ H fun x H1=>Ig K f x H1 Q
def Na(K:PySem.W.Frag)(ta tv:TE)(f:Str):TS:=fun D σ H=>tv σ H fun y H1=>ta σ H1 fun x H2=>∃a C dx fs,x= .ref a∧H2 a=some (.ins C dx fs)∧v7 K C∧bZ K C f∧fs.length<1000∧
 D.nx σ (upd H2 a (.ins C dx (bp f y fs)))
section
variable{X:Cx}{o e value:Expr}{f:Str}{pos pos' QW:Pos}{ta tv:TE}
theorem JU(he:PE X e ta)(hb:attributeBase e f X.env (eval e X.env)=eval e X.env):PE X (.Attribute e f pos) (M_ X.K ta f):=by
 intro pins s σ H Q I h;refine Gh hb (cK (he pins s σ H _ I h) fun u s1 ⟨x,H1,I1,rx,a,C,dx,fs,v,ex,ea,c,n,l,q⟩=>?_);subst ex;obtain rfl:u=Value.ref a:=rx;exact zJ I1 ea c n l fun u' s2 I2 ru=>⟨v,H1,I2,ru,q⟩
theorem JV(ha:PE X o ta)(hv:PE X value tv)(hs:swapsWith value (some (.Attribute o f pos')) pos.line X.env=pure false):PS X (.Assign [.Attribute o f pos'] value pos) (Na X.K ta tv f):=by
 intro pins s σ H D I h;refine plainObj_wpAny_Assign_Attribute (cK (hv pins s σ H _ I h) fun u s1 ⟨y,H1,I1,ry,q⟩=>cK (ha pins s1 σ H1 _ I1 q) fun ov s2 ⟨x,H2,I2,rx,a,C,dx,fs,ex,ea,c,n,l,q2⟩=>?_) hs;subst ex;obtain rfl:ov=Value.ref a:=rx;exact zK I2 ea c n l ry fun s3 I3=>⟨σ,_,I3,q2⟩
theorem Ih{pl:Sem Bool}{m:Str}{apos:Pos}{args:List Expr}{pins:List (Addr×Obj)}{s:Shared}{σ:St}{H:Hp}{Q:Value→Shared→Prop}{te:TE}(he:PE X e te)(I:Inv X pins σ H s)
  (h:te σ H fun x H1=>∃a C dx fs g,x= .ref a∧H1 a=some (.ins C dx fs)∧v7 X.K C∧Meth X.K C m g∧fs.lookup m=none∧
   ∀s1,Inv X pins σ H1 s1→wpAny (model X.prog X.w) X.A (callWith pos (.ref g) [.ref a] (backTo pos (starEach args X.env)) (backToKw pos (keywordEach [] X.env))) Q X.xe s1)
  (ht:eval (.Call (.Attribute e m apos) args [] pos) X.env=(do
   let ov←eval e X.env
   standAt apos.atName
   let (f,first)←holding [ov] (getMethod ov m pl)
   callWith pos f first (backTo pos (starEach args X.env)) (backToKw pos (keywordEach [] X.env)))):
  wpAny (model X.prog X.w) X.A (eval (.Call (.Attribute e m apos) args [] pos) X.env) Q X.xe s:=by
 refine PySem.W.methodCall_KW (pl:=pl) (cK (he pins s σ H _ I h) fun u s1 ⟨x,H1,I1,rx,a,C,dx,fs,g,ex,ea,c,k,l,q⟩=>?_) ht;subst ex;obtain rfl:u=Value.ref a:=rx;exact m8 I1 ea c k l (q s1 I1)
end
section
variable{X:Cx}{pins:List (Addr×Obj)}{σ:St}{H:Hp}{s:Shared}{A:Around}{E:Value→Shared→Prop}{Q:Value→Shared→Prop}{c:Value}{b:Bool}
inductive qe(K:PySem.W.Frag)(H:Hp):V→Value→Prop where
 |cO:qe K H .cO (.type "NoneType")
 |bl (x:Bool):qe K H (.bl x) (.type "bool")
 |int (i:Int):qe K H (.int i) (.type "int")
 |str (x:Str):qe K H (.str x) (.type "str")
 |HY (x:UInt64):qe K H (.HY x) (.type "float")
 |lst {a:Addr} {xs:List V} (e:H a=some (.lst xs)):qe K H (.ref a) (.type "list")
 |r9 {a:Addr} {o:Obj} {xs:List V} (e:H a=some (.r9 o (.lst xs))):qe K H (.ref a) (.type "list")
 |tup {a:Addr} {xs:List V} (e:H a=some (.tup xs)):qe K H (.ref a) (.type "tuple")
 |dK {a:Addr} {kvs:List (Key×V)} (e:H a=some (.dK kvs)):qe K H (.ref a) (.type "dict")
 |dT {a:Addr} {kvs:List (List Key×V)} (e:H a=some (.dT kvs)):qe K H (.ref a) (.type "dict")
 |ins {a C dx:Addr} {fs:List (Str×V)} (e:H a=some (.ins C dx fs)) (cl:v7 K C) (ha:PySem.W.findIn K (.ref C) "__class__"=some (some (.builtin "object.__class__")))
   (hn:PySem.W.specialIn K (.builtin "object.__class__") "__get__"=some (some (.builtin "getset_descriptor.__get__"))) (TU:PySem.W.takesIn K (.builtin "object.__class__")=some true)
   (hm:PySem.W.mroIn K C (.type "object")=some true):qe K H (.ref a) (.ref C)
theorem Cc{x:V}{u t:Value}(I:Inv X pins σ H s)(rx:RelV x u)(ty:qe X.K H x t)(e:PySem.W.kitOne X.K t c=some b)(h:∀tk,Q (.bool b) {s with toks:=tk}):
  wpAny (model X.prog X.w) A (call (.builtin "isinstance") [u,c]) Q E s:=by
 cases ty with
 |cO=>cases(show u=Value.none from rx);exact PySem.W.kia_one PySem.W.kitx_none I.p8 True.intro e (fun z=>nomatch z) h
 |bl y=>cases(show u=Value.bool y from rx);exact PySem.W.kia_one PySem.W.kitx_bool I.p8 True.intro e (fun z=>nomatch z) h
 |int i=>obtain⟨t,q⟩:=(show ∃t,u=Value.int i t from rx);cases q;exact PySem.W.kia_one PySem.W.kitx_int I.p8 True.intro e (fun z=>nomatch z) h
 |str y=>obtain⟨t,q⟩:=(show ∃t,u=Value.str y t from rx);cases q;exact PySem.W.kia_one PySem.W.kitx_str I.p8 True.intro e (fun z=>nomatch z) h
 |HY y=>obtain⟨t,q⟩:=(show ∃t,u=Value.float y t from rx);cases q;exact PySem.W.kia_one PySem.W.kitx_float I.p8 True.intro e (fun z=>nomatch z) h
 |@lst a xs ea=>
  cases(show u=Value.ref a from rx);obtain⟨_,_,n,_,h1⟩:=(show cS X.prog X.w H s.heap a (.lst xs)from I.bX a _ ea)
  exact PySem.W.kia_one PySem.W.kitx_list I.p8 ⟨_,h1,rfl⟩ e (fun z=>nomatch z) h
 |@r9 a ob xs ea=>
  cases(show u=Value.ref a from rx);obtain⟨_,_,_,n,_,h1⟩:=(show cS X.prog X.w H s.heap a (.r9 ob (.lst xs))from I.bX a _ ea)
  exact PySem.W.kia_one PySem.W.kitx_list I.p8 ⟨_,h1,rfl⟩ e (fun z=>nomatch z) h
 |@tup a xs ea=>
  cases(show u=Value.ref a from rx);obtain⟨_,_,_,p⟩:=(show cS X.prog X.w H s.heap a (.tup xs)from I.bX a _ ea)
  obtain⟨o,h1,h2,_⟩:=p;exact PySem.W.kia_one PySem.W.kitx_tuple I.p8 ⟨o,h1,h2⟩ e (fun z=>nomatch z) h
 |@dK a kvs ea=>
  cases(show u=Value.ref a from rx);obtain⟨_,_,vs,_,p⟩:=(show cS X.prog X.w H s.heap a (.dK kvs)from I.bX a _ ea)
  obtain⟨o,es,ep,h1,h2,_⟩:=p;exact PySem.W.kia_one PySem.W.kitx_dict I.p8 ⟨o,h1,h2.1⟩ e (fun z=>nomatch z) h
 |@dT a kvs ea=>
  cases(show u=Value.ref a from rx);obtain⟨_,_,xs,_,o,es,ep,h1,h2,_⟩:=(show cS X.prog X.w H s.heap a (.dT kvs)from I.bX a _ ea)
  exact PySem.W.kia_one PySem.W.kitx_dict I.p8 ⟨o,h1,h2.1⟩ e (fun z=>nomatch z) h
 |@ins a C dx fs ea cl ha hn TU hm=>
  cases(show u=Value.ref a from rx);obtain⟨mA,O,_⟩:=r_ I.bX ea;obtain⟨od,J,_⟩:=O.look;exact PySem.W.kia_one (PySem.W.kitx_own (cl.get _) cl.hd ha hn TU hm) I.p8 J e (fun z=>nomatch z) h
end
structure eR(cm:Bool)(k:Nat)(A:Around):Prop where
 hd:cm=true→A.handled=none
 dp:A.depth+3*k+5<recursionLimit
 un:A.units+16*k+200<cLine
theorem eR.mono{cm:Bool}{j k:Nat}{A:Around}(r:eR cm k A)(h:j≤k):eR cm j A:=⟨r.hd,by have:=r.dp;omega,by have:=r.un;omega⟩
theorem eR.deeper{cm:Bool}{k:Nat}{A:Around}(r:eR cm (k+1) A)(env:Env):eR cm k (A.deeper env):=
 ⟨r.hd,by have:=r.dp;show A.depth+1+3*k+5<_;omega,by have:=r.un;show A.units+3+16*k+200<_;omega⟩
theorem zL{A:Around}{C:Addr}{us:List Value}{kw:List (Str×Value)}:(A.under (.builtin "type.__call__" ⟨.ref C::us,kw⟩)).depth=A.depth+1:=by
 first|rfl|simp[Around.under,Code.weight,Code.isCreation,Code.isGuard,Code.isCaller,Code.frames,Code.isFrame,guardIds]
theorem zM{A:Around}{C:Addr}{us:List Value}{kw:List (Str×Value)}:(A.under (.builtin "type.__call__" ⟨.ref C::us,kw⟩)).units=A.units+1:=by
 first|rfl|simp[Around.under,Code.cUnits,Code.frames,Code.isFrame]
theorem eR.make{cm:Bool}{k:Nat}{A:Around}(r:eR cm (k+1) A)(C:Addr)(us:List Value)(kw:List (Str×Value)):eR cm k (A.under (.builtin "type.__call__" ⟨.ref C::us,kw⟩)):=
 ⟨r.hd,by have:=r.dp;rw[zL];omega,by have:=r.un;rw[zM];omega⟩
theorem eR.depth{cm:Bool}{k:Nat}{A:Around}(r:eR cm k A):A.depth<recursionLimit:=by have:=r.dp;omega
theorem eR.units{cm:Bool}{k:Nat}{A:Around}(r:eR cm k A):A.units+64<cLine:=by have:=r.un;omega
def DP:TA:=fun _ H Q=>Q [] H
def Ii(ta:TE)(tr:TA):TA:=fun σ H Q=>ta σ H fun x H1=>tr σ H1 fun xs H2=>Q (x::xs) H2
section
variable{X:Cx}{e:Expr}{es:List Expr}{te:TE}{t:TA}{pos:Pos}
theorem af:PA X [] DP:=fun _ _ _ _ H Q I h=>Calls.spliced_nil ⟨[],H,I, .nil,h⟩
theorem Gi(ha:PE X e te)(hr:PA X es t)(hs:starEach (e::es) X.env=(false,eval e X.env)::starEach es X.env:=by rfl):PA X (e::es) (Ii te t):=by
 intro pos pins s σ H Q I h;rw[hs];show wpAny _ _ (spliced ((false,eval e X.env)::backTo pos (starEach es X.env))) _ _ s;refine Calls.spliced_cons (cK (ha pins s σ H _ I h) fun u s1 ⟨x,H1,I1,r1,q1⟩=>?_);exact cK (hr pos pins s1 σ H1 _ I1 q1) fun us s2 ⟨xs,H2,I2,r2,q2⟩=>⟨x::xs,H2,I2, .cons r1 r2,q2⟩
def QX(t:TA):TE:=fun σ H Q=>t σ H fun xs H1=>xs.length≤sizeLine∧∀p,H1 p=none→Q (.ref p) (upd H1 p (.tup xs))
def QY(t:TA):TE:=fun σ H Q=>t σ H fun xs H1=>xs.length≤sizeLine∧∀p,H1 p=none→Q (.ref p) (upd H1 p (.lst xs))
theorem eX{x1}(h:PA X es t):PE X (.Tuple es x1 pos) (QX t):=by
 intro pins s σ H Q I hq;refine wpAny_Tuple_spliced (cK (h pos pins s σ H _ I hq) fun us s1 ⟨xs,H1,I1,r,z,q⟩=>⟨by rw[←r.length];exact z,?_⟩);have hf:H1 s1.heap.objs.size=none:=I1.bX.fresh (Nat.le_refl _);refine⟨.ref s1.heap.objs.size,upd H1 s1.heap.objs.size (.tup xs),I1.laid (t':=s1.toks) (fun b u e=>Zi e) (Nat.le_refl _) ?_,rfl,q _ hf⟩;exact⟨z,us,r,⟨_,Heap.get?_push_size _ rfl,rfl,_,rfl⟩⟩
theorem bM(h:PA X es t):PE X (.List es pos) (QY t):=by
 intro pins s σ H Q I hq;refine wpAny_List_spliced (cK (h pos pins s σ H _ I hq) fun us s1 ⟨xs,H1,I1,r,z,q⟩=>⟨by rw[←r.length];exact z,?_⟩);have hf:H1 s1.heap.objs.size=none:=I1.bX.fresh (Nat.le_refl _);refine⟨.ref s1.heap.objs.size,upd H1 s1.heap.objs.size (.lst xs),I1.laid (t':=s1.toks) (fun b u e=>Zi e) (Nat.le_refl _) ?_,rfl,q _ hf⟩;exact⟨z,us,0,r,Heap.get?_push_size _ rfl⟩
end
abbrev Sp:=List V→Hp→VK→XK→Prop
abbrev DQ:=List Env→Hp→Shared→XK→Value→Shared→Prop
structure zN(P:Program)(w:World)(K:PySem.W.Frag)(mg:Str→Option Value)(base:Heap)(A:Around)(outer:List Env)(s:Shared)(H:Hp):Prop where
 frames:A.frames=some outer
 mod:Mod K mg base
 bs:∀b o,base.get? b=some o→s.heap.get? b=some o∧H b=none
 JB:base.objs.size≤s.heap.objs.size
 ux:s.heap.FunFrames base outer
 MJ:∀b∈n5 outer,H b=none
 bX:lg P w H s.heap
 bare:AllBare s.gens
def CE(outer:List Env)(P:Program)(w:World)(H:Hp)(s:Shared)(Q:VK)(u:Value)(s':Shared):Prop:=
 ∃v H',s'.os=s.os∧AllBare s'.gens∧Un (n5 outer) [] H H' s.heap s'.heap∧lg P w H' s'.heap∧RelV v u∧Q v H'
def CR(CX:DQ)(outer:List Env)(P:Program)(w:World)(H:Hp)(s:Shared)(Q:VK)(E:XK)(r:Result)(s':Shared):Prop:=
 match r with
 | .ok (.ret u)=>CE outer P w H s Q u s'
 | .ok _=>False
 | .error e=>CX outer H s E e s'
structure a7(P:Program)(w:World)(K:PySem.W.Frag)(mg:Str→Option Value)(base:Heap)(CX:DQ)(cm:Bool)(k:Nat)(f:Addr)(fd:FuncData)(ps:List Str)(sp:Sp):Prop where
 len:∀vs H Q E,sp vs H Q E→vs.length=ps.length
 run:∀(A:Around)(outer:List Env)(s:Shared)(H:Hp)(args:Args)(us:List Value)(vs:List V)(Q:VK)(E:XK),eR cm k A→zN P w K mg base A outer s H→BindsTo s fd args (ps.zip us)→Vals vs us→sp vs H Q E→
  codeAny (model P w) A (.call (.ref f) args) (CR CX outer P w H s Q E) s
theorem zN.make{P:Program}{w:World}{K:PySem.W.Frag}{mg:Str→Option Value}{base:Heap}{A:Around}{outer:List Env}{s:Shared}{H:Hp}(e:zN P w K mg base A outer s H)(C:Addr)(us:List Value)(kw:List (Str×Value)):
  zN P w K mg base (A.under (.builtin "type.__call__" ⟨.ref C::us,kw⟩)) outer s H:=⟨by first|exact e.frames|(simpa[Around.under,Code.envs,Code.isFrame,pushEnvs]using e.frames),e.mod,e.bs,e.JB,e.ux,e.MJ,e.bX,e.bare⟩
section
variable{X:Cx}{pins:List (Addr×Obj)}{σ:St}{H:Hp}{s s':Shared}
theorem Inv.JW(I:Inv X pins σ H s):zN X.prog X.w X.K X.mg X.base X.A X.stack s H:=
 ⟨I.ok.frames,I.ok.mod,I.bs,Nat.le_trans I.ok.JB I.sz,I.stack,I.vX,I.bX,I.bare⟩
theorem Inv.after{Q:VK}{u:Value}(I:Inv X pins σ H s)(h:CE X.stack X.prog X.w H s Q u s'):EP X pins σ Q u s':=by
 obtain⟨v,H',os,bare,un,bX,r,q⟩:=h;obtain⟨hh,g,d,t,VX⟩:=s';obtain rfl:VX=s.os:=os;exact⟨v,H',I.call (h':=hh) (g':=g) (d':=d) (t':=t) (ch:=[]) un bX bare (fun b z=>absurd z Zr),r,q⟩
end
def Ij(sp:Sp)(l5:List V)(E:St→XK)(t:TA):TE:=fun σ H Q=>t σ H fun vs H1=>sp (vs++l5) H1 Q (E σ)
def A9(C:Addr)(m:Str)(sp:Sp)(l5:List V)(E:St→XK)(ta:TE)(t:TA):TE:=fun σ H Q=>ta σ H fun x H1=>∃a dx fs,x= .ref a∧H1 a=some (.ins C dx fs)∧fs.lookup m=none∧
 t σ H1 fun vs H2=>sp (x::(vs++l5)) H2 Q (E σ)
def A_(C:Addr)(sp:Sp)(l5:List V)(E:St→XK)(t:TA):TE:=fun σ H Q=>t σ H fun vs H1=>∀x dx,H1 x=none→H1 dx=none→dx≠x→
 sp (.ref x::(vs++l5)) (upd (upd H1 dx (.own x)) x (.ins C dx [])) (fun v H2=>v= .cO∧Q (.ref x) H2) (E σ)
def Binds(K:PySem.W.Frag)(fd:FuncData)(ps:List Str)(ds:List Value):Prop:=
 ∀(s:Shared)(us:List Value),K.In s.heap→(us++ds).length=ps.length→BindsTo s fd ⟨us,[]⟩ (ps.zip (us++ds))
theorem Binds.all{K:PySem.W.Frag}{fd:FuncData}{ps:List Str}(h:∀us:List Value,us.length=ps.length→bindArgs fd ⟨us,[]⟩=pure (ps.zip us)):Binds K fd ps []:=fun s us _ hl=>by
 rw[List.append_nil]at hl⊢;exact .of_eq (h us hl)
def Passes(CX:DQ)(X:Cx)(E:St→XK):Prop:=∀(pins:List (Addr×Obj))(σ:St)(H:Hp)(s:Shared)(e:Value)(s':Shared),Inv X pins σ H s→CX X.stack H s (E σ) e s'→X.xe e s'
section
variable{X:Cx}{CX:DQ}{cm:Bool}{k:Nat}{f C:Addr}{fd:FuncData}{ps:List Str}{sp:Sp}{l5:List V}{ds:List Value}{E:St→XK}{x m:Str}{p pos apos:Pos}{e o:Expr}{es:List Expr}{ta:TE}{t:TA}
theorem zO{pins:List (Addr×Obj)}{σ:St}{H:Hp}{s:Shared}{Q:VK}{us:List Value}{vs:List V}(F:a7 X.prog X.w X.K X.mg X.base CX cm k f fd ps sp)(hr:eR cm k X.A)(hb:Binds X.K fd ps ds)(hd:Vals l5 ds)(hx:Passes CX X E)
  (I:Inv X pins σ H s) (r:Vals vs us) (h:sp (vs++l5) H Q (E σ)):wpAny (model X.prog X.w) X.A (call (.ref f) us) (EP X pins σ Q) X.xe s:=by
 have r2:Vals (vs++l5) (us++ds):=r.append hd;have hl:(us++ds).length=ps.length:=by rw[←r2.length];exact F.len _ _ _ _ h
 refine wpAny_call (codeAny_mono (F.run X.A X.stack s H ⟨us,[]⟩ (us++ds) (vs++l5) Q (E σ) hr I.JW (hb s us I.p8 hl) r2 h) fun r s' hq=>?_);cases r with
 |error e=>exact hx pins σ H s e s' I hq
 |ok fl=>
  cases fl with
  |ret u=>exact I.after hq
  |next=>exact False.elim hq
  |brk=>exact False.elim hq
  |cont=>exact False.elim hq
theorem Gj(F:a7 X.prog X.w X.K X.mg X.base CX cm k f fd ps sp)(hr:eR cm k X.A)(hg:Gl X x)(hm:X.mg x=some (.ref f))(hk:PySem.W.keepIn X.K (.ref f)=true)(hb:Binds X.K fd ps ds)(hd:Vals l5 ds)(hx:Passes CX X E)
  (ha:PA X (e::es) t) (v8:(x==("__debug__":Str))=false:=by decide) (he:starEach (e::es) X.env=(false,eval e X.env)::starEach es X.env:=by rfl) (rf:(backTo pos (starEach es X.env)).any (·.1)=false:=by rfl):
  PE X (.Call (.Name x p) (e::es) [] pos) (Ij sp l5 E t):=by
 intro pins s σ H Q I h;refine wpAny_Call_Name_kw (n_ I hg hm ?_ v8);refine PySem.W.callWith_K (h₀:=X.base) I.ok.mod.LQ hk (cK (ha pos pins s σ H _ I h) fun us s1 ⟨vs,H1,I1,r,q⟩=>⟨I1.p8,?_⟩) he rf;exact zO F hr hb hd hx I1 r q
theorem Gk{pl:Sem Bool}(he:PE X o ta)(c:v7 X.K C)(hm:Meth X.K C m f)(F:a7 X.prog X.w X.K X.mg X.base CX cm k f fd ps sp)(hr:eR cm k X.A)(hb:Binds X.K fd ps ds)(hd:Vals l5 ds)(hx:Passes CX X E)(ha:PA X (e::es) t)
  (vi:starEach (e::es) X.env=(false,eval e X.env)::starEach es X.env:=by rfl) (rf:(backTo pos (starEach es X.env)).any (·.1)=false:=by rfl)
  (ht:eval (.Call (.Attribute o m apos) (e::es) [] pos) X.env=(do
   let ov←eval o X.env
   standAt apos.atName
   let (f,first)←holding [ov] (getMethod ov m pl)
   callWith pos f first (backTo pos (starEach (e::es) X.env)) (backToKw pos (keywordEach [] X.env))):=by rfl):
  PE X (.Call (.Attribute o m apos) (e::es) [] pos) (A9 C m sp l5 E ta t):=by
 intro pins s σ H Q I h;refine PySem.W.methodCall_KW (pl:=pl) (cK (he pins s σ H _ I h) fun u s1 ⟨x,H1,I1,rx,a,dx,fs,ex,ea,l,q⟩=>?_) ht;subst ex;obtain rfl:u=Value.ref a:=rx;refine m8 I1 ea c hm l ?_;refine PySem.W.callWith_K (first:=[.ref a]) (h₀:=X.base) I.ok.mod.LQ hm.kp (cK (ha pos pins s1 σ H1 _ I1 q) fun us s2 ⟨vs,H2,I2,r,q2⟩=>⟨I2.p8,?_⟩) vi rf;exact zO (us:= .ref a::us) (vs:= .ref a::vs) F hr hb hd hx I2 (.cons rfl r) q2
theorem DR{pl:Sem Bool}(he:PE X o ta)(c:v7 X.K C)(hm:Meth X.K C m f)(F:a7 X.prog X.w X.K X.mg X.base CX cm k f fd ps sp)(hr:eR cm k X.A)(hb:Binds X.K fd ps ds)(hd:Vals l5 ds)(hx:Passes CX X E)
  (ht:eval (.Call (.Attribute o m apos) [] [] pos) X.env=(do
   let ov←eval o X.env
   standAt apos.atName
   let (f,first)←holding [ov] (getMethod ov m pl)
   callWith pos f first (backTo pos (starEach [] X.env)) (backToKw pos (keywordEach [] X.env))):=by rfl):
  PE X (.Call (.Attribute o m apos) [] [] pos) (A9 C m sp l5 E ta DP):=by
 intro pins s σ H Q I h;refine PySem.W.methodCall_KW (pl:=pl) (cK (he pins s σ H _ I h) fun u s1 ⟨x,H1,I1,rx,a,dx,fs,ex,ea,l,q⟩=>?_) ht;subst ex;obtain rfl:u=Value.ref a:=rx;refine m8 I1 ea c hm l ?_;exact PySem.W.callWith_K0 (first:=[.ref a]) I1.p8 hm.kp (zO (us:=[.ref a]) (vs:=[.ref a]) F hr hb hd hx I1 (.cons rfl .nil) q)
structure Mk(K:PySem.W.Frag)(C f:Addr):Prop where
 makes:PySem.W.makesIn K C=true
 init:PySem.W.findIn K (.ref C) "__init__"=some (some (.ref f))
 fn:PySem.W.isFn K (.ref f)=true
 kp:PySem.W.keepIn K (.ref C)=true
theorem yj{pins:List (Addr×Obj)}{σ:St}{H:Hp}{s:Shared}{Q:VK}{us:List Value}{vs:List V}(M:Mk X.K C f)(F:a7 X.prog X.w X.K X.mg X.base CX cm k f fd ps sp)(hr:eR cm (k+1) X.A)(hb:Binds X.K fd ps ds)(hd:Vals l5 ds)
  (hx:Passes CX X E) (I:Inv X pins σ H s) (r:Vals vs us)
  (h:∀x dx,H x=none→H dx=none→dx≠x→sp (.ref x::(vs++l5)) (upd (upd H dx (.own x)) x (.ins C dx [])) (fun v H2=>v= .cO∧Q (.ref x) H2) (E σ)):
  wpAny (model X.prog X.w) X.A (call (.ref C) us) (EP X pins σ Q) X.xe s:=by
 have hq:=h (s.heap.objs.size+1) s.heap.objs.size (I.bX.fresh (Nat.le_succ _)) (I.bX.fresh (Nat.le_refl _)) (Nat.ne_of_lt (Nat.lt_succ_self _));have I2:=Inv.made (C:=C) I;have r2:Vals (V.ref (s.heap.objs.size+1)::(vs++l5)) (Value.ref (s.heap.objs.size+1)::(us++ds)):= .cons rfl (r.append hd);have hl:(Value.ref (s.heap.objs.size+1)::us++ds).length=ps.length:=by
  have e:=r2.length;rw[F.len _ _ _ _ hq]at e;exact e.symm
 refine wpAny_call (DN (f:=f) I.p8 M.makes M.init (beq_iff_eq.mp M.fn) (codeAny_mono (F.run _ X.stack _ _ ⟨Value.ref (s.heap.objs.size+1)::us,[]⟩ (Value.ref (s.heap.objs.size+1)::(us++ds)) _ _ (E σ) (hr.make C us [])
  (I2.JW.make C us []) (hb _ (Value.ref (s.heap.objs.size+1)::us) I2.p8 hl) r2 hq) fun r s' Nb=>?_))
 cases r with
 |error e=>exact hx pins σ _ _ e s' I2 Nb
 |ok fl=>
  cases fl with
  |ret u=>
   obtain⟨v,H',I3,rv,ev,q3⟩:=I2.after Nb;subst ev;exact⟨rv,⟨V.ref (s.heap.objs.size+1),H',I3,rfl,q3⟩⟩
  |next=>exact False.elim Nb
  |brk=>exact False.elim Nb
  |cont=>exact False.elim Nb
theorem Gm(M:Mk X.K C f)(F:a7 X.prog X.w X.K X.mg X.base CX cm k f fd ps sp)(hr:eR cm (k+1) X.A)(hg:Gl X x)(hm:X.mg x=some (.ref C))(hb:Binds X.K fd ps ds)(hd:Vals l5 ds)(hx:Passes CX X E)
  (ha:PA X (e::es) t) (v8:(x==("__debug__":Str))=false:=by decide) (he:starEach (e::es) X.env=(false,eval e X.env)::starEach es X.env:=by rfl) (rf:(backTo pos (starEach es X.env)).any (·.1)=false:=by rfl):
  PE X (.Call (.Name x p) (e::es) [] pos) (A_ C sp l5 E t):=by
 intro pins s σ H Q I h;refine wpAny_Call_Name_kw (n_ I hg hm ?_ v8);refine PySem.W.callWith_K (h₀:=X.base) I.ok.mod.LQ M.kp (cK (ha pos pins s σ H _ I h) fun us s1 ⟨vs,H1,I1,r,q⟩=>⟨I1.p8,?_⟩) he rf;exact yj M F hr hb hd hx I1 r q
theorem DS(M:Mk X.K C f)(F:a7 X.prog X.w X.K X.mg X.base CX cm k f fd ps sp)(hr:eR cm (k+1) X.A)(hg:Gl X x)(hm:X.mg x=some (.ref C))(hb:Binds X.K fd ps ds)(hd:Vals l5 ds)(hx:Passes CX X E)
  (v8:(x==("__debug__":Str))=false:=by decide):PE X (.Call (.Name x p) [] [] pos) (A_ C sp l5 E DP):=by
 intro pins s σ H Q I h;refine wpAny_Call_Name_kw (n_ I hg hm ?_ v8);exact PySem.W.callWith_K0 I.p8 M.kp (yj (us:=[]) M F hr hb hd hx I .nil h)
end
section
variable{X:Cx}{CX:DQ}{cm:Bool}{k:Nat}{f C:Addr}{fd:FuncData}{ps ks:List Str}{sp:Sp}{E:St→XK}{x m:Str}{p pos apos VY:Pos}{e o:Expr}{es:List Expr}{Yn:List Keyword}{te ta:TE}{t tk:TA}{nm:Option Str}
variable{g:List Value→List Value→List Value}{gV:List V→List V→List V}
end
structure aM(N P:List Str)(sc:Scope):Prop where
 kind:sc.kind= .function
 co:sc.isCoroutine=false
 gen:sc.isGenerator=false
 nd:N.Nodup
 pre:N.take P.length=P
 par:∀x∈P,sc.names.lookup x=some .local∨sc.names.lookup x=some .cell
 JX:∀y∈sc.names,y.2≠ .free
theorem vj{kindOf:Str→Option NameKind}{x:Str}:∀{binds:List (Str×Value)}{m:Str→Option Value},(∀v,(x,v)∉binds)→bindL kindOf binds m x=m x
 |[],_,_=>rfl
 |(n,v)::r,m,h=>by
  unfold bindL;rw[vj fun w hw=>h w (List.mem_cons_of_mem _ hw)];split
  ·have:x≠n:=by rintro rfl;exact h v List.mem_cons_self
   simp[this]
  ·rfl
theorem vk{kindOf:Str→Option NameKind}{x:Str}:∀{binds:List (Str×Value)}{m:Str→Option Value},(∀v,(x,v)∉binds)→bindC kindOf binds m x=m x
 |[],_,_=>rfl
 |(n,v)::r,m,h=>by
  unfold bindC;rw[vk fun w hw=>h w (List.mem_cons_of_mem _ hw)];split
  ·rfl
  ·have:x≠n:=by rintro rfl;exact h v List.mem_cons_self
   simp[this]
theorem vm{kindOf:Str→Option NameKind}{x:Str}{v:Value}:∀{P:List Str}{vs:List Value}{i:Nat}{m:Str→Option Value},P.Nodup→P[i]?=some x→vs[i]?=some v→kindOf x=some .local→
  bindL kindOf (P.zip vs) m x=some v
 |[],_,_,_,_,h,_,_=>by simp at h
 | _::_,[],_,_,_,_,h,_=>by simp at h
 |p::P,w::vs,0,m,nd,h1,h2,hk=>by
  simp at h1 h2;subst h1;subst h2;show bindL kindOf ((p,w)::P.zip vs) m p=_;unfold bindL;rw[vj fun v hv=>(List.nodup_cons.mp nd).1 (List.of_mem_zip hv).1,Zk hk];simp
 |p::P,w::vs,i+1,m,nd,h1,h2,hk=>by
  show bindL kindOf ((p,w)::P.zip vs) m x=_;unfold bindL;exact vm (i:=i) (List.nodup_cons.mp nd).2 (by simpa using h1) (by simpa using h2) hk
theorem vn{kindOf:Str→Option NameKind}{x:Str}{v:Value}:∀{P:List Str}{vs:List Value}{i:Nat}{m:Str→Option Value},P.Nodup→P[i]?=some x→vs[i]?=some v→kindOf x≠some .local→
  bindC kindOf (P.zip vs) m x=some v
 |[],_,_,_,_,h,_,_=>by simp at h
 | _::_,[],_,_,_,_,h,_=>by simp at h
 |p::P,w::vs,0,m,nd,h1,h2,hk=>by
  simp at h1 h2;subst h1;subst h2;show bindC kindOf ((p,w)::P.zip vs) m p=_;unfold bindC;rw[vk fun v hv=>(List.nodup_cons.mp nd).1 (List.of_mem_zip hv).1,Zh hk];simp
 |p::P,w::vs,i+1,m,nd,h1,h2,hk=>by
  show bindC kindOf ((p,w)::P.zip vs) m x=_;unfold bindC;exact vn (i:=i) (List.nodup_cons.mp nd).2 (by simpa using h1) (by simpa using h2) hk
def start(N:List Str)(vs:List V):St:=vs.map some++List.replicate (N.length-vs.length) none
def zP(CX:DQ)(cm:Bool)(P:Program)(w:World)(K:PySem.W.Frag)(mg:Str→Option Value)(base:Heap)(N:List Str)(qual:Str)(scope:Scope)(f:Addr)(cd:Value)(A:Around)(outer:List Env)(s:Shared)(H:Hp)(E:XK):Cx where
 prog:=P
 w:=w
 K:=K
 mg:=mg
 base:=base
 A:=A.deeper (envOfC qual scope s.heap.objs.size f cd)
 N:=N
 dB:=s
 eW:=H
 env:=envOfC qual scope s.heap.objs.size f cd
 outer:=outer
 stack:=envOfC qual scope s.heap.objs.size f cd::outer
 ex:=[]
 calm:=cm
 fn:=fun _=>true
 pn:=[]
 xe:=fun e s'=>wpAny (model P w) (A.deeper (envOfC qual scope s.heap.objs.size f cd)) (leaving (envOfC qual scope s.heap.objs.size f cd) e) (fun _ v9=>CX outer H s E e v9) (fun e' v9=>CX outer H s E e' v9) s'
theorem yk{sc:Scope}{n:Nat}{x:Str}(h:sc.names.lookup x=some .cell):∃c,(cellsFrom n sc.names []).lookup x=some c:=by
 have q:=PySem.W.cellsFrom_some sc.names n [] (.inl h);exact Option.isSome_iff_exists.mp q
theorem Cd{CX:DQ}{cm:Bool}{P:Program}{w:World}{K:PySem.W.Frag}{mg:Str→Option Value}{base:Heap}{N ps:List Str}{qual:Str}{scope:Scope}{f:Addr}{cd:Value}{A:Around}{outer:List Env}{s s1:Shared}{H:Hp}{E:XK}{us:List Value}{vs:List V}
  (S:aM N ps scope) (hd:cm=true→A.handled=none) (e0:zN P w K mg base A outer s H) (hl:vs.length=ps.length) (r:Vals vs us)
  (x:InCallC s s.heap.objs.size (bindL (envOfC qual scope s.heap.objs.size f cd).kindOf (ps.zip us) fun _=>none) (cellsFrom (s.heap.objs.size+1) scope.names []) (bindC (envOfC qual scope s.heap.objs.size f cd).kindOf (ps.zip us) fun _=>none) s1):
  Inv (zP CX cm P w K mg base N qual scope f cd A outer s H E) [] (start N vs) H s1:=by
 have rf:ps.length≤N.length:=by have:=congrArg List.length S.pre;rw[List.length_take]at this;omega
 obtain⟨h1,tk,rfl,hk⟩:=x.done;have Nc:∀b:Addr,b∉(zP CX cm P w K mg base N qual scope f cd A outer s H E).ex:=fun b z=>absurd (show b∈([]:List Addr)from z) (ZA)
 refine⟨⟨e0.mod,S.kind,rfl,rfl,Nat.le_refl _,fun y z c h1 h2=>?_,fun y hy=>?_,fun y c _ h=>?_,fun z=>hd z,Around.frames_deeper e0.frames, .inr ⟨rfl,rfl⟩,fun b z=>absurd z (Nc b),e0.bs,e0.JB,fun b _ _=>Nc b,fun b z=>absurd z (Nc b),e0.ux,e0.MJ⟩,
  rfl,e0.bare,Un.kept hk,⟨_,x.toInCall.ns,fun i y v h1 h2 h3=>?_⟩,fun y c h=>⟨_,x.cell y c h⟩,e0.bX.fresh (Nat.le_refl _),fun y c h=>?_,fun p hp=>absurd (show p∈([]:List (Addr×Obj))from hp) (ZA),e0.bX.kept hk,?_⟩
 ·exact name_of_addr x.apart (PySem.mem_of_lookup h1) (PySem.mem_of_lookup h2)
 ·have hy:scope.names.lookup y=some .cell∨scope.names.lookup y=some .free:=hy;rcases hy with hy|hy
  ·exact yk hy
  ·exact absurd rfl (S.JX _ (PySem.mem_of_lookup hy))
 ·exact Nat.le_of_lt (x.above y c (PySem.mem_of_lookup h))
 ·have hi:i<vs.length:=by
   unfold start at h2;by_cases hi:i<vs.length
   ·exact hi
   ·rw[List.getElem?_append_right (by simpa using hi)]at h2;rw[List.getElem?_replicate]at h2;split at h2<;>cases h2
  have ha:vs[i]?=some v:=by
   unfold start at h2;rw[List.getElem?_append_left (by simpa using hi),List.getElem?_map]at h2;cases e:vs[i]? with
   |none=>rw[e]at h2;cases h2
   |some a=>rw[e]at h2;cases h2;rfl
  obtain⟨u,hu,rv⟩:=r.get ha;have hp:ps[i]?=some y:=by
   rw[←S.pre,List.getElem?_take_of_lt Zt];exact h1
  have TX:ps.Nodup:=by rw[←S.pre];exact S.nd.sublist (List.take_sublist _ _)
  refine⟨u,rv,?_⟩;rcases S.par y (Ze hp)with k|k
  ·exact .inl ⟨k,vm TX hp hu k⟩
  ·obtain⟨c,e⟩:=yk (n:=s.heap.objs.size+1) k;refine .inr ⟨.inl k,c,e,?_⟩;have q:=x.cell y c e;rw[vn TX hp hu (by show scope.names.lookup y≠_;rw[k];decide)]at q;exact q
 ·exact e0.bX.fresh (Nat.le_of_lt (x.above y c (PySem.mem_of_lookup h)))
 ·unfold start;show _=N.length;rw[List.length_append,List.length_map,List.length_replicate];omega
theorem Ik{CX:DQ}{cm:Bool}{P:Program}{w:World}{K:PySem.W.Frag}{mg:Str→Option Value}{base:Heap}{k:Nat}{f:Addr}{name qual:Str}{params:Arguments}{body:List Stmt}{scope:Scope}{dV kV doc pm bT ct oc:Value}{an od:Option Addr}
  {Ba:Array (Option Value)} {N ps:List Str} {sp:Sp} (lk:K.lookup f=some ⟨oc,od, .func (PySem.W.fnOf name qual params body scope dV kV doc pm an bT ct),Ba⟩) (B7:PySem.W.codeIn K bT qual=true) (S:aM N ps scope)
  (len:∀vs H Q E,sp vs H Q E→vs.length=ps.length)
  (yl:∀(A:Around)(outer:List Env)(s:Shared)(H:Hp)(vs:List V)(Q:VK)(E:XK),eR cm k (A.deeper (envOfC qual scope s.heap.objs.size f bT))→sp vs H Q E→
   ∃t,B6 (zP CX cm P w K mg base N qual scope f bT A outer s H E) body t∧t {nx:=fun _ H'=>Q .cO H',rt:=Q} (start N vs) H):
  a7 P w K mg base CX cm (k+1) f (PySem.W.fnOf name qual params body scope dV kV doc pm an bT ct) ps sp:=by
 refine⟨len,fun A outer s H args us vs Q E hr e0 hb r FU=>?_⟩;have hl:=len _ _ _ _ FU;have KX:K.In s.heap:=e0.mod.LQ.keeps fun b o e=>(e0.bs b o e).1
 have lim:s.heap.NoLimit:=e0.mod.nolimit.keeps fun b o e=>(e0.bs b o e).1
 have Nd:∀y∈ps.zip us,scope.names.lookup y.1=some .local∨(scope.names.lookup y.1=some .cell∧((cellsFrom (s.heap.objs.size+1) scope.names []).lookup y.1).isSome=true):=fun⟨n,v⟩ hy=>by
  rcases S.par n (List.of_mem_zip hy).1 with q|q
  ·exact .inl q
  ·exact .inr ⟨q,PySem.W.cellsFrom_some _ _ _ (.inl q)⟩
 refine codeAny_call_function hr.depth (KX _ _ lk) rfl S.co S.gen rfl (PySem.W.codeRec_of KX B7) (hb _ _ _ _ ?_);refine wpAny_newFunctionEnv_cells S.kind Nd fun env he s1 x=>?_
 subst he;refine⟨lim.keeps x.toInCall.keep,codeAny_func ?_⟩;obtain⟨t,ht,hq⟩:=yl A outer s H vs Q E (hr.deeper _) FU;have I:Inv (zP CX cm P w K mg base N qual scope f bT A outer s H E) [] (start N vs) H s1:=Cd S hr.hd e0 hl r x;refine wpAny_mono (ht [] s1 (start N vs) H _ I hq) (fun fl s' hs=>?_) fun e s' hs=>hs
 have fin:∀{bH:St}{H':Hp}{v:V}{u:Value},Inv (zP CX cm P w K mg base N qual scope f bT A outer s H E) [] bH H' s'→RelV v u→Q v H'→CE outer P w H s Q u s':=
  fun{bH H' v u} J rv q=>⟨v,H',J.os,J.bare,J.base,J.bX,rv,q⟩
 cases fl with
 |ret u=>
  obtain⟨v,bH,H',J,rv,q⟩:=hs;exact fin J rv q
 |next=>
  obtain⟨bH,H',J,q⟩:=hs;exact fin (v:=V.cO) (u:=Value.none) J rfl q
 |brk=>
  obtain⟨_,_,_,q⟩:=hs;exact False.elim q
 |cont=>
  obtain⟨_,_,_,q⟩:=hs;exact False.elim q
section
variable{X:Cx}{x:Str}{p pos:Pos}{e:Expr}{es:List Expr}{t:TA}{id T:String}{r:List V→Hp→VK→Prop}
def TY(r:List V→Hp→VK→Prop)(t:TA):TE:=fun σ H Q=>t σ H fun vs H1=>r vs H1 Q
theorem aN(hc:iW X (.builtin id) r)(hg:Gl X x)(hm:X.mg x=none)(hv:bootBuiltins x=some (.builtin id))(ha:PA X (e::es) t)(hn:x≠"__name__":=by decide)(v8:(x==("__debug__":Str))=false:=by decide)
  (he:starEach (e::es) X.env=(false,eval e X.env)::starEach es X.env:=by rfl) (rf:(backTo pos (starEach es X.env)).any (·.1)=false:=by rfl):PE X (.Call (.Name x p) (e::es) [] pos) (TY r t):=by
 intro pins s σ H Q I h;refine wpAny_Call_Name_kw (lh I hg hm hv ?_ hn v8);exact PyProof.Rows.callWith_builtin1 (cK (ha pos pins s σ H _ I h) fun us s1 ⟨vs,H1,I1,r1,q1⟩=>hc pins s1 σ H1 vs us Q I1 r1 q1) he rf
theorem gO(hc:iW X (.type T) r)(hg:Gl X x)(hm:X.mg x=none)(hv:bootBuiltins x=some (.type T))(ha:PA X (e::es) t)(hn:x≠"__name__":=by decide)(v8:(x==("__debug__":Str))=false:=by decide)
  (he:starEach (e::es) X.env=(false,eval e X.env)::starEach es X.env:=by rfl) (rf:(backTo pos (starEach es X.env)).any (·.1)=false:=by rfl):PE X (.Call (.Name x p) (e::es) [] pos) (TY r t):=by
 intro pins s σ H Q I h;refine wpAny_Call_Name_kw (lh I hg hm hv ?_ hn v8);exact PyProof.Rows.callWith_type1 (cK (ha pos pins s σ H _ I h) fun us s1 ⟨vs,H1,I1,r1,q1⟩=>hc pins s1 σ H1 vs us Q I1 r1 q1) he rf
end
section
variable{κ:Type}[DecidableEq κ]
def bu(kvs:List (κ×V))(k:κ):Option V:=(kvs.find? fun kv=>decide (kv.1=k)).map (·.2)
def putK(kvs:List (κ×V))(k:κ)(v:V):List (κ×V):=
 if (kvs.any fun kv=>decide (kv.1=k))=true then kvs.map (fun kv=>if kv.1=k then(kv.1,v)else kv)else kvs++[(k,v)]
def iX(kvs:List (κ×V))(k:κ):List (κ×V):=kvs.filter fun kv=>decide (kv.1≠k)
theorem sI{k:κ}:bu ([]:List (κ×V)) k=none:=rfl
theorem cJ{p:κ×V}{r:List (κ×V)}{k:κ}(e:p.1=k):bu (p::r) k=some p.2:=by simp[bu,List.find?_cons,e]
theorem cy{p:κ×V}{r:List (κ×V)}{k:κ}(e:¬p.1=k):bu (p::r) k=bu r k:=by simp[bu,List.find?_cons,e]
theorem ic(k:κ):∀kvs:List (κ×V),(kvs.any fun kv=>decide (kv.1=k))=(bu kvs k).isSome
 |[]=>rfl
 |p::r=>by
  rw[List.any_cons];by_cases e:p.1=k
  ·simp only[cJ e,decide_eq_true e,Bool.true_or,Option.isSome_some]
  ·rw[cy e,decide_eq_false e,Bool.false_or];exact ic k r
theorem ym(k j:κ)(y:V):∀kvs:List (κ×V),bu (kvs.map fun kv=>if kv.1=k then(kv.1,y)else kv) j=(bu kvs j).map fun x=>if j=k then y else x
 |[]=>rfl
 |p::r=>by
  have ih:=ym k j y r;rw[List.map_cons];by_cases h:p.1=k
  ·rw[Zk h];by_cases e:p.1=j
   ·rw[cJ (p:=(p.1,y)) e,cJ e,Option.map_some,Zk (e.symm.trans h)]
   ·rw[cy (p:=(p.1,y)) e,cy e,ih]
  ·rw[Zh h];by_cases e:p.1=j
   ·rw[cJ (p:=p) e,cJ e,Option.map_some,Zh (fun z=>h (e.trans z))]
   ·rw[cy (p:=p) e,cy e,ih]
theorem vo(k j:κ)(y:V):∀kvs:List (κ×V),bu kvs k=none→bu (kvs++[(k,y)]) j=if j=k then some y else bu kvs j
 |[],_=>by
  by_cases e:k=j
  ·rw[Zk e.symm];exact cJ (p:=(k,y)) e
  ·rw[Zh (fun z=>e z.symm)];exact cy (p:=(k,y)) e
 |p::r,hn=>by
  rw[List.cons_append];have hk:¬p.1=k:=fun z=>by rw[cJ z]at hn;cases hn
  rw[cy hk]at hn;have ih:=vo k j y r hn;by_cases e:p.1=j
  ·rw[cJ e,cJ e,Zh (fun z=>hk (e.trans z))]
  ·rw[cy e,cy e,ih]
theorem iY(kvs:List (κ×V))(k j:κ)(y:V):bu (putK kvs k y) j=if j=k then some y else bu kvs j:=by
 unfold putK;by_cases a:(kvs.any fun kv=>decide (kv.1=k))=true
 ·rw[Zk a,ym];rw[ic]at a;by_cases e:j=k
  ·obtain⟨x,hx⟩:=Option.isSome_iff_exists.mp a;rw[Zk e,e,hx,Option.map_some,if_pos rfl]
  ·rw[Zh e];cases bu kvs j with
   |none=>rfl
   |some x=>rw[Option.map_some,Zh e]
 ·rw[Zh a];refine vo k j y kvs ?_;rw[ic]at a;cases q:bu kvs k with
  |none=>rfl
  |some x=>rw[q]at a;exact(a rfl).elim
theorem eY(kvs:List (κ×V))(k:κ)(v:V):(putK kvs k v).length≤kvs.length+1:=by
 unfold putK;split
 ·rw[List.length_map];omega
 ·rw[List.length_append,List.length_cons,List.length_nil];omega
theorem sJ{kvs:List (κ×V)}{k:κ}(v:V)(h:bu kvs k=none):putK kvs k v=kvs++[(k,v)]:=by
 unfold putK;rw[ic,h];exact if_neg (Zy)
theorem kj.jU{o:Option V}{u:Option Value}(r:kj o u):o.isSome=u.isSome:=by
 cases o with
 |none=>cases u with
  |none=>rfl
  |some _=>exact(show False from r).elim
 |some _=>cases u with
  |none=>exact(show False from r).elim
  |some _=>rfl
theorem kj.getD{o:Option V}{u:Option Value}{d:V}{d':Value}(r:kj o u)(rd:RelV d d'):RelV (o.getD d) (u.getD d'):=by
 cases o with
 |none=>cases u with
  |none=>exact rd
  |some _=>exact(show False from r).elim
 |some _=>cases u with
  |none=>exact(show False from r).elim
  |some _=>exact r
theorem KV.val{kvs:List (κ×V)}{vs:List (κ×Value)}(r:KV kvs vs)(k:κ):kj (bu kvs k) (valueAt vs k):=by
 unfold KV at r
 induction r with
 |nil=>exact True.intro
 |@cons p q ps qs h t ih=>
  obtain⟨h1,h2⟩:=h;by_cases e:p.1=k
  ·have e':q.1=k:=h1.symm.trans e;have b:valueAt (q::qs) k=some q.2:=by simp[valueAt,List.find?_cons,e']
   rw[cJ e,b];exact h2
  ·have e':¬q.1=k:=fun z=>e (h1.trans z)
   have b:valueAt (q::qs) k=valueAt qs k:=by simp[valueAt,List.find?_cons,e']
   rw[cy e,b];exact ih
theorem KV.any{kvs:List (κ×V)}{vs:List (κ×Value)}(r:KV kvs vs)(k:κ):(kvs.any fun kv=>decide (kv.1=k))=vs.any fun kv=>decide (kv.1=k):=by
 unfold KV at r
 induction r with
 |nil=>rfl
 |cons h t ih=>rw[List.any_cons,List.any_cons,ih,h.1]
theorem KV.JY{kvs:List (κ×V)}{vs:List (κ×Value)}(r:KV kvs vs)(k:κ){y:V}{u:Value}(ry:RelV y u):
  KV (kvs.map fun kv=>if kv.1=k then(kv.1,y)else kv) (vs.map fun kv=>if kv.1=k then(kv.1,u)else kv):=by
 unfold KV at r⊢
 induction r with
 |nil=>exact .nil
 |@cons p q ps qs h t ih=>
  rw[List.map_cons,List.map_cons];refine .cons ?_ ih;obtain⟨h1,h2⟩:=h;by_cases e:p.1=k
  ·rw[Zk e,Zk (h1.symm.trans e)];exact⟨h1,ry⟩
  ·rw[Zh e,Zh (fun z=>e (h1.trans z))];exact⟨h1,h2⟩
theorem KV.put{kvs:List (κ×V)}{vs:List (κ×Value)}(r:KV kvs vs)(k:κ){y:V}{u:Value}(ry:RelV y u):KV (putK kvs k y) (stored vs k u):=by
 unfold putK stored;rw[r.any k];by_cases e:(vs.any fun kv=>decide (kv.1=k))=true
 ·rw[Zk e,Zk e];exact r.JY k ry
 ·rw[Zh e,Zh e];exact Paired.snoc r ⟨rfl,ry⟩
theorem KV.length{kvs:List (κ×V)}{vs:List (κ×Value)}(r:KV kvs vs):kvs.length=vs.length:=Paired.length r
theorem yn(kvs:List (κ×V))(k:κ):(iX kvs k).length≤kvs.length:=List.length_filter_le _ _
end
theorem vp{P:Program}{w:World}{k:Key}{u:Value}(r:RelV (kV k) u):(cZ P w).is k u=true:=by
 cases k with
 |inl i=>obtain⟨t,e⟩:=(show ∃t,u=Value.int i t from r);subst e;exact yc P w i t
 |inr x=>obtain⟨t,e⟩:=(show ∃t,u=Value.str x t from r);subst e;exact yd P w x t
theorem vt{P:Program}{w:World}:∀{ks:List Key}{us:List Value},Vals (ks.map kV) us→ItemsAre (cZ P w) ks us
 |[],_,r=>by rw[List.map_nil]at r;cases r;exact .nil
 |k::ks,_,r=>by
  rw[List.map_cons]at r;cases r with
  |cons h t=>exact .cons (vp h) (vt t)
abbrev KT(H:Hp):List (List Key×V)→List (List Key×Addr×Value)→Prop:=Paired fun p q=>p.1=q.1∧H q.2.1=some (.tup (p.1.map kV))∧RelV p.2 q.2.2
theorem KT.val{H:Hp}{kvs:List (List Key×V)}{xs:List (List Key×Addr×Value)}(r:KT H kvs xs)(k:List Key):kj (bu kvs k) ((atKey xs k).map (·.2)):=by
 induction r with
 |nil=>exact True.intro
 |@cons p q ps qs h t ih=>
  obtain⟨h1,_,h2⟩:=h;by_cases e:p.1=k
  ·have e':q.1=k:=h1.symm.trans e;have b:atKey (q::qs) k=some q.2:=by simp[atKey,List.find?_cons,e']
   rw[cJ e,b];exact h2
  ·have e':¬q.1=k:=fun z=>e (h1.trans z)
   have b:atKey (q::qs) k=atKey qs k:=by simp[atKey,List.find?_cons,e']
   rw[cy e,b];exact ih
theorem KT.JY{H:Hp}{kvs:List (List Key×V)}{xs:List (List Key×Addr×Value)}(r:KT H kvs xs)(k:List Key){y:V}{u:Value}(ry:RelV y u):
  KT H (kvs.map fun kv=>if kv.1=k then(kv.1,y)else kv) (xs.map (putAt k u)):=by
 induction r with
 |nil=>exact .nil
 |@cons p q ps qs h t ih=>
  rw[List.map_cons,List.map_cons];refine .cons ?_ ih;obtain⟨h1,h2,h3⟩:=h;unfold putAt;by_cases e:p.1=k
  ·rw[Zk e,Zk (h1.symm.trans e)];exact⟨h1,h2,ry⟩
  ·rw[Zh e,Zh (fun z=>e (h1.trans z))];exact⟨h1,h2,h3⟩
theorem KT.put{H:Hp}{kvs:List (List Key×V)}{xs:List (List Key×Addr×Value)}(r:KT H kvs xs)(k:List Key){b:Addr}{y:V}{u:Value}(hb:H b=some (.tup (k.map kV)))(ry:RelV y u):
  KT H (putK kvs k y) (storedH xs k b u):=by
 have e:(kvs.any fun kv=>decide (kv.1=k))=(atKey xs k).isSome:=by
  rw[ic,(r.val k).jU,Option.isSome_map]
 unfold putK storedH;rw[e];by_cases q:(atKey xs k).isSome=true
 ·rw[Zk q,Zk q];exact r.JY k ry
 ·rw[Zh q,Zh q];exact Paired.snoc r ⟨rfl,hb,ry⟩
theorem KT.keeps{H H':Hp}{kvs:List (List Key×V)}{xs:List (List Key×Addr×Value)}(r:KT H kvs xs)(ht:∀b ys,H b=some (.tup ys)→H' b=some (.tup ys)):KT H' kvs xs:=
 Paired.Jz r fun _ _ z=>⟨z.1,ht _ _ z.2.1,z.2.2⟩
section
variable{P:Program}{w:World}{H:Hp}{h:Heap}{a:Addr}
theorem Il{u:HO}(ok:lg P w H h)(e:Rd H a u):cS P w H h a u:=e.ok ok
theorem sL{kvs:List (Key×V)}(ok:lg P w H h)(e:Rd H a (.dK kvs)):kvs.length≤sizeLine∧(a==sysModules)=false∧∃vs,KV kvs vs∧h.DictOf (cZ P w) a vs:=
 show cS P w H h a (.dK kvs)from Il ok e
theorem Nf{kvs:List (Key×V)}(ok:lg P w H h)(e:H a=some (.dK kvs)):kvs.length≤sizeLine∧(a==sysModules)=false∧∃vs,KV kvs vs∧h.DictOf (cZ P w) a vs:=sL ok (.inl e)
theorem m9{ks:List Key}(ok:lg P w H h)(e:H a=some (.tup (ks.map kV))):(tupleKind (cZ P w)).is h ks a:=by
 obtain⟨_,its,r,o,h1,h2,n,h3⟩:=(show cS P w H h a (.tup (ks.map kV))from ok a _ e)
 exact⟨o,its.toArray,n,h1,h2,h3,by simpa using vt r⟩
theorem sM{kvs:List (List Key×V)}(ok:lg P w H h)(e:Rd H a (.dT kvs)):kvs.length≤sizeLine∧(a==sysModules)=false∧
  ∃xs,KT H kvs xs∧h.DictOfH (tupleKind (cZ P w)) a xs:=by
 obtain⟨z,y,xs,r,o,es,ep,h1,h2,h3,h4,h5⟩:=(show cS P w H h a (.dT kvs)from Il ok e)
 refine⟨z,y,xs,r,o,es,ep,h1,h2,h3,h4,fun x hx=>?_,h5⟩;have all:∀{l:List (List Key×V)}{m:List (List Key×Addr×Value)},KT H l m→∀x∈m,(tupleKind (cZ P w)).is h x.1 x.2.1:=by
  intro l m q
  induction q with
  |nil=>intro x hx;exact nomatch hx
  |@cons p q ps qs hq t ih=>
   intro x hx;rcases List.mem_cons.mp hx with e|hx
   ·subst e;exact m9 ok (by rw[←hq.1];exact hq.2.1)
   ·exact ih x hx
 exact all r x hx
theorem Im{kvs:List (List Key×V)}(ok:lg P w H h)(e:H a=some (.dT kvs)):kvs.length≤sizeLine∧(a==sysModules)=false∧
  ∃xs,KT H kvs xs∧h.DictOfH (tupleKind (cZ P w)) a xs:=sM ok (.inl e)
end
def jV(H:Hp)(a:Addr)(y:V)(r:Option V):Prop:=
 (∃kvs k,Rd H a (.dK kvs)∧y=kV k∧r=bu kvs k)∨∃kvs k b,Rd H a (.dT kvs)∧y= .ref b∧H b=some (.tup (k.map kV))∧r=bu kvs k
def Gp(H:Hp)(a:Addr)(y v:V)(H':Hp):Prop:=
 (∃kvs k,H a=some (.dK kvs)∧y=kV k∧kvs.length<sizeLine∧H'=upd H a (.dK (putK kvs k v)))∨
 ∃kvs k b,H a=some (.dT kvs)∧y= .ref b∧H b=some (.tup (k.map kV))∧kvs.length<sizeLine∧H'=upd H a (.dT (putK kvs k v))
theorem jV.t{H:Hp}{a b:Addr}{kvs:List (List Key×V)}{k:List Key}(e:H a=some (.dT kvs))(eb:H b=some (.tup (k.map kV))):jV H a (.ref b) (bu kvs k):= .inr ⟨kvs,k,b, .inl e,rfl,eb,rfl⟩
theorem Gp.t{H:Hp}{a b:Addr}{kvs:List (List Key×V)}{k:List Key}{v:V}(e:H a=some (.dT kvs))(eb:H b=some (.tup (k.map kV)))(hl:kvs.length<sizeLine):
  Gp H a (.ref b) v (upd H a (.dT (putK kvs k v))):= .inr ⟨kvs,k,b,e,rfl,eb,hl,rfl⟩
section
variable{X:Cx}{pins:List (Addr×Obj)}{σ:St}{H:Hp}{s:Shared}{a:Addr}{y v:V}{u r:Value}{o:Option V}{A:Around}{E:Value→Shared→Prop}
theorem Inv.big(I:Inv X pins σ H s):sysModules<s.heap.objs.size:=by
 have h:mainGlobals<s.heap.objs.size:=(I.mod.glob.keeps I.bk).lt;exact Nat.lt_trans (Zy) h
theorem Ce{Q:Value→Shared→Prop}(hu:A.units+1<cLine)(I:Inv X pins σ H s)(g:jV H a y (some v))(ry:RelV y u)(h:∀w' s',Inv X pins σ H s'→RelV v w'→Q w' s'):
  wpAny (model X.prog X.w) A (getItem (.ref a) u) Q E s:=by
 rcases g with⟨kvs,k,e,ey,l⟩|⟨kvs,k,b,e,ey,eb,l⟩
 ·subst ey;obtain⟨z,hd,vs,rel,dd⟩:=sL I.bX e;obtain⟨w',hw,fY⟩:=kj.some_of (v:=v) (o:=valueAt vs k) (by rw[l];exact rel.val k);exact wpAny_getItem_of (vp ry) dd.mapOf hw (h w' _ (I.tok _) fY)
 ·subst ey;cases(show u=Value.ref b from ry);obtain⟨z,hd,xs,rel,dd⟩:=sM I.bX e;obtain⟨w',hw,fY⟩:=kj.some_of (v:=v) (o:=(atKey xs k).map (·.2)) (by rw[l];exact rel.val k);obtain⟨p,hp,Cf⟩:=Option.map_eq_some_iff.mp hw;refine wpAny_getItem_heap (tupleKind_room_in1 hu) (m9 I.bX eb) dd hp ?_;rw[Cf];exact h w' _ (I.tok _) fY
theorem QZ{Q:Value→Shared→Prop}(hu:A.units+1<cLine)(I:Inv X pins σ H s)(g:jV H a y o)(ry:RelV y u)(h:∀s',Inv X pins σ H s'→Q (.bool o.isSome) s'):
  wpAny (model X.prog X.w) A (compareOp .In u (.ref a)) Q E s:=by
 rcases g with⟨kvs,k,e,ey,l⟩|⟨kvs,k,b,e,ey,eb,l⟩
 ·subst ey;obtain⟨z,hd,vs,rel,dd⟩:=sL I.bX e;refine wpAny_in_of (vp ry) hd dd.mapOf ?_;rw[←(rel.val k).jU,←l];exact h _ (I.tok _)
 ·subst ey;cases(show u=Value.ref b from ry);obtain⟨z,hd,xs,rel,dd⟩:=sM I.bX e;refine wpAny_in_heap (tupleKind_room_in1 hu) (m9 I.bX eb) hd dd ?_;have q:=(rel.val k).jU;rw[Option.isSome_map]at q;rw[←q,←l];exact h _ (I.tok _)
theorem Gq{Q:Value→Shared→Prop}(hu:A.units+1<cLine)(I:Inv X pins σ H s)(g:jV H a y o)(ry:RelV y u)(h:∀s',Inv X pins σ H s'→Q (.bool (!o.isSome)) s'):
  wpAny (model X.prog X.w) A (compareOp .NotIn u (.ref a)) Q E s:=by
 rcases g with⟨kvs,k,e,ey,l⟩|⟨kvs,k,b,e,ey,eb,l⟩
 ·subst ey;obtain⟨z,hd,vs,rel,dd⟩:=sL I.bX e;refine wpAny_notIn_of (vp ry) hd dd.mapOf ?_;rw[←(rel.val k).jU,←l];exact h _ (I.tok _)
 ·subst ey;cases(show u=Value.ref b from ry);obtain⟨z,hd,xs,rel,dd⟩:=sM I.bX e;refine wpAny_notIn_heap (tupleKind_room_in1 hu) (m9 I.bX eb) hd dd ?_;have q:=(rel.val k).jU;rw[Option.isSome_map]at q;rw[←q,←l];exact h _ (I.tok _)
theorem v_{h':Heap}{t':Nat}{ob:HO}(I:Inv X pins σ H s)(mu:ME (H a))(hs:Heap.SameBut a s.heap h')(he:∃q,h'.get? a=some q)(new:cS X.prog X.w (upd H a ob) h' a ob):
  Inv X pins σ (upd H a ob) {s with heap:=h',toks:=t'}:=
 I.write (x:=a) (e:=a) mu (.inl rfl) (fun b q hb z=>(hs.2 b hb).trans z) he new
theorem JZ{P:Program}{w:World}{H':Hp}{h':Heap}{kvs:List (Key×V)}{vs:List (Key×Value)}(z:kvs.length≤sizeLine)(hd:(a==sysModules)=false)(rel:KV kvs vs)(dd:h'.DictOf (cZ P w) a vs):
  cS P w H' h' a (.dK kvs):=⟨z,hd,vs,rel,dd⟩
theorem Cg{H':Hp}{Q:Unit→Shared→Prop}(hu:A.units+1<cLine)(I:Inv X pins σ H s)(g:Gp H a y v H')(ry:RelV y u)(rv:RelV v r)(h:∀s',Inv X pins σ H' s'→Q () s'):
  wpAny (model X.prog X.w) A (setItem (.ref a) u r) Q E s:=by
 rcases g with⟨kvs,k,e,ey,l,eH⟩|⟨kvs,k,b,e,ey,eb,l,eH⟩
 ·subst ey eH;obtain⟨z,hd,vs,rel,dd⟩:=Nf I.bX e;have hz:vs.length≤sizeLine:=by rw[←rel.length];exact z
  have hl:(putK kvs k v).length≤sizeLine:=by have:=eY kvs k v;omega
  refine wpAny_setItem_pairs (hsz:=hz) (vp ry) dd fun h' FV hs=>h _ ?_
  have he:∃q,h'.get? a=some q:=let ⟨q,_,_,hq,_⟩:=FV;⟨q,hq⟩
  exact v_ I (by rw[e];exact True.intro) hs he (JZ hl hd (rel.put k rv) FV)
 ·subst ey eH;cases(show u=Value.ref b from ry);obtain⟨z,hd,xs,rel,dd⟩:=Im I.bX e;have hz:xs.length≤sizeLine:=by rw[←Paired.length rel];exact z
  have hl:(putK kvs k v).length≤sizeLine:=by have:=eY kvs k v;omega
  refine wpAny_setItem_heap (hsz:=hz) (tupleKind_room_in1 hu) (m9 I.bX eb) dd fun h' FV hs=>h _ ?_
  obtain⟨q,es,ep,hq,h2,h3,h4,_,h5⟩:=FV;refine v_ I (by rw[e];exact True.intro) hs ⟨q,hq⟩ ⟨hl,hd,_,(rel.put k eb rv).keeps fun c ys ec=>?_,q,es,ep,hq,h2,h3,h4,h5⟩;rw[ao (iV ec e (fun z=>nomatch z))];exact ec
end
section
variable{X:Cx}{pins:List (Addr×Obj)}{σ:St}{H:Hp}{s:Shared}{a:Addr}{kvs:List (Key×V)}{k:Key}{u:Value}{A:Around}{E:Value→Shared→Prop}
end
def Ng(i:Expr):Prop:=∀ov iv,subscripted i false ov iv=operate [ov,iv] (getItem ov iv)
theorem Gr{prog:Program}{w:World}{A:Around}{E:Value→Shared→Prop}{s:Shared}{env:Env}{value slice:Expr}{pos:Pos}{T id:String}{Q:Value→Shared→Prop}
  (hl:typeLookup (.type T) "__getitem__"=pure (some (.builtin id))) (hs:Ng slice)
  (h:wpAny (model prog w) A (eval value env) (fun o cj=>wpAny (model prog w) A (eval slice env) (fun i p9=>p9.TypeIs o T∧wpAny (model prog w) A (getItem o i) Q E p9) E cj) E s):
  wpAny (model prog w) A (eval (.Subscript value slice pos) env) Q E s:=by
 refine Subscript_ (wpAny_mono h (fun o cj Ci=>wpAny_mono Ci (fun i p9 DT=>?_) fun _ _ x=>x) fun _ _ x=>x);obtain⟨hT,DT⟩:=DT;unfold subscriptTail;refine wpAny_bind ?_;rw[getitemInPython_of_ne hT.not_modules];refine wpAny_bind (wpAny_specialOf hT hl ?_);have fin:wpAny (model prog w) A (subscripted slice false o i) (fun r Cj=>wpAny (model prog w) A (letTemporaryGo value o r>>=fun _=>pure r) Q E Cj) E p9:=by
  rw[hs o i];exact wpAny_operating (wpAny_mono DT (fun r Cj Gs=>wpAny_bind (wpAny_letTemporaryGo (wpAny_pure Gs))) fun _ _ x=>x)
 first
  |exact wpAny_pure (wpAny_bind fin)
  |exact wpAny_bind (wpAny_pure (wpAny_bind fin))
  |exact wpAny_bind fin
theorem yo{X:Cx}{pins:List (Addr×Obj)}{σ:St}{H:Hp}{s:Shared}{a:Addr}{y:V}{o:Option V}(I:Inv X pins σ H s)(g:jV H a y o):s.TypeIs (.ref a) "dict":=by
 rcases g with⟨kvs,k,e,_,_⟩|⟨kvs,k,b,e,_,_,_⟩
 ·obtain⟨_,_,vs,_,dd⟩:=sL I.bX e;exact dd.typeIs
 ·obtain⟨_,_,xs,_,dd⟩:=sM I.bX e;exact dd.typeIs
def Nh(td ty:TE):TE:=fun σ H Q=>td σ H fun x H1=>ty σ H1 fun y H2=>∃a v,x= .ref a∧jV H2 a y (some v)∧Q v H2
def Q0(ty td:TE):TE:=fun σ H Q=>ty σ H fun y H1=>td σ H1 fun x H2=>∃a o,x= .ref a∧jV H2 a y o∧Q (.bl o.isSome) H2
def Gu(ty td:TE):TE:=fun σ H Q=>ty σ H fun y H1=>td σ H1 fun x H2=>∃a o,x= .ref a∧jV H2 a y o∧Q (.bl (!o.isSome)) H2
def Ni(td ty tv:TE):TS:=fun D σ H=>tv σ H fun v H1=>td σ H1 fun x H2=>ty σ H2 fun y H3=>∃a H4,x= .ref a∧Gp H3 a y v H4∧D.nx σ H4
section
variable{X:Cx}{o i e value:Expr}{pos pos' QW:Pos}{td ty tv:TE}
theorem iE(hu:X.A.units+1<cLine)(ho:PE X o td)(hi:PE X i ty)(hs:Ng i):PE X (.Subscript o i pos) (Nh td ty):=by
 intro pins s σ H Q I h;refine Gr PySem.F.slot_dict_getitem.lookup hs (cK (ho pins s σ H _ I h) fun u s1 ⟨x,H1,I1,rx,q1⟩=>cK (hi pins s1 σ H1 _ I1 q1) fun iv s2 ⟨y,H2,I2,ry,a,v,ex,g,q2⟩=>?_);subst ex;obtain rfl:u=Value.ref a:=rx;exact⟨yo I2 g,Ce hu I2 g ry fun w' s3 I3 fY=>⟨v,H2,I3,fY,q2⟩⟩
theorem qf(hu:X.A.units+1<cLine)(hi:PE X i ty)(ho:PE X o td):PC X .In i o (Q0 ty td):=by
 intro pins s σ H Q I h;refine cK (hi pins s σ H _ I h) fun iv s1 ⟨y,H1,I1,ry,q1⟩=>cK (ho pins s1 σ H1 _ I1 q1) fun u s2 ⟨x,H2,I2,rx,a,ov,ex,g,q2⟩=>?_
 subst ex;obtain rfl:u=Value.ref a:=rx;exact QZ hu I2 g ry fun s3 I3=>⟨.bl ov.isSome,H2,I3,rfl,q2⟩
theorem vw(hu:X.A.units+1<cLine)(hi:PE X i ty)(ho:PE X o td):PC X .NotIn i o (Gu ty td):=by
 intro pins s σ H Q I h;refine cK (hi pins s σ H _ I h) fun iv s1 ⟨y,H1,I1,ry,q1⟩=>cK (ho pins s1 σ H1 _ I1 q1) fun u s2 ⟨x,H2,I2,rx,a,ov,ex,g,q2⟩=>?_
 subst ex;obtain rfl:u=Value.ref a:=rx;exact Gq hu I2 g ry fun s3 I3=>⟨.bl (!ov.isSome),H2,I3,rfl,q2⟩
theorem kn(hu:X.A.units+1<cLine)(ho:PE X o td)(hi:PE X i ty)(hv:PE X value tv)(hs:swapsWith value (some (.Subscript o i pos')) pos.line X.env=pure false):
  PS X (.Assign [.Subscript o i pos'] value pos) (Ni td ty tv):=by
 intro pins s σ H D I h;refine wpAny_Assign_Subscript (cK (hv pins s σ H _ I h) fun r s1 ⟨v,H1,I1,rv,q1⟩=>cK (ho pins s1 σ H1 _ I1 q1) fun u s2 ⟨x,H2,I2,rx,q2⟩=>cK (hi pins s2 σ H2 _ I2 q2) fun iv s3 ⟨y,H3,I3,ry,a,H4,ex,g,q3⟩=>?_) hs;subst ex;obtain rfl:u=Value.ref a:=rx;exact Cg hu I3 g ry rv fun s4 I4=>⟨σ,H4,I4,q3⟩
end
theorem DU{P:Program}{w:World}{H:Hp}(h:Heap)(hb:sysModules<h.objs.size):cS P w H (h.push {cls:= .type "dict",data:= .dict #[]}) h.objs.size (.dT []):=
 ⟨Nat.zero_le _,beq_eq_false_iff_ne.mpr (Ne.symm (Nat.ne_of_lt hb)),[], .nil,_,#[],0,Heap.get?_push_size _ rfl,⟨rfl,rfl,rfl⟩,rfl,rfl,List.nodup_nil⟩
def J0:TE:=fun _ H Q=>∀p,H p=none→Q (.ref p) (upd H p (.dT []))
section
variable{X:Cx}{pos:Pos}
theorem jW:PE X (.Dict [] [] pos) J0:=fun pins s σ H Q I h=>
 wpAny_Dict_empty ⟨.ref s.heap.objs.size,_,I.laid (a:=s.heap.objs.size) (o:= .dT []) (t':=s.toks) (fun _ _ q=>Zi q) (Nat.le_refl _) (DU s.heap I.big),rfl,h _ (I.bX.fresh (Nat.le_refl _))⟩
end
structure M1(X:Cx)(o:Expr)(m:Str)(apos:Pos)(e:Expr)(eF:Pos):Prop where
 base:attributeBase o m X.env (eval o X.env)=eval o X.env
 vx:((backTo eF (starEach [e] X.env)).all (fun x=>!x.1)&&(backToKw eF (keywordEach [] X.env)).all (fun x=>x.1.isSome)
  &&decide (([e]:List Expr).length+([]:List Keyword).length+(if ([]:List Keyword).isEmpty then 0 else 1)<30))=true
 line:(apos.endLine==eF.line)=true
 trees:backTo eF (starEach [e] X.env)=[(false,eval e X.env)]
def Q2(H:Hp)(a:Addr):Prop:=(∃kvs,Rd H a (.dK kvs))∨∃kvs,Rd H a (.dT kvs)
theorem DV{X:Cx}{pins:List (Addr×Obj)}{σ:St}{H:Hp}{s:Shared}{a:Addr}(I:Inv X pins σ H s)(d:Q2 H a):
  s.TypeIs (.ref a) "dict"∧(∀b,Value.ref a= .ref b→∃ob,s.heap.get? b=some ob∧ob.dict=none)∧(a==sysModules)=false:=by
 rcases d with⟨kvs,e⟩|⟨kvs,e⟩
 ·obtain⟨_,hd,vs,_,dd⟩:=sL I.bX e;refine⟨dd.typeIs,fun b q=>?_,hd⟩;cases q;obtain⟨ob,_,_,h1,h2,_⟩:=dd;exact⟨ob,h1,h2.2.1⟩
 ·obtain⟨_,hd,xs,_,dd⟩:=sM I.bX e;refine⟨dd.typeIs,fun b q=>?_,hd⟩;cases q;obtain⟨ob,_,_,h1,h2,_⟩:=dd;exact⟨ob,h1,h2.2.1⟩
section
variable{X:Cx}{pins:List (Addr×Obj)}{σ:St}{H:Hp}{s:Shared}{a:Addr}{y d:V}{u r:Value}{o:Option V}{A:Around}{E:Value→Shared→Prop}
theorem J1{Q:Value→Shared→Prop}(hu:A.units+1<cLine)(I:Inv X pins σ H s)(g:jV H a y o)(ry:RelV y u)(h:∀w' s',Inv X pins σ H s'→RelV (o.getD .cO) w'→Q w' s'):
  wpAny (model X.prog X.w) A (call (.builtin "dict.get") [.ref a,u]) Q E s:=by
 rcases g with⟨kvs,k,e,ey,l⟩|⟨kvs,k,b,e,ey,eb,l⟩
 ·subst ey;obtain⟨z,hd,vs,rel,dd⟩:=sL I.bX e;refine call_meetsIn PySem.F.slot_dict_get dd.typeIs PySem.F.entry_dict_get (PySem.F.args_dict_get_2 _ _) (meets_dict_get (cZ X.prog X.w) a (vp ry) hd) ⟨_,dd.mapOf,h _ _ (I.tok _) ?_⟩;rw[l];exact(rel.val k).getD rfl
 ·subst ey;cases(show u=Value.ref b from ry);obtain⟨z,hd,xs,rel,dd⟩:=sM I.bX e;refine call_meetsIn PySem.F.slot_dict_get dd.typeIs PySem.F.entry_dict_get (PySem.F.args_dict_get_2 _ _) (meetsH_dict_get (tupleKind (cZ X.prog X.w)) a b hd) ⟨tupleKind_room_in1 hu,k,xs,m9 I.bX eb,dd,h _ _ (I.tok _) ?_⟩;rw[l];exact(rel.val k).getD rfl
end
def J2(td ty:TE):TE:=fun σ H Q=>td σ H fun x H1=>∃a,x= .ref a∧Q2 H1 a∧ty σ H1 fun y H2=>∃o,jV H2 a y o∧Q (o.getD .cO) H2
section
variable{X:Cx}{o e f:Expr}{apos eF:Pos}{td ty tx:TE}
theorem DW(hu:X.A.units+1<cLine)(ho:PE X o td)(he:PE X e ty)(m:M1 X o "get" apos e eF):PE X (.Call (.Attribute o "get" apos) [e] [] eF) (J2 td ty):=by
 intro pins s σ H Q I h;refine wpAny_Call_method m.base m.vx m.line PySem.F.plainAttrs_dict PySem.F.slot_dict_get PySem.F.type_dict_get (cK (ho pins s σ H _ I h) fun u s1 ⟨x,H1,I1,rx,a,ex,d,q1⟩=>?_);subst ex;obtain rfl:u=Value.ref a:=rx;obtain⟨t1,t2,_⟩:=DV I1 d;refine⟨t1,t2,?_⟩;rw[m.trees];refine Calls.callWith_builtin rfl (Calls.evalArgs_plain (Calls.spliced_cons (cK (he pins s1 σ H1 _ I1 q1) fun iv s2 ⟨y,H2,I2,ry,ov,g,q2⟩=>Calls.spliced_nil ?_)));exact J1 hu I2 g ry fun w' s3 I3 fY=>⟨_,H2,I3,fY,q2⟩
end
section
variable{X:Cx}{pins:List (Addr×Obj)}{σ:St}{H:Hp}{s:Shared}{a:Addr}{kvs:List (Key×V)}{A:Around}{E:Value→Shared→Prop}
end
section
variable{X:Cx}{pins:List (Addr×Obj)}{σ:St}{H:Hp}{s:Shared}{a:Addr}{y:V}{u:Value}{A:Around}{E:Value→Shared→Prop}
end
end L2
namespace HT
open PySem PyProof.Rows
section
open PySem.SeqAt
open PySem.AutoSeq1 (wpAny_loadPart')
open PySem.MeetsSeq PySem.MeetsSeq2 PySem.MeetsSeq3
end
section
variable{prog:Program}{w:World}{A:Around}{E:Value→Shared→Prop}{s:Shared}
def jX(n d:Nat):Option Int→Nat
 |none=>d
 |some v=>if v<0 then(v+(n:Int)).toNat else min v.toNat n
theorem DX(n d:Nat):jX n d none=d:=rfl
theorem DY(n d:Nat)(hd:d≤n)(o:Option Int):jX n d o≤n:=by
 cases o with
 |none=>exact hd
 |some v=>
  show(if v<0 then(v+(n:Int)).toNat else min v.toNat n)≤n;by_cases hv:v<0
  ·rw[Zk hv];omega
  ·rw[Zh hv];exact Nat.min_le_right _ _
end
end HT
namespace L2
open PySem PySem.Spec PyProof.Rows
abbrev TO:=St→Hp→(Option Int→Hp→Prop)→Prop
def PO(X:Cx)(e:Option Expr)(t:TO):Prop:=
 ∀(pins:List (Addr×Obj))(s:Shared)(σ:St)(H:Hp)(Q:Option Int→Hp→Prop),Inv X pins σ H s→t σ H Q→
  wpAny (model X.prog X.w) X.A (evalPart e X.env) (fun u s'=>∃o H',Inv X pins σ H' s'∧IsPart u o∧Q o H') X.xe s
def Gv:TO:=fun _ H Q=>Q none H
def Nj(t:TE):TO:=fun σ H Q=>t σ H fun x H1=>∃i,x= .int i∧Q (some i) H1
section
variable{X:Cx}{e:Expr}{te:TE}{lo hi:Option Expr}{tl th:TO}{pos p2:Pos}
theorem sf:PO X none Gv:=by
 intro pins s σ H Q I h;rw[evalPart_none];exact wpAny_pure ⟨none,H,I, .none,h⟩
theorem l6(h:PE X e te):PO X (some e) (Nj te):=by
 intro pins s σ H Q I hw;rw[evalPart_some];refine cK (h pins s σ H _ I hw) fun u s1 ⟨x,H1,I1,r1,q1⟩=>?_
 obtain⟨i,rfl,q⟩:=q1;obtain⟨t,rfl⟩:=r1;exact⟨some i,H1,I1, .int i t,q⟩
def Pe(X:Cx)(r:V→Option Int→Option Int→Hp→VK→Prop):Prop:=
 ∀(pins:List (Addr×Obj))(s:Shared)(σ:St)(H:Hp)(x:V)(v vl vu:Value)(lo hi:Option Int)(sl:Addr)(Q:VK),Inv X pins σ H s→RelV x v→s.heap.IsSliceOf sl vl vu .none→IsPart vl lo→IsPart vu hi→r x lo hi H Q→
  ∃T id,typeLookup (.type T) "__getitem__"=pure (some (.builtin id))∧s.TypeIs v T∧wpAny (model X.prog X.w) X.A (getItem v (.ref sl)) (EP X pins σ Q) X.xe s
def VZ(r:V→Option Int→Option Int→Hp→VK→Prop)(te:TE)(tl th:TO):TE:=fun σ H Q=>te σ H fun x H1=>tl σ H1 fun l H2=>th σ H2 fun u H3=>r x l u H3 Q
theorem lr{r:V→Option Int→Option Int→Hp→VK→Prop}(hr:Pe X r)(he:PE X e te)(hl:PO X lo tl)(hu:PO X hi th):PE X (.Subscript e (.Slice lo hi none p2) pos) (VZ r te tl th):=by
 intro pins s σ H Q I h;refine Subscript_ (cK (he pins s σ H _ I h) fun v s1 ⟨x,H1,I1,r1,q1⟩=>?_);refine wpAny_Slice (cK (hl pins s1 σ H1 _ I1 q1) fun vl s2 ⟨l,H2,I2,pl,q2⟩=>cK (hu pins s2 σ H2 _ I2 q2) fun vu s3 ⟨u,H3,I3,pu,q3⟩=>?_);rw[evalPart_none];refine wpAny_pure ?_;have I4:Inv X pins σ H3 {s3 with heap:=s3.heap.push {cls:= .type "slice",data:= .fields #[vl,vu, .none]}}:=I3.kept (t':=s3.toks) fun b ob q=>Zi q
 obtain⟨T,id,hT,ht,hg⟩:=hr pins {s3 with heap:=s3.heap.push {cls:= .type "slice",data:= .fields #[vl,vu, .none]}} σ H3 x v vl vu l u s3.heap.objs.size Q I4 r1 (Heap.IsSliceOf.new ..) pl pu q3;show wpAny (model X.prog X.w) X.A (subscriptTail e (.Slice lo hi none p2) v (.ref s3.heap.objs.size)) (EP X pins σ Q) X.xe {s3 with heap:=s3.heap.push {cls:= .type "slice",data:= .fields #[vl,vu, .none]}};exact tail_any (ops:=[.ref s3.heap.objs.size,v]) ht hT hg (by with_unfolding_all rfl)
def yp(xs:List V)(lo hi:Option Int):List V:=(xs.drop (HT.jX xs.length 0 lo)).take (HT.jX xs.length xs.length hi-HT.jX xs.length 0 lo)
theorem yq(xs:List V)(lo hi:Option Int):(yp xs lo hi).length≤xs.length:=by
 unfold yp;rw[List.length_take,List.length_drop];omega
end
def DZ(n:Nat)(i:Int):Option Nat:=if 0≤i then(if i<n then some i.toNat else none)else if-(n:Int)≤i then some (i+n).toNat else none
def rg{α:Type}(xs:List α)(i:Int):Option α:=(DZ xs.length i).bind fun j=>xs[j]?
theorem Bb{n:Nat}{i:Int}{j:Nat}(h:DZ n i=some j):seqIndex? i n=some j∧j<n∧-(n:Int)≤i∧i<n:=by
 unfold DZ at h;by_cases h0:0≤i
 ·rw[Zk h0]at h;by_cases h1:i<n
  ·rw[Zk h1]at h;have e:i.toNat=j:=Zp h;exact⟨by rw[seqIndex_of h0 h1,e],Zx,Zx,h1⟩
  ·rw[Zh h1]at h;cases h
 ·rw[Zh h0]at h;by_cases h1:-(n:Int)≤i
  ·rw[Zk h1]at h;have e:(i+n).toNat=j:=Zp h;exact⟨by rw[seqIndex_neg Zt h1,e],Zx,h1,Zx⟩
  ·rw[Zh h1]at h;cases h
theorem wb{α:Type}{xs:List α}{i:Int}{v:α}(h:rg xs i=some v):∃j,seqIndex? i xs.length=some j∧xs[j]?=some v∧j<xs.length∧-(xs.length:Int)≤i∧i<xs.length:=by
 unfold rg at h;cases e:DZ xs.length i with
 |none=>rw[e]at h;cases h
 |some j=>
  rw[e]at h;obtain⟨h1,h2,h3,h4⟩:=Bb e;exact⟨j,h1,h,h2,h3,h4⟩
theorem av{α:Type}{xs:List α}{j:Nat}{v:α}(h:xs[j]?=some v):rg xs (j:Int)=some v:=by
 have hj:j<xs.length:=(Y7 h).1;have e:DZ xs.length (j:Int)=some j:=by
  unfold DZ;rw[if_pos Zt,if_pos Zt];simp
 unfold rg;rw[e];exact h
theorem yr{α:Type}(xs:List α)(v:α):rg (xs++[v]) (-1)=some v:=by
 have hl:(xs++[v]).length=xs.length+1:=ZA;have e:DZ (xs++[v]).length (-1)=some xs.length:=by
  unfold DZ;rw[hl,if_neg (Zy),if_pos Zt]
  congr 1
  omega
 unfold rg;rw[e];show(xs++[v])[xs.length]?=some v;simp
def Gx(b:Expr):Prop:=∀o i,subscripted b false o i=operate [o,i] (getItem o i)
def LX(X:Cx)(r:R2):Prop:=
 ∀(value slice:Expr)(pins:List (Addr×Obj))(s:Shared)(σ:St)(H:Hp)(x y:V)(v u:Value)(Q:VK),Inv X pins σ H s→RelV x v→RelV y u→r x y H Q→
  subscripted slice false v u=operate [v,u] (getItem v u)→wpAny (model X.prog X.w) X.A (subscriptTail value slice v u) (EP X pins σ Q) X.xe s
def Pf(X:Cx)(id:String)(r:V→List V→Hp→VK→Prop):Prop:=
 ∀(pins:List (Addr×Obj))(s:Shared)(σ:St)(H:Hp)(x:V)(xs:List V)(v:Value)(us:List Value)(Q:VK),Inv X pins σ H s→RelV x v→Vals xs us→r x xs H Q→
  wpAny (model X.prog X.w) X.A (call (.builtin id) (v::us)) (EP X pins σ Q) X.xe s
section
variable{X:Cx}{a b:Expr}{ta tb:TE}{pos:Pos}
theorem aB{r:R2}(hr:LX X r)(ha:PE X a ta)(hb:PE X b tb)(hs:Gx b):PE X (.Subscript a b pos) (Pd r ta tb):=by
 intro pins s σ H Q I h;exact Subscript_ (JQ ha hb I h fun v u s2 x y H2 I2 rx ry q=>hr a b pins s2 σ H2 x y v u Q I2 rx ry q (hs _ _))
inductive J3(K:PySem.W.Frag)(x:V)(y:V)(H:Hp)(Q:VK):Prop
 |mk (p:_) (xs:_) (i:_) (v:_) (_:x= .ref p) (_:y= .int i) (_:iA K H p xs) (_:rg xs i=some v) (_:Q v H):J3 K x y H Q
inductive J4(K:PySem.W.Frag)(x:V)(y:V)(H:Hp)(Q:VK):Prop
 |mk (p:_) (xs:_) (i:_) (v:_) (_:x= .ref p) (_:y= .int i) (_:DG K H p xs) (_:rg xs i=some v) (_:Q v H):J4 K x y H Q
inductive Nk(x:V)(y:V)(H:Hp)(Q:VK):Prop
 |mk (z:_) (i:_) (c:_) (_:x= .str z) (_:y= .int i) (_:z.length≤sizeLine) (_:rg z.cps.toList i=some c) (_:Q (.str ⟨#[c]⟩) H):Nk x y H Q
theorem Gy:LX X (J3 X.K):=by
 intro value slice pins s σ H x y v u Q I rx ry h hs;obtain⟨p,xs,i,z,rfl,rfl,hq,he,q⟩:=h;cases rx;obtain⟨t,rfl⟩:=ry;obtain⟨its,r,pl,hz⟩:=I.list hq;obtain⟨j,h1,h2,h3,h4,h5⟩:=wb he;obtain⟨w,ew,fY⟩:=r.get h2;have hl:=r.length;have hn:=p_;have fin:EP X pins σ Q w s:=⟨z,H,I,fY,q⟩
 by_cases h0:0≤i
 ·have hj:i.toNat=j:=by
   rw[seqIndex_of h0 h5]at h1;exact Zp h1
  exact item_listR pl.isList h0 Zt (by rw[hj];simpa using ew) fin hs
 ·have hj:(i+(its.toArray.size:Int)).toNat=j:=by
   rw[seqIndex_neg Zt h4]at h1;rw[List.size_toArray,←hl];exact Zp h1
  exact subscriptTail_builtinR (x:=w) pl.isList.typeIs slot_list_getitem.lookup
   (wpAny_getItem_list_neg (Q:=fun r s'=>r=w∧EP X pins σ Q r s') pl.isList Zt (by rw[List.size_toArray]<;>omega) (Zx) (by rw[hj];simpa using ew) ⟨rfl,fin⟩) hs
theorem J5:LX X (J4 X.K):=by
 intro value slice pins s σ H x y v u Q I rx ry h hs;obtain⟨p,xs,i,z,rfl,rfl,hq,he,q⟩:=h;cases rx;obtain⟨t,rfl⟩:=ry;obtain⟨its,r,pl,hz⟩:=I.tuple hq;obtain⟨j,h1,h2,h3,h4,h5⟩:=wb he;obtain⟨w,ew,fY⟩:=r.get h2;have hl:=r.length;have hn:=p_;have fin:EP X pins σ Q w s:=⟨z,H,I,fY,q⟩
 exact subscriptTail_builtinR (x:=w) pl.typeIs slot_tuple_getitem.lookup
  (getItem_tuple (j:=j) (Q:=fun r s'=>r=w∧EP X pins σ Q r s') pl Zt (Zx) (by rw[List.size_toArray,←hl];exact h1) (by simpa using ew) ⟨rfl,fin⟩) hs
theorem D0:LX X Nk:=by
 intro value slice pins s σ H x y v u Q I rx ry h hs;obtain⟨z,i,c,rfl,rfl,hz,he,q⟩:=h;obtain⟨t,rfl⟩:=rx;obtain⟨t',rfl⟩:=ry;obtain⟨j,h1,h2,h3,h4,h5⟩:=wb he;have hl:z.cps.toList.length=z.length:=by simp[Str.length]
 rw[hl]at h1 h4 h5;have hn:=p_;exact tail_any (typeIs_str s z t) slot_str_getitem.lookup (getItem_str (c:=c) (by
  have e1:decide (i< -(2^63:Int))=false:=decide_eq_false Zt;have e2:decide (i≥2^63)=false:=decide_eq_false Zt;rw[e1,e2,Bool.or_false]) (by rw[h1];simpa using h2) ⟨.str ⟨#[c]⟩,H,I.tok _,⟨_,rfl⟩,q⟩) hs
theorem zQ(its:List Value)(n j:Nat)(u:Value):Obj.mapSeq (·.setIfInBounds j u) {cls:= .type "list",data:= .seq its.toArray n}={cls:= .type "list",data:= .seq (its.set j u).toArray n}:=by
 simp[Obj.mapSeq]
theorem Inv.lst{pins:List (Addr×Obj)}{σ:St}{H:Hp}{s:Shared}{p:Addr}{xs:List V}(I:Inv X pins σ H s)(h:H p=some (.lst xs)):
  ∃(its:List Value)(n:Nat),Vals xs its∧s.heap.get? p=some {cls:= .type "list",data:= .seq its.toArray n}∧xs.length≤sizeLine:=by
 obtain⟨z,its,n,r,e⟩:=I.bX p _ h;exact⟨its,n,r,e,z⟩
theorem Inv.J6{pins:List (Addr×Obj)}{σ:St}{H:Hp}{s:Shared}{p:Addr}{xs ys:List V}{its its':List Value}{n n':Nat}{f:Obj→Obj}(I:Inv X pins σ H s)(h:H p=some (.lst xs))
  (ho:s.heap.get? p=some {cls:= .type "list",data:= .seq its.toArray n}) (hf:f {cls:= .type "list",data:= .seq its.toArray n}={cls:= .type "list",data:= .seq its'.toArray n'}) (r:Vals ys its') (hz:ys.length≤sizeLine) (t:Nat):
  Inv X pins σ (upd H p (.lst ys)) {s with heap:=s.heap.update p f,toks:=t}:=by
 have e:(s.heap.update p f).get? p=some {cls:= .type "list",data:= .seq its'.toArray n'}:=by
  rw[Heap.get?_update_self f ho (by rw[hf]<;>rfl),hf]
 refine I.write (x:=p) (e:=p) (by rw[h];trivial) (.inl rfl) (fun b u hb q=>(Heap.get?_update_other _ _ (Ne.symm hb)).trans q) ⟨_,e⟩ ?_;exact⟨hz,its',n',r,e⟩
inductive Io(o:V)(i:V)(v:V)(H:Hp)(Q:(Hp→Prop)):Prop
 |mk (p:_) (xs:_) (k:_) (j:_) (_:o= .ref p) (_:i= .int k) (_:H p=some (.lst xs)) (_:DZ xs.length k=some j) (_:Q (upd H p (.lst (xs.set j v)))):Io o i v H Q
theorem set_list:MZ X Io:=by
 intro pins s σ H o i v ov iv u Q I ro ri rv h;obtain⟨p,xs,k,j,rfl,rfl,hp,hj,q⟩:=h;cases ro;obtain⟨t,rfl⟩:=ri;obtain⟨its,n,r,ho,hz⟩:=I.lst hp;obtain⟨h1,h2,h3,h4⟩:=Bb hj;have hl:=r.length;have hn:=p_;have I':Inv X pins σ (upd H p (.lst (xs.set j v))) {s with heap:=s.heap.update p (Obj.mapSeq (·.setIfInBounds j u))}:=
  I.J6 hp ho (zQ its n j u) (r.set rv j) (by rw[List.length_set];exact hz) s.toks
 by_cases h0:0≤k
 ·have hk:k.toNat=j:=by
   rw[seqIndex_of h0 h4]at h1;exact Zp h1
  exact PySem.W.ki_setAt ho h0 Zt (by rw[List.size_toArray,←hl];exact h4) (by rw[hk];exact⟨_,I',q⟩)
 ·have hk:(k+(its.toArray.size:Int)).toNat=j:=by
   rw[seqIndex_neg Zt h3]at h1;rw[List.size_toArray,←hl];exact Zp h1
  exact PySem.W.ki_setBack ho Zt (by rw[List.size_toArray,←hl];exact h3) (Zx) (by rw[hk];exact⟨_,I',q⟩)
theorem wc(lo hi:Option Int)(n:Nat):(sliceBounds lo hi none n).1=((HT.jX n 0 lo:Nat):Int)∧(sliceBounds lo hi none n).2.1=((HT.jX n n hi:Nat):Int)∧(sliceBounds lo hi none n).2.2=1:=by
 refine⟨?_,?_,rfl⟩
 ·cases lo with
  |none=>simp[sliceBounds,HT.jX]
  |some i=>
   simp only[sliceBounds,HT.jX,Option.getD_none,show(1:Int)>0 by decide,if_true];by_cases h:i<0
   ·simp only[h,if_true]<;>lia
   ·simp only[h,if_false]<;>lia
 ·cases hi with
  |none=>simp[sliceBounds,HT.jX]
  |some i=>
   simp only[sliceBounds,HT.jX,Option.getD_none,show(1:Int)>0 by decide,if_true];by_cases h:i<0
   ·simp only[h,if_true]<;>lia
   ·simp only[h,if_false]<;>lia
theorem uz(its:List Value)(lo hi:Option Int):slicePick its.toArray lo hi none=((its.drop (HT.jX its.length 0 lo)).take (HT.jX its.length its.length hi-HT.jX its.length 0 lo)).toArray:=by
 obtain⟨h1,h2,h3⟩:=wc lo hi its.toArray.size;unfold slicePick;rw[h1,h2,h3];simp only[sliceRange_one,pick_run,List.size_toArray]<;>rfl
inductive J7(K:PySem.W.Frag)(x:V)(lo:Option Int)(hi:Option Int)(H:Hp)(Q:VK):Prop
 |mk (a:_) (xs:_) (_:x= .ref a) (_:iA K H a xs) (_:∀p,H p=none→Q (.ref p) (upd H p (.lst (yp xs lo hi)))):J7 K x lo hi H Q
theorem Gz:Pe X (J7 X.K):=by
 intro pins s σ H x v vl vu lo hi sl Q I rx hs pl pu h;obtain⟨a,xs,rfl,hx,q⟩:=h;cases rx;obtain⟨its,r,ht,hz⟩:=I.list hx;have hlen:=r.length;refine⟨"list",_,slot_list_getitem.lookup,ht.isList.typeIs,?_⟩;refine wpAny_getItem_list_slice ht.isList hs pl pu .none (ZA) ?_ (by rw[List.size_toArray]<;>omega);rw[uz,←hlen];refine⟨.ref s.heap.objs.size,_,I.laid (t':=s.toks) (o:= .lst (yp xs lo hi)) (fun b ob q=>Zi q) (Nat.le_refl _) ?_,rfl,q _ (I.bX.fresh (Nat.le_refl _))⟩;exact⟨Nat.le_trans (yq xs lo hi) hz,_,0,(r.drop (HT.jX xs.length 0 lo)).take (HT.jX xs.length xs.length hi-HT.jX xs.length 0 lo),Heap.get?_push_size _ rfl⟩
def rh:V→Bool
 | .cO=>true
 | .bl _=>true
 | .int _=>true
 | .str _=>true
 | _=>false
def we:V→V→Bool
 | .cO, .cO=>true
 | .bl a, .bl b=>a==b
 | .bl a, .int b=>(if a then 1 else 0)==b
 | .int a, .bl b=>a==(if b then 1 else 0)
 | .int a, .int b=>a==b
 | .str a, .str b=>a==b
 | _,_=>false
theorem wg{A:Around}{s:Shared}{y x:V}{u v:Value}(ry:RelV y u)(rx:RelV x v)(fy:rh y=true)(fx:rh x=true):SeqAt.EqAt A s u v (we y x):=by
 cases y with
 |cO=>
  cases ry;cases x with
  |cO=>cases rx;exact SeqAt.EqAt.same _
  |bl b=>cases rx;exact SeqAt.EqAt.none_bool b
  |int b=>obtain⟨t,rfl⟩:=rx;exact SeqAt.EqAt.none_int b t
  |str b=>obtain⟨t,rfl⟩:=rx;exact SeqAt.EqAt.none_str b t
  | _=>exact absurd (show false=true from fx) Bool.false_ne_true
 |bl a=>
  cases ry;cases x with
  |cO=>cases rx;exact SeqAt.EqAt.bool_none a
  |bl b=>cases rx;exact SeqAt.EqAt.bool_bool a b
  |int b=>obtain⟨t,rfl⟩:=rx;exact SeqAt.EqAt.bool_int a b t
  |str b=>obtain⟨t,rfl⟩:=rx;exact SeqAt.EqAt.bool_str a b t
  | _=>exact absurd (show false=true from fx) Bool.false_ne_true
 |int a=>
  obtain⟨t',rfl⟩:=ry;cases x with
  |cO=>cases rx;exact SeqAt.EqAt.int_none a t'
  |bl b=>cases rx;exact SeqAt.EqAt.int_bool a t' b
  |int b=>obtain⟨t,rfl⟩:=rx;exact SeqAt.EqAt.int_int a t' b t
  |str b=>obtain⟨t,rfl⟩:=rx;exact SeqAt.EqAt.int_str a t' b t
  | _=>exact absurd (show false=true from fx) Bool.false_ne_true
 |str a=>
  obtain⟨t',rfl⟩:=ry;cases x with
  |cO=>cases rx;exact SeqAt.EqAt.str_none a t'
  |bl b=>cases rx;exact SeqAt.EqAt.str_bool a t' b
  |int b=>obtain⟨t,rfl⟩:=rx;exact SeqAt.EqAt.str_int a t' b t
  |str b=>obtain⟨t,rfl⟩:=rx;exact SeqAt.EqAt.str_str a t' b t
  | _=>exact absurd (show false=true from fx) Bool.false_ne_true
 | _=>exact absurd (show false=true from fy) Bool.false_ne_true
theorem wj:iW X (.builtin "len") (fun xs H Q=>∃p ys,xs=[.ref p]∧(iA X.K H p ys∨DG X.K H p ys)∧Q (.int ys.length) H):=by
 intro pins s σ H xs us Q I r h;obtain⟨p,ys,rfl,hq,q⟩:=h;obtain⟨u,rfl,rx⟩:=vals1 r;cases rx;have hn:=p_;rcases hq with hq|hq
 ·obtain⟨its,r',pl,hz⟩:=I.list hq;have hlen:=r'.length;exact Calls.call_len_list pl.isList (by simp only[List.size_toArray]<;>omega) ⟨.int ys.length,H,I.tok _,⟨s.toks+1,by rw[List.size_toArray,hlen]⟩,q⟩
 ·obtain⟨its,r',pl,hz⟩:=I.tuple hq;have hlen:=r'.length;exact len_tuple pl (by simp only[List.size_toArray]<;>omega) ⟨.int ys.length,H,I.tok _,⟨s.toks+1,by rw[List.size_toArray,hlen]⟩,q⟩
theorem om:iW X (.builtin "len") (fun xs H Q=>∃z,xs=[.str z]∧z.length≤sizeLine∧Q (.int z.length) H):=by
 intro pins s σ H xs us Q I r h;obtain⟨z,rfl,hz,q⟩:=h;obtain⟨u,rfl,t,rfl⟩:=vals1 r;have hn:=p_;exact len_str Zt ⟨.int z.length,H,I.tok _,⟨_,rfl⟩,q⟩
theorem wk:iW X (.type "list") (fun xs H Q=>∃p ys,xs=[.ref p]∧(iA X.K H p ys∨DG X.K H p ys)∧∀l,H l=none→Q (.ref l) (upd H l (.lst ys))):=by
 intro pins s σ H xs us Q I r h;obtain⟨p,ys,rfl,hq,q⟩:=h;obtain⟨u,rfl,rx⟩:=vals1 r;cases rx;have fin:∀(its:List Value),Vals ys its→ys.length≤sizeLine→∀(h':Heap)(c':Nat),(∀b o',s.heap.get? b=some o'→h'.get? b=some o')→
   h'.get? s.heap.objs.size=some {cls:= .type "list",dict:=none,data:= .seq its.toArray c',slots:=#[]}→EP X pins σ Q (.ref s.heap.objs.size) {s with heap:=h'}:=fun its r' hz h' c' kp e=>
  ⟨.ref s.heap.objs.size,_,I.laid (t':=s.toks) kp (Nat.le_refl _) (show cS X.prog X.w _ h' _ (.lst ys)from⟨hz,its,c',r',e⟩),rfl,q _ (I.bX.fresh (Nat.le_refl _))⟩
 rcases hq with hq|hq
 ·obtain⟨its,r',pl,hz⟩:=I.list hq;have hlen:=r'.length;obtain⟨o,ho,hc,n,hd⟩:=pl.isList;exact call_list_seq p (.inl rfl) ho hc hd (fun h' c' kp e=>fin its r' hz h' c' kp e) (by simp only[List.size_toArray]<;>omega)
 ·obtain⟨its,r',pl,hz⟩:=I.tuple hq;have hlen:=r'.length;obtain⟨o,ho,hc,n,hd⟩:=pl;exact call_list_seq p (.inr rfl) ho hc hd (fun h' c' kp e=>fin its r' hz h' c' kp e) (by simp only[List.size_toArray]<;>omega)
def Q3(K:PySem.W.Frag)(T:String)(x:V)(H:Hp):Prop:=match x with
 | .str _=>T="str"
 | .int _=>T="int"
 | .ref p=>(T="list"∧∃xs,iA K H p xs)∨(T="tuple"∧∃o,K.lookup p=some o∧o.cls= .type "tuple"∧o.dict=none)∨
   (T="dict"∧((∃kvs,H p=some (.dK kvs))∨∃kvs,H p=some (.dT kvs)))∨(T="set"∧∃S n,H p=some (.set S n))
 | _=>False
theorem D1{pins:List (Addr×Obj)}{σ:St}{H:Hp}{s:Shared}{T:String}{x:V}{v:Value}(I:Inv X pins σ H s)(r:RelV x v)(ty:Q3 X.K T x H):
  s.TypeIs v T∧∀a,v= .ref a→∃ob,s.heap.get? a=some ob∧ob.dict=none:=by
 cases x with
 |str z=>
  obtain⟨t,rfl⟩:=r;cases(show T="str" from ty);exact⟨typeIs_str s z t,fun _ e=>nomatch e⟩
 |int i=>
  obtain⟨t,rfl⟩:=r;cases(show T="int" from ty);exact⟨typeIs_int s i t,fun _ e=>nomatch e⟩
 |ref p=>
  cases r;rcases ty with⟨rfl,xs,hq⟩|⟨rfl,o,hk,hc,hd⟩|⟨rfl,hk⟩|⟨rfl,S,n,hk⟩
  ·obtain⟨its,_,pl,_⟩:=I.list hq;refine⟨pl.isList.typeIs,fun a e=>?_⟩;cases e;obtain⟨o,n,e,c,hd,_⟩:=pl;exact⟨o,e,hd⟩
  ·refine⟨⟨o,I.p8 p o hk,hc⟩,fun a e=>?_⟩;cases e;exact⟨o,I.p8 _ o hk,hd⟩
  ·have z:∃o,s.heap.get? p=some o∧o.ExactDict:=by
    rcases hk with⟨kvs,hk⟩|⟨kvs,hk⟩
    ·obtain⟨_,_,_,_,o,_,_,e,ex,_⟩:=I.bX p _ hk;exact⟨o,e,ex⟩
    ·obtain⟨_,_,_,_,o,_,_,e,ex,_⟩:=I.bX p _ hk;exact⟨o,e,ex⟩
   obtain⟨o,e,ex⟩:=z;refine⟨⟨o,e,ex.1⟩,fun a e2=>?_⟩;cases e2;exact⟨o,e,ex.2.1⟩
  ·obtain⟨o,_,_,_,e,ex,_⟩:=I.bX p _ hk;refine⟨⟨o,e,ex.1⟩,fun a e2=>?_⟩;cases e2;exact⟨o,e,ex.2.1⟩
 | _=>exact False.elim ty
def Nl(K:PySem.W.Frag)(T:String)(r:V→List V→Hp→VK→Prop)(to:TE):TE:=fun σ H Q=>to σ H fun x H1=>Q3 K T x H1∧r x [] H1 Q
def T8(K:PySem.W.Frag)(T:String)(r:V→List V→Hp→VK→Prop)(to:TE)(t:TA):TE:=fun σ H Q=>to σ H fun x H1=>Q3 K T x H1∧t σ H1 fun xs H2=>r x xs H2 Q
variable{o e:Expr}{es:List Expr}{to:TE}{t:TA}{name:Str}{apos eF:Pos}{T id:String}{r:V→List V→Hp→VK→Prop}
theorem J8(pa:PlainAttrs T)(slot:Slot T name id)(Dq:typeOf (.builtin id)=pure (.type "method_descriptor"))(hm:Pf X id r)(ho:PE X o to)
  (ot:attributeBase o name X.env (eval o X.env)=eval o X.env:=by rfl) (ow:(apos.endLine==eF.line)=true:=by rfl):PE X (.Call (.Attribute o name apos) [] [] eF) (Nl X.K T r to):=by
 intro pins s σ H Q I h;refine wpAny_Call_method0_late ot ow (cK (ho pins s σ H _ I h) fun v s1 ⟨x,H1,I1,r1,ty,q1⟩=>?_);obtain⟨h1,h2⟩:=D1 I1 r1 ty;exact⟨T,id,pa,slot,Dq,h1,h2,Calls.callWith_builtin rfl (PySem.evalArgs_none (hm pins s1 σ H1 x [] v [] Q I1 r1 .nil q1))⟩
theorem Nm(pa:PlainAttrs T)(slot:Slot T name id)(Dq:typeOf (.builtin id)=pure (.type "method_descriptor"))(hm:Pf X id r)(ho:PE X o to)(ha:PA X (e::es) t)
  (ot:attributeBase o name X.env (eval o X.env)=eval o X.env:=by rfl)
  (D5:((backTo eF (starEach (e::es) X.env)).all (fun x=>!x.1)&&(backToKw eF (keywordEach [] X.env)).all (fun x=>x.1.isSome)
   &&decide ((e::es).length+([]:List Keyword).length+(if ([]:List Keyword).isEmpty then 0 else 1)<30))=true:=by rfl)
  (ow:(apos.endLine==eF.line)=true:=by rfl) (hs:starEach (e::es) X.env=(false,eval e X.env)::starEach es X.env:=by rfl) (ZE:(backTo eF (starEach es X.env)).any (·.1)=false:=by rfl):
  PE X (.Call (.Attribute o name apos) (e::es) [] eF) (T8 X.K T r to t):=by
 intro pins s σ H Q I h;refine wpAny_Call_method_late ot D5 ow rfl (cK (ho pins s σ H _ I h) fun v s1 ⟨x,H1,I1,r1,ty,q1⟩=>?_);obtain⟨h1,h2⟩:=D1 I1 r1 ty;refine⟨T,id,pa,slot,Dq,h1,h2,?_⟩;have hA:=ha eF pins s1 σ H1 _ I1 q1;rw[hs]at hA⊢;refine Calls.callWith_builtin (by show(false||(backTo eF (starEach es X.env)).any (·.1))=false;rw[ZE]<;>rfl) (Calls.evalArgs_plain ?_);exact cK hA fun us s2 ⟨vs,H2,I2,r2,q2⟩=>hm pins s2 σ H2 x vs v us Q I2 r1 r2 q2
end
def Pg(X:Cx)(id:String)(r:V→List V→Hp→VK→Prop):Prop:=
 ∀(pins:List (Addr×Obj))(s:Shared)(σ:St)(H:Hp)(x:V)(xs:List V)(v:Value)(us:List Value)(Q:VK),Inv X pins σ H s→RelV x v→Vals xs us→r x xs H Q→
  wpAny (model X.prog X.w) X.A (call (.builtin id) (v::us)) (EP X pins σ Q) X.xe s
theorem Vals.one:∀{x:V}{us:List Value},Vals [x] us→∃u,us=[u]∧RelV x u
 | _,_, .cons r .nil=>⟨_,rfl,r⟩
theorem Vals.zero:∀{us:List Value},Vals [] us→us=[]
 | _, .nil=>rfl
theorem Vals.reverse{xs:List V}{us:List Value}(h:Vals xs us):Vals xs.reverse us.reverse:=by
 induction h with
 |nil=>exact .nil
 |cons r t ih=>rw[List.reverse_cons,List.reverse_cons];exact Vals.append ih (.cons r .nil)
theorem Vals.rep{xs:List V}{us:List Value}(h:Vals xs us):∀k:Nat,Vals (List.replicate k xs).flatten (List.replicate k us).flatten
 |0=> .nil
 |k+1=>by
  rw[List.replicate_succ,List.replicate_succ,List.flatten_cons,List.flatten_cons];exact Vals.append h (Vals.rep h k)
theorem foldl_rep(its:List Value):∀(k:Nat)(acc:List Value),
  List.foldl (fun x1 x2=>x1++x2) acc.toArray (List.replicate k its.toArray)=(acc++(List.replicate k its).flatten).toArray
 |0,acc=>ZA
 |k+1,acc=>by
  have e:acc.toArray++its.toArray=(acc++its).toArray:=ZA;have e2:(acc++its)++(List.replicate k its).flatten=acc++(List.replicate (k+1) its).flatten:=by
   rw[List.replicate_succ,List.flatten_cons,List.append_assoc]
  rw[←e2,←foldl_rep its k (acc++its),←e,List.replicate_succ,List.foldl_cons]
section
variable{X:Cx}{pins:List (Addr×Obj)}{σ:St}{H:Hp}{s:Shared}{l b:Addr}{xs ys zs:List V}
theorem Inv.GA{its its':List Value}{n:Nat}{f:Array Value→Array Value}{t':Nat}(I:Inv X pins σ H s)(hH:H l=some (.lst xs))
  (e:s.heap.get? l=some {cls:= .type "list",data:= .seq its.toArray n}) (hf:f its.toArray=its'.toArray) (hv:Vals ys its') (hz:ys.length≤sizeLine):
  Inv X pins σ (upd H l (.lst ys)) {s with heap:=s.heap.update l (Obj.mapSeq f),toks:=t'}:=by
 have q:=PySem.IsL.update e f;rw[hf]at q;refine I.write (x:=l) (e:=l) (by rw[hH];exact trivial) (.inl rfl) (fun b' u hb hu=>(Heap.get?_update_other s.heap (Obj.mapSeq f) (Ne.symm hb)).trans hu) ⟨_,q⟩ ?_;exact⟨hz,its',_,hv,q⟩
theorem Inv.Q4{its:List Value}{t':Nat}(I:Inv X pins σ H s)(hv:Vals ys its)(hz:ys.length≤sizeLine):
  Inv X pins σ (upd H s.heap.objs.size (.lst ys)) {s with heap:=s.heap.push {cls:= .type "list",data:= .seq its.toArray},toks:=t'}:=
 I.laid (fun _ _ q=>Zi q) (Nat.le_refl _) ⟨hz,its,0,hv,Heap.get?_push_size _ rfl⟩
theorem Inv.fresh(I:Inv X pins σ H s):H s.heap.objs.size=none:=I.bX.fresh (Nat.le_refl _)
theorem Inv.Ck(I:Inv X pins σ H s)(hH:H l=some (.lst xs)):xs.length≤sizeLine∧∃(its:List Value)(n:Nat),Vals xs its∧xs.length=its.length∧s.heap.get? l=some {cls:= .type "list",data:= .seq its.toArray n}:=by
 obtain⟨z,its,n,r,e⟩:=I.bX l _ hH;exact⟨z,its,n,r,r.length,e⟩
theorem yt{n:Nat}(h:n≤sizeLine):Builtin.List.listTooLong n=false:=by
 unfold Builtin.List.listTooLong;exact decide_eq_false Zt
end
section
variable{X:Cx}
inductive Bc(x:V)(vs:List V)(H:Hp)(Q:VK):Prop
 |mk (l:_) (xs:_) (y:_) (_:x= .ref l) (_:vs=[y]) (_:H l=some (.lst xs)) (_:xs.length<sizeLine) (_:Q .cO (upd H l (.lst (xs++[y])))):Bc x vs H Q
theorem bC:Pg X "list.append" Bc:=by
 intro pins s σ H x vs v us Q I rx rv h;obtain⟨l,xs,y,rfl,rfl,hH,hz,q⟩:=h;cases rx;obtain⟨u,rfl,ru⟩:=rv.one;obtain⟨z,its,n,r,hl,e⟩:=I.Ck hH;refine call_meets F.slot_list_append ⟨_,e,rfl⟩ F.entry_list_append (F.args_list_append_2 _ _) (PySem.list_append l its.toArray n u (by rw[List.size_toArray];omega)) ⟨e,?_⟩;refine⟨.cO,_,I.GA (its':=its++[u]) hH e Zr (r.append (.cons ru .nil)) ?_,rfl,q⟩;rw[List.length_append,List.length_singleton];omega
def GB:V→List V→Hp→VK→Prop:=fun x vs H Q=>∃l b xs zs,x= .ref l∧vs=[.ref b]∧H l=some (.lst xs)∧H b=some (.lst zs)∧xs.length+zs.length≤sizeLine∧Q .cO (upd H l (.lst (xs++zs)))
theorem vy:Pg X "list.extend" GB:=by
 intro pins s σ H x vs v us Q I rx rv h;obtain⟨l,b,xs,zs,rfl,rfl,hH,hB,hz,q⟩:=h;cases rx;obtain⟨u,rfl,ru⟩:=rv.one;cases ru;obtain⟨z,its,n,r,hl,e⟩:=I.Ck hH;obtain⟨z2,fD,n2,r2,vz,e2⟩:=I.Ck hB;have hsz:its.toArray.size+fD.toArray.size≤sizeLine:=by rw[List.size_toArray,List.size_toArray];omega
 have D6:¬(!its.toArray.isEmpty&&Builtin.List.listTooLong (its.toArray.size+fD.toArray.size))=true:=by
  rw[yt hsz,Bool.and_false];exact Bool.false_ne_true
 refine call_meets F.slot_list_extend ⟨_,e,rfl⟩ F.entry_list_extend (F.args_list_extend_2 _ _)
  (AutoSeq1.list_extend_list_list_0 l its.toArray n b fD.toArray n2 D6 (by rw[List.size_toArray];omega) (Zx)) ⟨e,e2,?_⟩
 refine⟨.cO,_,I.GA (its':=its++fD) hH e Zr (r.append r2) ?_,rfl,q⟩;rw[List.length_append];omega
def D7:V→List V→Hp→VK→Prop:=fun x vs H Q=>∃l xs,x= .ref l∧vs=[]∧H l=some (.lst xs)∧Q .cO (upd H l (.lst xs.reverse))
theorem ZV:Pg X "list.reverse" D7:=by
 intro pins s σ H x vs v us Q I rx rv h;obtain⟨l,xs,rfl,rfl,hH,q⟩:=h;cases rx;have Nn:=rv.zero;subst Nn;obtain⟨z,its,n,r,hl,e⟩:=I.Ck hH;refine call_meets F.slot_list_reverse ⟨_,e,rfl⟩ F.entry_list_reverse (F.args_list_reverse_1 _) (AutoSeq1.list_reverse_list_0 l its.toArray n (by rw[List.size_toArray];omega)) ⟨e,?_⟩;refine⟨.cO,_,I.GA (its':=its.reverse) hH e Zr r.reverse ?_,rfl,q⟩;rw[List.length_reverse];omega
def J9:V→List V→Hp→VK→Prop:=fun x vs H Q=>∃l xs,x= .ref l∧vs=[]∧H l=some (.lst xs)∧Q .cO (upd H l (.lst []))
theorem D8:Pg X "list.clear" J9:=by
 intro pins s σ H x vs v us Q I rx rv h;obtain⟨l,xs,rfl,rfl,hH,q⟩:=h;cases rx;have Nn:=rv.zero;subst Nn;obtain⟨z,its,n,r,hl,e⟩:=I.Ck hH;refine call_meets F.slot_list_clear ⟨_,e,rfl⟩ F.entry_list_clear (F.args_list_clear_1 _) (AutoSeq1.list_clear_list_0 l its.toArray n (by rw[List.size_toArray];omega)) ⟨e,?_⟩;exact⟨.cO,_,I.GA (its':=[]) (ys:=[]) hH e rfl .nil (Nat.zero_le _),rfl,q⟩
def Q5:R2:=fun x y H Q=>∃l k xs,x= .ref l∧y= .int k∧H l=some (.lst xs)∧-(2^63)≤k∧k<2^63∧xs.length*k.toNat≤sizeLine∧
 ∀p,H p=none→Q (.ref p) (upd H p (.lst (List.replicate k.toNat xs).flatten))
theorem len_rep{α:Type}(xs:List α)(k:Nat):(List.replicate k xs).flatten.length=k*xs.length:=by
 induction k with
 |zero=>simp
 |succ k ih=>rw[List.replicate_succ,List.flatten_cons,List.length_append,ih,Nat.succ_mul,Nat.add_comm]
theorem J_:rJ X (binaryOp .Mult) Q5:=by
 intro pins s σ H x y v u Q I rx ry h;obtain⟨l,k,xs,rfl,rfl,hH,h1,h2,hz,q⟩:=h;cases rx;obtain⟨t,rfl⟩:=ry;obtain⟨z,its,n,r,hl,e⟩:=I.Ck hH;have hlen:its.toArray.size*k.toNat≤sizeLine:=by rw[List.size_toArray,←hl];exact hz
 have Q6:¬its.toArray.size*k.toNat>(2^63-1)/8:=by
  have:(sizeLine:Nat)≤(2^63-1)/8:=Zy;omega
 have Q7:¬(!Builtin.List.listFitsIndex k)=true:=by
  rw[fitsIndex_both h1 h2];exact Bool.false_ne_true
 have D6:¬Builtin.List.listTooLong (its.toArray.size*k.toNat)=true:=by
  rw[yt hlen];exact Bool.false_ne_true
 have Cm:List.foldl (fun x1 x2=>x1++x2) #[] (List.replicate (if its.toArray.isEmpty=true then 0 else k.toNat) its.toArray)=(List.replicate k.toNat its).flatten.toArray:=by
  have f0:∀m:Nat,List.foldl (fun x1 x2=>x1++x2) #[] (List.replicate m its.toArray)=(List.replicate m its).flatten.toArray:=fun m=>by
   have:=foldl_rep its m [];rw[List.nil_append]at this;exact this
  rw[f0];cases its with
  |nil=>simp
  |cons a r'=>rw[if_neg Zr]
 refine wpAny_binaryOp_repeat_ref (T:="list") (U:="int") (Zy) ⟨_,e,rfl⟩ (fun s'=>typeIs_int s' k t) noFill_list_mul F.fills_int_mul F.slot_int_rmul repeat_list F.slot_int_index.lookup
  (call_meets F.slot_int_rmul (typeIs_int s k t) F.entry_int_rmul (F.args_int_rmul_2 _ _) (int___rmul___int_list k t l its.toArray n)
   ⟨e,rfl,⟨_,e,rfl⟩,call_meets F.slot_list_mul ⟨_,e,rfl⟩ F.entry_list_mul (F.args_list_mul_2 _ _) (AutoListH.list___mul___list_int_3 l its.toArray n k t Q7 Q6 D6) ⟨e,?_⟩⟩)
 rw[Cm];exact⟨.ref _,_,I.Q4 (t':=s.toks) (r.rep k.toNat) (by rw[len_rep,Nat.mul_comm];exact hz),rfl,q _ I.fresh⟩
end
section
variable{prog:Program}{w:World}{A:Around}{E:Value→Shared→Prop}{s:Shared}
end
section
variable{X:Cx}
end
end L2
namespace T9
open PySem PySem.W PySem.Calls PyProof.Rows
theorem rK{P:Params}{h:Heap}:∀(ns:List Int)(vs:List Value),WellAll P h vs (ns.map WData.int)→IntsAre vs ns:=by
 intro ns
 induction ns with
 |nil=>
  intro vs w;rw[List.map_nil]at w;cases w;exact .nil
 |cons n ns ih=>
  intro vs w;rw[List.map_cons]at w;cases w with
  |cons a b=>
   cases a;exact .cons _ _ (ih _ b)
theorem Cn{l:OpenLaw}{n:Nat}(hn:l.most=some n){P:Params}{h:Heap}{args:List WData}{vals:List Value}
  (GC:l.row.toRowW.claim.pre args=true) (Np:WellAll P h vals args):
  ∃a vs ns,vals=[Value.ref a]∧args=[WData.list (ns.map WData.int)]∧h.get? a=some {cls:= .type "list",data:= .seq vs.toArray}∧IntsAre vs ns∧ns.length≤n:=by
 have Nq:WShape.hasAll [] args [.list .int]=true:=(pre_splitW GC).1;have hc:l.pre.holds [] {args:=args}=true:=(pre_splitW GC).2;obtain⟨d,r,rfl,h1,h2⟩:=hasAllW_cons Nq;obtain rfl:=hasAllW_nil h2;obtain⟨xs,rfl,h3⟩:=hasW_list h1;obtain⟨ns,rfl⟩:=items_int h3;have hlen:ns.length≤n:=by
  unfold OpenLaw.pre at hc;have h4:(WTm.not (.lt (.lit (.int (n:Int))) (.len (.arg 0)))).holds [] {args:=[.list (ns.map .int)]}=true:=by
   have h4:=(holds_andW hc).1;rw[hn]at h4;exact h4
  have h5:=condW_of h4 (w_not (w_lt w_lit (w_len_list (w_arg rfl))));rw[List.length_map]at h5;refine Nat.le_of_not_lt fun q=>?_
  have q':(n:Int)<((ns.length:Nat):Int):=Zx;first
   |(rw[decide_eq_true q']at h5;exact absurd h5 (Zy))
   |(simp at h5;omega)
 cases Np with
 |cons w1 w2=>
  cases w2;cases w1 with
  |list ho Q8=>exact⟨_,_,ns,rfl,rfl,ho,rK ns _ Q8,hlen⟩
theorem Co(l:OpenLaw)(args:List WData):l.row.toRowW.claim.post args (.bool true) args=true:=
 postW_of (r:=l.row.toRowW) (X:=(true==true))
  (show WShape.has [] (.bool true) .bool=true by first|rfl|decide|simp[WShape.has,WShape.arms,WShape.armsAll])
  (show(WTm.eq .res (.lit (.bool true))).value [] {args:=args,res:=some (.bool true),after:=args}=some (.bool (true==true))from w_eq_bool (w_res rfl) w_lit) rfl
theorem yu{l:OpenLaw}{n:Nat}{q:Program}{loose:List Str}{XP:(Str→Option Value)→Heap→Prop}{YP:World→Heap→Prop}{d:DefRec}
  (hn:l.most=some n) (Nr:d.params.defaults=[])
  (call:∀(w:World)(dB cj:Shared)(mg mb:Str→Option Value)(fa:Addr)(o:Obj)(pm cd doc:Value)(a:Addr)(vs:List Value)(ns:List Int),
   Ground q loose [] XP w dB mg mb cj.heap→YP w cj.heap→
   cj.heap.get? fa=some o→o.data= .func (docDef d.name d.params d.body d.scope pm cd doc)→cj.heap.CodeRec cd d.name→mg d.name=some (.ref fa)→
   cj.heap.get? a=some {cls:= .type "list",data:= .seq vs.toArray}→IntsAre vs ns→ns.length≤n→cj.gens=#[]→
   codeAny (model l.prog w) callerA (.call (.ref fa) ⟨[.ref a],[]⟩) (fun r s'=>r= .ok (.ret (.bool true))∧OldK cj.heap s'.heap∧s'.os=cj.os∧AllBare s'.gens) cj):
  WalkO q loose XP YP l.row.toRowW d [] (fun f vs=>PySem.call f vs):=by
 intro w dB cj mg mb G Y fa o pm cd doc dV kV ho hd B7 hD Nt hg args vals as GC V1 Yo Np LY;obtain rfl:dV= .none:=Dflts.none hD Nr;obtain rfl:kV= .none:=Dflts.noKw hD;obtain⟨a,vs,ns,rfl,rfl,J',hints,hlen⟩:=Cn hn GC Np;refine enter_call (codeAny_mono (call w dB cj mg mb fa o pm cd doc a vs ns G Y ho (fd_plain hd) B7 Nt J' hints hlen hg) fun r s' hq=>?_);obtain⟨rfl,h2,h3,h4⟩:=hq;exact⟨.inl ⟨.bool true, .bool true,[],rfl,fun _=>rfl, .bool true,Co l _,fun _=>⟨List.Pairwise.nil,fun _ hm=>(nomatch hm)⟩⟩,h2,h3,h4⟩
section
variable{prog:Program}{w:World}{A:Around}{E:Value→Shared→Prop}{s:Shared}{K:Frag}
def ledger(h:Heap)(L d:Addr):List (Addr×Obj):=(List.range h.objs.size).filterMap fun a=>if a=L∨a=d then none else(h.get? a).map fun o=>(a,o)
end
end T9
namespace L2
open PySem PySem.Spec PyProof.Rows
theorem vA:∀{vs:List Value}{ns:List Int},IntsAre vs ns→Vals (ns.map V.int) vs
 | _,_, .nil=> .nil
 | _,_, .cons n t h=> .cons ⟨t,rfl⟩ (vA h)
def Ka(H:Hp):Prop:=∀b,H b=none∨∃o xs,H b=some (.r9 o (.lst xs))
theorem D9{cm:Bool}{P:Program}{w:World}{K:PySem.W.Frag}{mg mb:Str→Option Value}{CX:DQ}{k:Nat}{fa a:Addr}{fd:FuncData}{x:Str}{sp:Sp}{cj:Shared}{vs:List Value}{ns:List Int}
  (KX:K.In cj.heap) (Ph:cj.heap.Ns mainGlobals mg) (hb:cj.heap.Ns builtinsNs mb) (V4:∀x:Str,x≠"__name__"→mb x=bootBuiltins x) (Q9:cj.heap.NoLimit) (hg:cj.gens=#[])
  (ha:cj.heap.get? a=some {cls:= .type "list",data:= .seq vs.toArray}) (hi:IntsAre vs ns) (hl:ns.length≤sizeLine) (hr:eR cm k callerA)
  (F:∀base:Heap,K.In base→base.Ns mainGlobals mg→a7 P w K mg base CX cm k fa fd [x] sp) (Nu:∀(s:Shared)(u:Value),BindsTo s fd ⟨[u],[]⟩ [(x,u)])
  (FU:∀H:Hp,Ka H→iA K H a (ns.map V.int)→sp [.ref a] H (fun v _=>v= .bl true) fun _ _ _=>False)
  (Q_:∀H e s',CX [] H cj (fun _ _ _=>False) e s'→False):
  codeAny (model P w) callerA (.call (.ref fa) ⟨[.ref a],[]⟩) (fun r s'=>r= .ok (.ret (.bool true))∧OldK cj.heap s'.heap∧s'.os=cj.os∧AllBare s'.gens) cj:=by
 have rv:=vA hi;have Ra:=hi.length;have core:∀H:Hp,Ka H→iA K H a (ns.map V.int)→lg P w H cj.heap→(∀b,H b≠none→b=a)→(H a≠none→K.lookup a=none)→
   codeAny (model P w) callerA (.call (.ref fa) ⟨[.ref a],[]⟩) (fun r s'=>r= .ok (.ret (.bool true))∧OldK cj.heap s'.heap∧s'.os=cj.os∧AllBare s'.gens) cj:=by
  intro H hO hS bX hA hK;have Bd:∀{b:Addr}{o:Obj},cj.heap.get? b=some o→H b=none→(vW cj.heap H).get? b=some o:=fun e n=>DE e n
  have Nc:∀{b:Addr}{o:Obj}{es:Array DictEntry}{ep:Nat},cj.heap.get? b=some o→o.data= .dict es ep→H b=none:=fun{b o es ep} e d=>by
   cases q:H b with
   |none=>rfl
   |some u=>
    have e':b=a:=hA b (by rw[q];simp);subst e';rw[ha]at e;cases e;have d':Data.seq vs.toArray _=Data.dict es ep:=d;cases d'
  have Pj:∀{b:Addr}{m:Str→Option Value},cj.heap.Ns b m→(vW cj.heap H).Ns b m:=fun{b m} ⟨o,es,ep,e,d,r⟩=>⟨o,es,ep,Bd e (Nc e d),d,r⟩
  have T_:K.In (vW cj.heap H):=fun b o e=>Bd (KX b o e) (by
   cases q:H b with
   |none=>rfl
   |some u=>
    have e':b=a:=hA b (by rw[q];simp);subst e';rw[hK (by rw[q];simp)]at e;cases e)
  have hM:Mod K mg (vW cj.heap H):=⟨T_,Pj Ph,⟨mb,Pj hb,V4⟩,let ⟨mc,h1,h2⟩:=Q9;⟨mc,Pj h1,h2⟩⟩
  have e0:zN P w K mg (vW cj.heap H) callerA [] cj H:=⟨rfl,hM,fun b o e=>F' e,Nat.le_of_eq (B5 _ _),trivial,fun b hb=>absurd (show b∈([]:List Addr)from hb) (ZA),bX, .of_eq hg⟩
  refine codeAny_mono ((F _ T_ (Pj Ph)).run callerA [] cj H ⟨[.ref a],[]⟩ [.ref a] [.ref a] _ _ hr e0 (Nu cj (.ref a)) (.cons rfl .nil) (FU H hO hS)) fun r s' h=>?_
  cases r with
  |error e=>exact(Q_ H e s' h).elim
  |ok fl=>
   cases fl with
   |next=>exact False.elim h
   |brk=>exact False.elim h
   |cont=>exact False.elim h
   |ret u=>
    obtain⟨v,H',os,bare,un,Rb,r',q⟩:=h;have q':v= .bl true:=q;subst q';obtain rfl:u=Value.bool true:=r';refine⟨rfl,OldK.of_keep fun b o e=>?_,os,bare⟩;cases q:H b with
    |none=>exact un.keep b o e q (by intro z;exact absurd (show b∈([]:List Addr)from z) (ZA)) (ZA)
    |some u=>
     rcases hO b with z|⟨ob,xs,z⟩
     ·rw[q]at z;cases z
     ·have z2:=un.n9 b ob _ z;obtain⟨e1,_⟩:=bX b _ z;obtain⟨e2,_⟩:=Rb b _ z2;rw[e]at e1;cases e1;exact e2
 cases hk:K.lookup a with
 |some o=>
  have e:=KX a o hk;rw[ha]at e;cases e;refine core (fun _=>none) (fun _=> .inl rfl) (.inr ⟨_,vs.toArray,_,hk,rfl,rfl,rfl,by rw[List.size_toArray,Ra];exact hl,by simpa using rv⟩) (fun b u z=>by have z':(none:Option HO)=some u:=z;cases z') (fun b z=>absurd rfl z) fun z=>absurd rfl z
 |none=>
  refine core (fun b=>if b=a then some (.r9 {cls:= .type "list",data:= .seq vs.toArray} (.lst (ns.map V.int)))else none) (fun b=>?_) (.inl (.inr ⟨{cls:= .type "list",data:= .seq vs.toArray},if_pos rfl⟩)) (fun b u z=>?_) (fun b z=>?_) fun _=>hk
  ·by_cases hb:b=a
   ·exact .inr ⟨_,_,Zk hb⟩
   ·exact .inl (Zh hb)
  ·by_cases hb:b=a
   ·have z':=(Zk hb).symm.trans z;cases z';subst hb;exact⟨ha,by rw[List.length_map];exact hl,vs,_,rv,ha⟩
   ·have z':=(Zh hb).symm.trans z;cases z'
  ·by_cases hb:b=a
   ·exact hb
   ·exact absurd (Zh hb) z
theorem GD{cm:Bool}{l:PySem.W.OpenLaw}{n k:Nat}{q:Program}{loose:List Str}{XP:(Str→Option Value)→Heap→Prop}{YP:World→Heap→Prop}{d:DefRec}{K:Params→PySem.W.Frag}{CX:World→DQ}{sp:World→Sp}{x:Str}
  (hn:l.most=some n) (xV:n≤sizeLine) (Nr:d.params.defaults=[]) (hr:eR cm k callerA)
  (hY:∀(w:World)(h:Heap),YP w h→(K w.params).In h)
  (F:∀(w:World)(mg:Str→Option Value)(fa:Addr)(h:Heap),(K w.params).In h→h.Ns mainGlobals mg→mg d.name=some (.ref fa)→
   ∃fd:FuncData,(∀(s:Shared)(u:Value),BindsTo s fd ⟨[u],[]⟩ [(x,u)])∧
    ∀base:Heap,(K w.params).In base→base.Ns mainGlobals mg→a7 l.prog w (K w.params) mg base (CX w) cm k fa fd [x] (sp w))
  (FU:∀(w:World)(H:Hp)(a:Addr)(ns:List Int),ns.length≤n→Ka H→iA (K w.params) H a (ns.map V.int)→sp w [.ref a] H (fun v _=>v= .bl true) fun _ _ _=>False)
  (Q_:∀(w:World)(H:Hp)(s:Shared)(e:Value)(s':Shared),CX w [] H s (fun _ _ _=>False) e s'→False):
  PySem.W.WalkO q loose XP YP l.row.toRowW d [] (fun f vs=>PySem.call f vs):=by
 refine T9.yu hn Nr fun w dB cj mg mb fa o pm cd doc a vs ns G Y ho hd B7 Nt J' hints hlen hg=>?_
 have KX:=hY w _ Y;obtain⟨fd,hb,hF⟩:=F w mg fa _ KX G.T.g Nt;exact D9 KX G.T.g G.T.b G.T.builtins G.T.nolimit hg J' hints (Nat.le_trans hlen xV) hr hF hb (fun H hO hS=>FU w H a ns hlen hO hS) fun H e s'=>Q_ w H cj e s'
def inClass(s:Stmt)(j:Nat):Stmt:=match s with
 | .ClassDef _ _ _ body _ _ _ _ _ _ _=>body.getD j (.Pass ⟨0,0,0,0⟩)
 | _=> .Pass ⟨0,0,0,0⟩
def fv(s:Stmt):Arguments:=match s with
 | .FunctionDef _ a _ _ _ _ _ _ _ _=>a
 | _=>{posonlyargs:=[],args:=[],vararg:=none,kwonlyargs:=[],kw_defaults:=[],kwarg:=none,defaults:=[]}
def eJ(s:Stmt):List Stmt:=match s with
 | .FunctionDef _ _ b _ _ _ _ _ _ _=>b
 | _=>[]
def ar(s:Stmt):Scope:=match s with
 | .FunctionDef _ _ _ _ _ _ sc _ _ _=>sc
 | _=>{kind:= .function,names:=[],isGenerator:=false,isCoroutine:=false}
abbrev E0:XK:=fun _ _ _=>False
structure jh(K:PySem.W.Frag)(x qual:Str)(st:Stmt)(f:Addr)(fd:FuncData):Prop where
 ex:∃(oc:Value)(od:Option Addr)(kV doc pm:Value)(an:Option Addr)(bT ct:Value)(Ba:Array (Option Value)),
  fd=PySem.W.fnOf x qual (fv st) (eJ st) (ar st) .none kV doc pm an bT ct∧K.lookup f=some ⟨oc,od, .func fd,Ba⟩∧PySem.W.codeIn K bT qual=true
 kp:PySem.W.keepIn K (.ref f)=true
section
variable{P:Program}{w:World}{K:PySem.W.Frag}{mg:Str→Option Value}{base:Heap}
theorem jh.binds{x qual:Str}{st:Stmt}{f:Addr}{fd:FuncData}{ps:List Str}(F:jh K x qual st f fd)
  (h:∀(kV doc pm:Value)(an:Option Addr)(bT ct:Value)(us:List Value),us.length=ps.length→bindArgs (PySem.W.fnOf x qual (fv st) (eJ st) (ar st) .none kV doc pm an bT ct) ⟨us,[]⟩=pure (ps.zip us)):Binds K fd ps []:=by
 obtain⟨oc,od,kV,doc,pm,an,bT,ct,Ba,rfl,lk,B7⟩:=F.ex;exact .all (h kV doc pm an bT ct)
theorem D_{x qual:Str}{st:Stmt}{f:Addr}{oc:Value}{od an:Option Addr}{Ba:Array (Option Value)}{kV doc pm bT ct:Value}(l:K.lookup f=some ⟨oc,od, .func (PySem.W.fnOf x qual (fv st) (eJ st) (ar st) .none kV doc pm an bT ct),Ba⟩)
  (c:PySem.W.codeIn K bT qual=true) (k:PySem.W.keepIn K (.ref f)=true):jh K x qual st f (PySem.W.fnOf x qual (fv st) (eJ st) (ar st) .none kV doc pm an bT ct):=⟨⟨oc,od,kV,doc,pm,an,bT,ct,Ba,rfl,l,c⟩,k⟩
end
section
variable{X:Cx}
theorem pv(i:Nat){x:Str}{pos:Pos}(hN:X.N[i]?=some x:=by rfl)(hv:QA X.env.scope x:=by first|exact Or.inl rfl|exact Or.inr (Or.inl rfl)|exact Or.inr (Or.inr rfl))(hd:(x==("__debug__":Str))=false:=by decide)
  (B7:(x==("__classdict__":Str))=false:=by decide):PE X (.Name x pos) (JG i):=JH hN hv hd B7
end
theorem eU{A B:Prop}(h:B):if false=true then A else B:=by
 rw[Zh Bool.false_ne_true];exact h
theorem jK{A B:Prop}(h:A):if true=true then A else B:=by
 rw[if_pos rfl];exact h
theorem a8{c A B:Prop}[Decidable c](h1:c→A)(h2:¬c→B):if c then A else B:=by
 by_cases h:c
 ·rw[Zk h];exact h1 h
 ·rw[Zh h];exact h2 h
def ax(H H':Hp):Prop:=∀b o,H b=some o→H' b=some o
theorem ax.refl(H:Hp):ax H H:=fun _ _ h=>h
theorem ax.trans{H H1 H2:Hp}(a:ax H H1)(b:ax H1 H2):ax H H2:=fun c o h=>b c o (a c o h)
theorem ax.free{H H':Hp}(e:ax H H'){l:Addr}(h:H' l=Option.none):H l=Option.none:=by
 cases q:H l with
 |none=>rfl
 |some o=>
  rw[e l o q]at h;cases h
theorem ax.seq{K:PySem.W.Frag}{H H':Hp}{a:Addr}{xs:List V}(e:ax H H')(h:iA K H a xs):iA K H' a xs:=by
 rcases h with(h|⟨o,h⟩)|h
 ·exact .inl (.inl (e _ _ h))
 ·exact .inl (.inr ⟨o,e _ _ h⟩)
 ·exact .inr h
section
variable{κ:Type}[DecidableEq κ]
theorem yv{kvs:List (κ×V)}{k:κ}(h:bu kvs k=none):¬k∈kvs.map (·.1):=by
 intro m;obtain⟨p,hp,e⟩:=List.mem_map.mp m;have q:(kvs.any fun kv=>decide (kv.1=k))=true:=List.any_eq_true.mpr ⟨p,hp,decide_eq_true e⟩;rw[ic,h]at q;exact absurd q Zr
theorem Be{kvs:List (κ×V)}{k:κ}{v:V}(h:bu kvs k=some v):k∈kvs.map (·.1):=by
 have q:(kvs.any fun kv=>decide (kv.1=k))=true:=by
  rw[ic,h];all_goals rfl
 obtain⟨p,hp,e⟩:=List.any_eq_true.mp q;exact List.mem_map.mpr ⟨p,hp,of_decide_eq_true e⟩
end
end L2
namespace L2
open PySem PySem.Spec PyProof.Rows PySem.W
def cW(P:Program)(w:World):DQ:=fun outer H s E e s'=>
 ∃(ea:Addr)(cls a0:Value)(B:Heap)(H':Hp),e= .ref ea∧s'.os=s.os∧AllBare s'.gens∧Heap.FlyingW B outer ea cls a0 s'.heap∧
  Un (n5 outer) [] H H' s.heap s'.heap∧lg P w H' B∧(∀b o,s.heap.get? b=some o→H b=none→b∉n5 outer→B.get? b=some o)∧(∀b o,s.heap.get? b=some o→b∉n5 outer→∃o',B.get? b=some o')∧E cls none H'
theorem aQ{P:Program}{w:World}{X:Cx}:Passes (cW P w) X (fun _=>E0):=fun _ _ _ _ _ _ _ ⟨_,_,_,_,_,_,_,_,_,_,_,_,_,h⟩=>h.elim
structure Pk(X:Cx)(E:St→XK):Prop where
 raise:∀(pins:List (Addr×Obj))(σ:St)(H:Hp)(s:Shared)(h':Heap)(e:Addr)(cls:Value)(args:List Value),Inv X pins σ H s→Heap.MadeExcOf s.heap h' e cls args→E σ cls none H→X.xe (.ref e) {s with heap:=h'}
 pass:Passes (cW X.prog X.w) X E
 own:PassesOwn (model X.prog X.w) X.A X.env X.xe
theorem lg.hide{P:Program}{w:World}{H:Hp}{h:Heap}{as:List Addr}(ok:lg P w H h)(hf:∀b∈as,H b=none):lg P w H (hideAll h as):=fun a o e=>
 (ok a o e).vV (fun b u hb q=>hideAll_get _ q fun hm=>by
  rcases hb with rfl|hb
  ·rw[hf _ hm]at e;cases e
  ·rw[hf _ hm]at hb;cases hb) (fun b q=>q) fun b xs q=>q
section
variable{P:Program}{w:World}{K:PySem.W.Frag}{mg:Str→Option Value}{base:Heap}{N:List Str}{qual:Str}{scope:Scope}{f:Addr}{cd:Value}{A:Around}{outer:List Env}{s:Shared}{H:Hp}{E:XK}{cm:Bool}
theorem ZP{P:Program}{w:World}{H:Hp}{h:Heap}{a:Addr}{o:HO}(x:cS P w H h a o):∃q,h.get? a=some q:=by
 cases o with
 |lst xs=>obtain⟨_,its,n,_,e⟩:=x;exact⟨_,e⟩
 |tup xs=>obtain⟨_,its,_,o,e,_⟩:=x;exact⟨_,e⟩
 |dK kvs=>obtain⟨_,_,vs,_,o,es,ep,e,_⟩:=x;exact⟨_,e⟩
 |dT kvs=>obtain⟨_,_,xs,_,o,es,ep,e,_⟩:=x;exact⟨_,e⟩
 |set S n=>obtain⟨o,es,ep,t,e,_⟩:=x;exact⟨_,e⟩
 |ins C dx fs=>obtain⟨_,_,_,e,_⟩:=x;exact⟨_,e⟩
 |own y=>exact x
 |xd fs=>obtain⟨mA,⟨o,es,ep,e,_⟩,_⟩:=x;exact⟨_,e⟩
 |met f y=>exact⟨_,x⟩
 |O7 lo hi=>obtain⟨t,u,v,e⟩:=x;exact⟨_,e⟩
 |r9 o u=>exact⟨_,x.1⟩
 |F_ ps=>exact⟨_,x⟩
 |ext φ=>exact x.2.1
theorem Bf:Pk (zP (cW P w) cm P w K mg base N qual scope f cd A outer s H E) (fun _=>E):=by
 refine⟨?_,?_,PassesOwn.leaving⟩
 ·intro pins σ H1 s1 h' e cls args I hx hE;have Rg:(A.deeper (envOfC qual scope s.heap.objs.size f cd)).frames=some (envOfC qual scope s.heap.objs.size f cd::outer):=I.ok.frames;have vi:s1.heap.FunFrames base (envOfC qual scope s.heap.objs.size f cd::outer):=I.stack;have n6:∀env∈(envOfC qual scope s.heap.objs.size f cd::outer),∀b,env.frame=some b→b∈(envOfC qual scope s.heap.objs.size f cd::outer).filterMap (·.frame):=fun env he b hb=>List.mem_filterMap.mpr ⟨env,he,hb⟩
  have A0:∀b∈(envOfC qual scope s.heap.objs.size f cd::outer).filterMap (·.frame),H1 b=none:=I.vX;show wpAny (model P w) (A.deeper (envOfC qual scope s.heap.objs.size f cd)) (leaving (envOfC qual scope s.heap.objs.size f cd) (.ref e)) (fun _ v9=>cW P w outer H s E (.ref e) v9) (fun e' v9=>cW P w outer H s E e' v9) {s1 with heap:=h'};have ZD:∀b o,s.heap.get? b=some o→b∉n5 outer→b∉(envOfC qual scope s.heap.objs.size f cd::outer).filterMap (·.frame):=fun b o q hb hm=>by
   obtain⟨env,he,hf⟩:=List.mem_filterMap.mp hm;rcases List.mem_cons.mp he with rfl|he
   ·have z:s.heap.objs.size=b:=Option.some.inj hf;exact absurd (Heap.lt_size q) (by rw[z];exact Nat.lt_irrefl _)
   ·exact hb (List.mem_filterMap.mpr ⟨env,he,hf⟩)
  refine wpAny_leaves_madeW (s:={s1 with heap:=h'}) (h:=s1.heap) (base:=hideAll s1.heap ((envOfC qual scope s.heap.objs.size f cd::outer).filterMap (·.frame))) (L:=s.heap.objs.size) Rg rfl (fun b o q=>of_hideAll _ q) (funFrames_hide vi n6) hx fun h2 t x1 x2 x3 x4=>?_
  have bs:Un (n5 outer) [] H H1 s.heap s1.heap:=I.base;have kB:∀b o,s.heap.get? b=some o→H b=none→b∉n5 outer→(hideAll s1.heap ((envOfC qual scope s.heap.objs.size f cd::outer).filterMap (·.frame))).get? b=some o:=fun b o q hn hb=>
   hideAll_get _ (bs.keep b o q hn hb Zr) (ZD b o q hb)
  have hB:lg P w H1 (hideAll s1.heap ((envOfC qual scope s.heap.objs.size f cd::outer).filterMap (·.frame))):=I.bX.hide A0;refine⟨e,cls, .ref t,_,H1,rfl,I.os,I.bare,x1,?_,hB,kB,fun b o q hb=>?_,hE⟩
  rotate_left
  ·obtain⟨o',e1⟩:=bs.there b o q Zr;exact⟨o',hideAll_get _ e1 (ZD b o q hb)⟩
  refine⟨fun b o q hn hb _=>x1.1 b o (kB b o q hn hb),fun b o q hn hb _=>?_,fun b o q hn _=>bs.free b o q hn Zr,fun b o q _=>?_,bs.cI,bs.n9,bs.rH⟩
  ·obtain⟨sl,e1⟩:=bs.slot b o q hn hb Zr;have Iq:s1.heap.FunFrames base outer:=vi.2.2;obtain⟨_,o2,e2,GF⟩:=Iq.mem hb;rw[e1]at e2;cases e2;obtain⟨xW,e3⟩:=x4 b _ (hx.keeps _ _ e1) GF;exact⟨xW,e3⟩
  ·cases q1:H1 b with
   |some u=>
    obtain⟨oo,z⟩:=ZP (hB b u q1);exact⟨oo,x1.1 b oo z⟩
   |none=>
    cases q0:H b with
    |none=>
     by_cases hb:b∈n5 outer
     ·obtain⟨sl,e1⟩:=bs.slot b o q q0 hb Zr;have Iq:s1.heap.FunFrames base outer:=vi.2.2;obtain⟨_,o2,e2,GF⟩:=Iq.mem hb;rw[e1]at e2;cases e2;obtain⟨xW,e3⟩:=x4 b _ (hx.keeps _ _ e1) GF;exact⟨_,e3⟩
     ·exact⟨o,x1.1 b o (kB b o q q0 hb)⟩
    |some u=>
     obtain⟨o',e1⟩:=bs.there b o q Zr;by_cases hb:b∈n5 outer
     ·have Iq:s1.heap.FunFrames base outer:=vi.2.2;obtain⟨_,o2,e2,GF⟩:=Iq.mem hb;obtain⟨xW,e3⟩:=x4 b _ (hx.keeps _ _ e2) GF;exact⟨_,e3⟩
     ·exact⟨o',x1.1 b o' (hideAll_get _ e1 (ZD b o q hb))⟩
 ·rintro pins σ H1 s1 e s2 I ⟨ea,cls,a0,B,H',rfl,os,bare,Pl,un,hB,kB,tB,hE⟩;have Rg:(A.deeper (envOfC qual scope s.heap.objs.size f cd)).frames=some (envOfC qual scope s.heap.objs.size f cd::outer):=I.ok.frames;show wpAny (model P w) (A.deeper (envOfC qual scope s.heap.objs.size f cd)) (leaving (envOfC qual scope s.heap.objs.size f cd) (.ref ea)) (fun _ v9=>cW P w outer H s E (.ref ea) v9) (fun e' v9=>cW P w outer H s E e' v9) s2;have Pl:Heap.FlyingW B (envOfC qual scope s.heap.objs.size f cd::outer) ea cls a0 s2.heap:=Pl;have un:Un (n5 (envOfC qual scope s.heap.objs.size f cd::outer)) [] H1 H' s1.heap s2.heap:=un;have kB:∀b o,s1.heap.get? b=some o→H1 b=none→b∉n5 (envOfC qual scope s.heap.objs.size f cd::outer)→B.get? b=some o:=kB;have ZD:∀b o,s.heap.get? b=some o→b∉n5 outer→b∉n5 (envOfC qual scope s.heap.objs.size f cd::outer):=fun b o q hb hm=>by
   obtain⟨env,he,hf⟩:=List.mem_filterMap.mp hm;rcases List.mem_cons.mp he with rfl|he
   ·have z:s.heap.objs.size=b:=Option.some.inj hf;exact absurd (Heap.lt_size q) (by rw[z];exact Nat.lt_irrefl _)
   ·exact hb (List.mem_filterMap.mpr ⟨env,he,hf⟩)
  have Rh:∀b,b∈n5 outer→b∈n5 (envOfC qual scope s.heap.objs.size f cd::outer):=fun b hb=>by
   obtain⟨env,he,hf⟩:=List.mem_filterMap.mp hb;exact List.mem_filterMap.mpr ⟨env,List.mem_cons_of_mem _ he,hf⟩
  have bs:Un (n5 outer) [] H H1 s.heap s1.heap:=I.base;refine wpAny_leaves_onW (L:=s.heap.objs.size) Rg rfl Pl fun h2 x1 x4=>?_
  have Ua:∀b o,s.heap.get? b=some o→H b=none→b∉n5 outer→B.get? b=some o:=fun b o q hn hb=>kB b o (bs.keep b o q hn hb Zr) (bs.free b o q hn Zr) (ZD b o q hb)
  have Iq:s2.heap.FunFrames B outer:=Pl.2.2.1.2.2;refine⟨ea,cls,a0,B,H',rfl,os.trans I.os,bare,x1,?_,hB,Ua,fun b o q hb=>?_,hE⟩
  rotate_left
  ·obtain⟨o',e1⟩:=bs.there b o q Zr;exact tB b o' e1 (ZD b o q hb)
  refine⟨fun b o q hn hb _=>x1.1 b o (Ua b o q hn hb),fun b o q hn hb _=>?_,fun b o q hn _=>?_,fun b o q _=>?_,fun b xs q=>un.cI b xs (bs.cI b xs q),fun b o u q=>un.n9 b o u (bs.n9 b o u q),fun b ps q=>?_⟩
  ·obtain⟨sl,e1⟩:=bs.slot b o q hn hb Zr;obtain⟨Yp,e2⟩:=un.slot b _ e1 (bs.free b o q hn Zr) (Rh b hb) (ZA);obtain⟨_,o2,e3,GF⟩:=Iq.mem hb;rw[e2]at e3;cases e3;obtain⟨xW,e4⟩:=x4 b _ e2 GF;exact⟨xW,e4⟩
  ·by_cases hb:b∈n5 outer
   ·obtain⟨sl,e1⟩:=bs.slot b o q hn hb Zr;exact un.free b _ e1 (bs.free b o q hn Zr) (ZA)
   ·exact un.free b o (bs.keep b o q hn hb Zr) (bs.free b o q hn Zr) (ZA)
  ·obtain⟨o',e1⟩:=bs.there b o q Zr;obtain⟨o2,e2⟩:=un.there b o' e1 Zr;by_cases hb:b∈n5 outer
   ·obtain⟨_,o3,e3,GF⟩:=Iq.mem hb;obtain⟨xW,e4⟩:=x4 b _ e3 GF;exact⟨_,e4⟩
   ·obtain⟨o3,e3⟩:=tB b o' e1 (ZD b o q hb);exact⟨o3,x1.1 b o3 e3⟩
  ·obtain⟨more,z⟩:=bs.rH b ps q;obtain⟨Nv,z2⟩:=un.rH b _ z;exact⟨more++Nv,by rw[z2,Array.append_assoc]⟩
end
end L2
namespace L2
open PySem PySem.Spec PyProof.Rows PySem.W PySem.Calls Builtin Builtin.ObjectAttr Builtin.Getset_descriptor
section
variable{prog:Program}{w:World}{A:Around}{E:Value→Shared→Prop}{K:Frag}{x C:Addr}{o:Obj}{hh:Heap}{g:Array GenState}{d:Drawn}{t:Nat}{os:OsState}
end
structure Nw(K:Frag)(C:Addr):Prop where
 ex:excIn K C [.type "ValueError", .type "Exception", .type "BaseException", .type "object"] "ValueError.__new__"=true
 cl:findIn K (.ref C) "__class__"=some (some (.builtin "object.__class__"))
 ob:mroIn K C (.type "object")=some true
 be:mroIn K C (.type "BaseException")=some true
 ga:findIn K (.ref C) "__getattribute__"=some (some (.builtin "BaseException.__getattribute__"))
 gn:findIn K (.ref C) "__getattr__"=some none
 tu:instIn K (.ref C) (.type "tuple")=some false
 kp:keepIn K (.ref C)=true
end L2
namespace L2
open PySem PySem.Spec PyProof.Rows PySem.W PySem.Calls
theorem GG{K:Frag}{h:Heap}{C:Addr}{Ub:List Value}{newId:String}(X:K.In h)(q:excIn K C Ub newId=true):
  ∃bm N nm qn bs hdct sn sub ab col dd k0 k1 k2 k3 k5 mN,h.get? C=some (excClassObj nm qn C N bs bm hdct sn sub ab col dd k0 k1 k2 k3 k5 newId)∧h.Ns N mN∧mN "__init__"=none∧OwnTail h Ub bm:=by
 unfold excIn at q;split at q
 ·rename_i dd cd sl ho
  split at q
  ·rename_i C' bm k0 k1 k2 k3 n k5 hm hs
   simp only[Bool.and_eq_true,beq_iff_eq,Bool.not_eq_true']at q;obtain⟨⟨⟨⟨⟨rfl,rfl⟩,Nx⟩,ht⟩,bX⟩,Pn⟩:=q;obtain⟨nm,bs,mro,ns,qn,hd,sn,sub,ab,col,del⟩:=cd;dsimp only at hm Nx bX Pn;subst hm Nx;have Ri:sl=#[k0,k1,k2,k3,some (.builtin n),k5]:=by
    obtain⟨l⟩:=sl;simp only at hs;rw[hs]
   subst Ri;exact⟨bm,ns,nm,qn,bs,hd,sn,sub,ab,col,dd,k0,k1,k2,k3,k5,_,X _ _ ho, .of_isNs (isNs_of_in X bX),nsMap_none_of_in X bX Pn,tail_of_in X ht⟩
  ·cases q
 ·cases q
section
variable{X:Cx}{x:Str}{np eF pos:Pos}{e:Expr}{es:List Expr}{t:TA}{C:Addr}{E:St→XK}
def Kb(C:Addr)(E:St→XK)(t:TA):TS:=fun _ σ H=>t σ H fun vs H1=>vs.length≤sizeLine∧E σ (.ref C) none H1
theorem iZ(hX:Pk X E)(hc:X.calm=true)(hg:Gl X x)(hm:X.mg x=some (.ref C))(c:Nw X.K C)(ha:PA X (e::es) t)(v8:(x==("__debug__":Str))=false:=by decide)
  (he:starEach (e::es) X.env=(false,eval e X.env)::starEach es X.env:=by rfl) (rf:(backTo eF (starEach es X.env)).any (·.1)=false:=by rfl):
  PS X (.Raise (some (.Call (.Name x np) (e::es) [] eF)) none pos) (Kb C E t):=by
 intro pins s σ H D I h;obtain⟨bm,N,nm,qn,bs,hdct,sn,sub,ab,col,dd,k0,k1,k2,k3,k5,mN,hC,hN,Pn,T⟩:=GG I.ok.mod.LQ c.ex;refine wpAny_Raise_call_subT (C:=C) (nm:=nm) (q:=qn) (N:=N) (bs:=bs) (bm:=bm) (hdct:=hdct) (sn:=sn) (sub:=sub) (ab:=ab) (col:=col) (dd:=dd) (k0:=k0) (k1:=k1) (k2:=k2) (k3:=k3) (k5:=k5)
  F.excBase_ValueError (mN:=mN) (T.hasType F.excBase_ValueError.hasBase) (I.ok.hd hc) (by rw[he];show(false||(backTo eF (starEach es X.env)).any (·.1))=false;rw[rf];rfl) Pn (n_ I hg hm ⟨rfl,?_⟩ v8)
 have hq:=cK (ha eF pins s σ H _ I h) fun us s2 ⟨vs,H2,I2,r2,q2⟩=>show us.length≤sizeLine∧(∀b o,X.base.get? b=some o→s2.heap.get? b=some o)∧∀h' e,Heap.MadeExcOf s2.heap h' e (.ref C) us→X.xe (.ref e) {s2 with heap:=h'}from
  ⟨by rw[←r2.length];exact q2.1,I2.bk,fun h' e hx=>hX.raise pins σ H2 s2 h' e (.ref C) us I2 hx q2.2⟩
 rw[he]at hq⊢;exact evalArgs_plain (wpAny_mono hq (fun vs s2 h2=>⟨rfl,h2.1,h2.2.1 _ _ hC,hN.keeps h2.2.1,T.keeps h2.2.1,h2.2.2⟩) fun _ _ y=>y)
end
section
variable{X:Cx}{e v1 v2:Expr}{es:List Expr}{te:TE}{pos:Pos}
def Rj(te:TE):TE:=fun σ H Q=>te σ H fun x H1=>(∃y,x= .str y∧y.length≤sizeLine∧Q (.str y) H1)∨∃i:Int,x= .int i∧i.natAbs.log2<1920∧Q (.str (toString i)) H1
theorem qg(h:PE X e te):PE X (.FormattedValue e (-1) none pos) (Rj te):=by
 intro pins s σ H Q I hq;refine FormattedValue_plain (cK (h pins s σ H _ I hq) fun u s1 ⟨x,H1,I1,r1,q1⟩=>?_);rcases q1 with⟨y,rfl,hy,q⟩|⟨i,rfl,hi,q⟩
 ·obtain⟨t,rfl⟩:=r1;exact formatField_str (fun t' tk=>⟨.str y,H1,I1.tok _,⟨_,rfl⟩,q⟩) hy
 ·obtain⟨t,rfl⟩:=r1;exact formatField_int_small hi ⟨.str (toString i),H1,I1.tok _,⟨_,rfl⟩,q⟩
abbrev TJ:=Str→TE
def PJ(X:Cx)(es:List Expr)(t:TJ):Prop:=
 ∀(acc:Str)(pins:List (Addr×Obj))(s:Shared)(σ:St)(H:Hp)(Q:VK),Inv X pins σ H s→t acc σ H Q→wpAny (model X.prog X.w) X.A (joinParts acc (evalEach es X.env)) (EP X pins σ Q) X.xe s
def Ny:TJ:=fun acc _ H Q=>acc.length≤sizeLine∧Q (.str acc) H
def Kc(te:TE)(t:TJ):TJ:=fun acc σ H Q=>te σ H fun x H1=>∃y,x= .str y∧(acc++y).length≤sizeLine∧t (acc++y) σ H1 Q
theorem wm:PJ X [] Ny:=fun acc _ s σ H Q I h=>joinParts_nil ⟨.str acc,H,I.tok _,⟨_,rfl⟩,h.2⟩ h.1
theorem fz{t:TJ}(h1:PE X e te)(h2:PJ X es t):PJ X (e::es) (Kc te t):=by
 intro acc pins s σ H Q I h;refine joinParts_cons (cK (h1 pins s σ H _ I h) fun u s1 ⟨x,H1,I1,r1,y,e,hl,q⟩=>?_);subst e;obtain⟨tk,rfl⟩:=r1;exact⟨hl,h2 _ pins s1 σ H1 Q I1 q⟩
theorem l7{t:TJ}(h:PJ X (v1::v2::es) t):PE X (.JoinedStr (v1::v2::es) pos) (t Str.empty):=fun pins s σ H Q I hq=>JoinedStr_many (h Str.empty pins s σ H Q I hq)
end
abbrev Cx.Nz(X:Cx)(e:Addr):Cx:={X with A:=X.A.mark (some (.ref e)),calm:=false,xe:=fun _ _=>False}
section
variable{X:Cx}{pins:List (Addr×Obj)}{σ:St}{H:Hp}{s:Shared}{ea C:Addr}{B:Heap}{a0:Value}
end
abbrev TH:=Addr→TS
def Ends.drop(D:Ends)(i:Nat):Ends:={nx:=fun σ H=>D.nx (σ.set i none) H,rt:=D.rt,bk:=fun σ H=>D.bk (σ.set i none) H,ct:=fun σ H=>D.ct (σ.set i none) H}
section
variable{X:Cx}{x n:Str}{np pos:Pos}{b0:Stmt}{Nz:List Stmt}{rest:List ExceptHandler}{ts:TS}{tr:TH}{Dc:Addr}{i:Nat}
end
def fM(env:Env):List (Str×NameKind)→List (Str×Addr)→List (Str×Addr)
 |[],acc=>acc
 |(n,k)::r,acc=>if k= .free then fM env r ((n,(env.cells.lookup n).getD 0)::acc)else fM env r acc
theorem wt{env:Env}{scope:Scope}(h:∀x∈scope.names,x.2= .free→∃c,env.cells.lookup x.1=some c):closureFor scope env=pure (fM env scope.names []):=by
 unfold closureFor
 suffices H:∀(l:List (Str×NameKind))(acc:List (Str×Addr)),(∀x∈l,x.2= .free→∃c,env.cells.lookup x.1=some c)→
   (forIn l acc fun(x:Str×NameKind)(cs:List (Str×Addr))=>if (x.2==NameKind.free)=true then do let c←cellOf env x.1;pure (ForInStep.yield ((x.1,c)::cs))else pure (ForInStep.yield cs):Sem (List (Str×Addr)))=pure (fM env l acc) by
  have:=H scope.names [] h;simpa using this
 intro l
 induction l with
 |nil=>intro acc _;rfl
 |cons x r ih=>
  intro acc hl;obtain⟨n,k⟩:=x;rw[List.forIn_cons];by_cases hk:k= .free
  ·subst hk;obtain⟨c,hc⟩:=hl (n, .free) List.mem_cons_self rfl;have JF:env.cells.lookup n=some c:=hc;simp only[beq_self_eq_true,if_true,cellOf,JF,fM,Option.getD_some];show(pure _>>=_)=_;rw[pure_bind];exact ih _ fun y hy=>hl y (List.mem_cons_of_mem _ hy)
  ·have hb:(k==NameKind.free)=false:=by simpa using hk
   simp only[hb,Bool.false_eq_true,if_false,fM,hk];rw[pure_bind];exact ih _ fun y hy=>hl y (List.mem_cons_of_mem _ hy)
theorem jY{env:Env}{x:Str}{c:Addr}:∀{l:List (Str×NameKind)}{acc:List (Str×Addr)},(∀y∈l,y.2= .free→∃c,env.cells.lookup y.1=some c)→
  (∀y d,acc.lookup y=some d→env.cells.lookup y=some d)→(fM env l acc).lookup x=some c→env.cells.lookup x=some c
 |[],acc,_,ha,h=>ha x c h
 |(n,k)::r,acc,hl,ha,h=>by
  unfold fM at h;have hr:∀y∈r,y.2= .free→∃c,env.cells.lookup y.1=some c:=fun y hy=>hl y (List.mem_cons_of_mem _ hy)
  split at h
  ·rename_i hk
   obtain⟨d,hd⟩:=hl (n,k) List.mem_cons_self hk;refine jY hr (fun y e he=>?_) h;rw[List.lookup_cons]at he;split at he
   ·rename_i q
    have q':y=n:=by simpa using q
    subst q';have LR:env.cells.lookup y=some d:=hd;rw[LR,Option.getD_some]at he;cases he;exact LR
   ·exact ha y e he
  ·exact jY hr ha h
theorem oz{env:Env}{x:Str}:∀{l:List (Str×NameKind)}{acc:List (Str×Addr)},((x,NameKind.free)∈l∨∃c,acc.lookup x=some c)→∃c,(fM env l acc).lookup x=some c
 |[],acc,h=>by
  rcases h with h|h
  ·simp at h
  ·exact h
 |(n,k)::r,acc,h=>by
  unfold fM;split
  ·rename_i hk
   refine oz ?_;rcases h with h|⟨c,h⟩
   ·rcases List.mem_cons.mp h with e|e
    ·injection e with e1 e2;subst e1;exact .inr ⟨(env.cells.lookup x).getD 0,by simp[List.lookup_cons]⟩
    ·exact .inl e
   ·by_cases q:x=n
    ·subst q;exact .inr ⟨(env.cells.lookup x).getD 0,by simp[List.lookup_cons]⟩
    ·refine .inr ⟨c,?_⟩;rw[List.lookup_cons];have:(x==n)=false:=by simpa using q
     rw[this];exact h
  ·rename_i hk
   refine oz ?_;rcases h with h|h
   ·rcases List.mem_cons.mp h with e|e
    ·injection e with e1 e2;exact absurd e2.symm hk
    ·exact .inl e
   ·exact .inr h
theorem oA{env:Env}{x:Str}:∀{names:List (Str×NameKind)},names.lookup x=some .free→
  (names.map fun(n,k)=>if (k==NameKind.free&&env.scope.kind== .function&&env.kindOf n==some .cell)then(n,NameKind.cell)else(n,k)).lookup x=some .cell∨
  (names.map fun(n,k)=>if (k==NameKind.free&&env.scope.kind== .function&&env.kindOf n==some .cell)then(n,NameKind.cell)else(n,k)).lookup x=some .free
 |[],h=>by simp at h
 |(n,k)::r,h=>by
  have ih:=@oA env x r;show List.lookup x ((if (k==NameKind.free&&env.scope.kind== .function&&env.kindOf n==some .cell)=true then(n,NameKind.cell)else(n,k))::_)=_∨List.lookup x ((if (k==NameKind.free&&env.scope.kind== .function&&env.kindOf n==some .cell)=true then(n,NameKind.cell)else(n,k))::_)=_;rw[List.lookup_cons]at h;by_cases hc:(k==NameKind.free&&env.scope.kind== .function&&env.kindOf n==some .cell)=true
  ·rw[Zk hc,List.lookup_cons];cases hx:x==n with
   |true=>exact .inl rfl
   |false=>rw[hx]at h;exact ih h
  ·rw[Zh hc,List.lookup_cons];cases hx:x==n with
   |true=>rw[hx]at h;exact .inr h
   |false=>rw[hx]at h;exact ih h
theorem oB{env:Env}{x:Str}:∀{names:List (Str×NameKind)},(∀y∈names,y.2≠ .cell)→
  ((names.map fun(n,k)=>if (k==NameKind.free&&env.scope.kind== .function&&env.kindOf n==some .cell)then(n,NameKind.cell)else(n,k)).lookup x=some .cell∨
  (names.map fun(n,k)=>if (k==NameKind.free&&env.scope.kind== .function&&env.kindOf n==some .cell)then(n,NameKind.cell)else(n,k)).lookup x=some .free)→(x,NameKind.free)∈names
 |[],_,h=>by simp at h
 |(n,k)::r,hc,h=>by
  have ih:=@oB env x r fun y hy=>hc y (List.mem_cons_of_mem _ hy)
  have h2:List.lookup x ((if (k==NameKind.free&&env.scope.kind== .function&&env.kindOf n==some .cell)=true then(n,NameKind.cell)else(n,k))::_)=_∨List.lookup x ((if (k==NameKind.free&&env.scope.kind== .function&&env.kindOf n==some .cell)=true then(n,NameKind.cell)else(n,k))::_)=_:=h;clear h;by_cases hq:(k==NameKind.free&&env.scope.kind== .function&&env.kindOf n==some .cell)=true
  ·rw[Zk hq,List.lookup_cons]at h2;cases hx:x==n with
   |true=>
    have e:x=n:=by simpa using hx
    subst e;have hk:k= .free:=by
     rw[Bool.and_eq_true,Bool.and_eq_true]at hq;simpa using hq.1.1
    subst hk;exact List.mem_cons_self
   |false=>rw[hx]at h2;exact List.mem_cons_of_mem _ (ih h2)
  ·rw[Zh hq,List.lookup_cons]at h2;cases hx:x==n with
   |true=>
    rw[hx]at h2;have e:x=n:=by simpa using hx
    subst e;rcases h2 with h|h
    ·have h':some k=some NameKind.cell:=h;exact absurd (Zp h') (hc (x,k) List.mem_cons_self)
    ·have h':some k=some NameKind.free:=h;rw[Zp h'];exact List.mem_cons_self
   |false=>rw[hx]at h2;exact List.mem_cons_of_mem _ (ih h2)
def fZ(X:Cx)(scope:Scope)(N:List Str)(dB:Shared)(eW:Hp)(C:Addr)(fp:List Addr)(pn:List (Addr×Obj)):Cx:=
 {X with N:=N,dB:=dB,eW:=eW,env:=compEnvC scope (fM X.env scope.names []) C X.env,outer:=X.stack,ex:=fp,fn:=fun _=>false,pn:=pn,xe:=fun _ _=>False}
structure bD(N:List Str)(sc:Scope)(scope:Scope)(ls:List Str)(js:List Nat)(cs:List Str):Prop where
 kind:scope.kind= .function
 Ir:∀x∈scope.names,x.2≠ .cell
 names:∀x∈scope.names,x.2= .local→scope.names.lookup x.1=some .local
 loc:∀x∈ls,scope.names.lookup x=some .local
 at_:cs=js.filterMap (N[·]?)
 len:cs.length=js.length
 Rk:∀x∈cs,scope.names.lookup x=some .free∧(sc.names.lookup x=some .cell∨sc.names.lookup x=some .free)
 free:∀x∈scope.names,x.2= .free→(sc.names.lookup x.1=some .cell∨sc.names.lookup x.1=some .free)
 nd:(ls++cs).Nodup
section
variable{X:Cx}{pins:List (Addr×Obj)}{σ:St}{H:Hp}{s:Shared}{scope:Scope}{ls cs:List Str}{js:List Nat}{fp:List Addr}
theorem bD.has(S:bD X.N X.env.scope scope ls js cs)(ok:X.Ok):∀x∈scope.names,x.2= .free→∃c,X.env.cells.lookup x.1=some c:=fun x hx hf=>ok.has x.1 (S.free x hx hf)
def lu(ls:List Str)(js:List Nat)(σ:St):St:=ls.map (fun _=>none)++js.map fun j=>(σ[j]?).join
theorem GH(S:bD X.N X.env.scope scope ls js cs)(I:Inv X pins σ H s)(hf:∀b∈fp,iq X pins H b)(hl:∀b∈fp,b<s.heap.objs.size):(fZ X scope (ls++cs) s H s.heap.objs.size fp (X.pn++pins)).Ok:=by
 have sN:∀{x:Str}{c:Addr},(fM X.env scope.names []).lookup x=some c→X.env.cells.lookup x=some c:=fun{x c} h=>jY (S.has I.ok) (fun y d h=>by simp at h) h
 refine⟨I.ok.mod,S.kind,I.ok.glob,I.ok.blt,Nat.le_refl _,fun x y c h1 h2=>I.ok.inj x y c (sN h1) (sN h2),fun x h=>oz (.inl (oB S.Ir h)),(fun x c h=>Bool.noConfusion (show false=true from h)),I.ok.hd,I.ok.frames, .inl rfl,fun b hb=>⟨Nat.ne_of_lt (hl b hb),fun x c h=>(hf b hb).2.2.2.2.1 x c (sN h)⟩,
  I.bs,Nat.le_trans I.ok.JB I.sz,fun b o e hb=>?_,fun b hb hm=>?_,I.stack,I.vX⟩
 ·rcases(hf b hb).2.2.2.1 with z|z
  ·exact I.ok.JC b o e z
  ·exact absurd (Nat.lt_of_lt_of_le (Heap.lt_size e) I.ok.JB) (Nat.not_lt.mpr z)
 ·rcases List.mem_cons.mp (I.sE b hm)with z|z
  ·exact(hf b hb).2.1 z
  ·exact(hf b hb).2.2.1 z
theorem Ea{h1:Heap}{m:Str→Option Value}(S:bD X.N X.env.scope scope ls js cs)(I:Inv X pins σ H s)(hf:∀b∈fp,iq X pins H b)(hl:∀b∈fp,b<s.heap.objs.size)
  (hn:h1.Ns s.heap.objs.size m) (hk:∀b o,s.heap.get? b=some o→h1.get? b=some o):
  Inv (fZ X scope (ls++cs) s H s.heap.objs.size fp (X.pn++pins)) [] (lu ls js σ) H {s with heap:=h1}:=by
 have sN:∀{x:Str}{c:Addr},(fM X.env scope.names []).lookup x=some c→X.env.cells.lookup x=some c:=fun{x c} h=>jY (S.has I.ok) (fun y d h=>by simp at h) h
 have len:(lu ls js σ).length=(ls++cs).length:=by
  unfold lu;rw[List.length_append,List.length_append,List.length_map,List.length_map,S.len]
 refine⟨GH S I hf hl,rfl,I.bare,Un.kept hk,⟨m,hn,fun i x v e1 e2 e3=>?_⟩,fun x c e=>?_,I.bX.fresh (Nat.le_refl _),fun x c e=>I.mL x c (sN e),fun p hp=>?_,I.bX.kept hk,len⟩
 ·have e1:(ls++cs)[i]?=some x:=e1;unfold lu at e2;by_cases hi:i<ls.length
  ·rw[List.getElem?_append_left (by simpa using hi),List.getElem?_map]at e2;cases q:ls[i]? with
   |none=>rw[q]at e2;cases e2
   |some y=>rw[q]at e2;cases e2
  ·have Bg:ls.length≤i:=Nat.not_lt.mp hi;rw[List.getElem?_append_right (by simpa using Bg),List.getElem?_map,List.length_map]at e2;rw[List.getElem?_append_right Bg]at e1;obtain⟨Uc,wu⟩:=S.Rk x (Ze e1);cases q:js[i-ls.length]? with
   |none=>rw[q]at e2;cases e2
   |some j=>
    rw[q]at e2;have e2:(σ[j]?).join=some v:=Zp e2;have eN:X.N[j]?=some x:=by
     have aux:∀(js:List Nat)(cs:List Str)(i:Nat),cs=js.filterMap (X.N[·]?)→cs.length=js.length→∀j x,js[i]?=some j→cs[i]?=some x→X.N[j]?=some x:=by
      intro js
      induction js with
      |nil=>intro cs i _ _ j x hj _;simp at hj
      |cons a r ih=>
       intro cs i he hl j x hj hx;rw[List.filterMap_cons]at he;cases qa:X.N[a]? with
       |none=>
        rw[qa]at he;have hle:=List.length_filterMap_le (X.N[·]?) r;simp only at he;rw[he,List.length_cons]at hl;omega
       |some y=>
        rw[qa]at he;simp only at he;subst he;cases i with
        |zero=>
         simp at hj hx;subst hj hx;exact qa
        |succ i=>exact ih _ i rfl (by simpa using hl) j x (by simpa using hj) (by simpa using hx)
     exact aux js cs _ S.at_ S.len j x q e1
    obtain⟨mX,_,V5⟩:=I.loc;have V6:σ[j]?=some (some v):=by
     cases z:σ[j]? with
     |none=>rw[z]at e2;cases e2
     |some w=>rw[z]at e2;rw[show w=some v from e2]
    obtain⟨u,r,l⟩:=V5 j x v eN V6 (wu.elim (fun z=> .inr (.inl z)) fun z=> .inr (.inr z));refine⟨u,r,?_⟩;rcases l with⟨z,_⟩|⟨_,c,z1,o,z2,z3⟩
    ·have z:X.env.scope.names.lookup x=some .local:=z;rcases wu with w|w<;>(rw[z]at w;cases w)
    ·refine .inr ⟨oA Uc,c,?_,o,hk c o z2,z3⟩;obtain⟨c',JF⟩:=oz (env:=X.env) (l:=scope.names) (acc:=[]) (x:=x) (.inl (PySem.mem_of_lookup Uc));have:=sN JF;rw[z1]at this;cases this;exact JF
 ·obtain⟨v,o,z1,z2⟩:=I.cell x c (sN e);exact⟨v,o,hk c o z1,z2⟩
 ·have hp:p∈X.pn++pins:=by simpa[fZ]using hp
  obtain⟨e,n,ne,nf,d⟩:=I.pin p hp;refine⟨hk _ _ e,n,Nat.ne_of_lt (Heap.lt_size e),fun hm=>?_,d⟩;rcases List.mem_cons.mp (I.sE p.1 hm)with z|z
  ·exact ne z
  ·exact nf z
end
section
variable{prog:Program}{w:World}{A:Around}{R:Result→Shared→Prop}{s:Shared}
theorem wA{elt target iter:Expr}{ifs:List Expr}{scope:Scope}{pos:Pos}{it acc:Value}{env:Env}(L:Nat→Shared→Prop)
  (turn:∀n s,L n s→wpAny (model prog w) A (pyNext it) (fun r cj=>match r with
   |none=>R (.ok .next) cj
   |some v=>wpAny (model prog w) A (letOwnedTupleGo target it v) (fun _ Iu=>wpAny (model prog w) A (assign target env v) (fun _ p9=>
     wpAny (model prog w) A (forIn ifs true fun c r=>if r=true then do let ok←isTrue c env (eval c env);pure (ForInStep.yield ok)else pure (ForInStep.yield r)) (fun ok Cj=>
      if ok=true then wpAny (model prog w) A (eval elt env) (fun x NA=>
       wpAny (model prog w) A (call (.builtin "list.append") [acc,x]) (fun _ NB=>∃m,m<n∧L m NB) (fun _ _=>False) NA) (fun _ _=>False) Cj
      else ∃m,m<n∧L m Cj) (fun _ _=>False) p9) (fun _ _=>False) Iu) (fun _ _=>False) cj) (fun _ _=>False) s)
  (n:Nat) (h:L n s):codeAny (model prog w) A (.compLoop (.ListComp elt [⟨target,iter,ifs,0⟩] scope pos) 0 it acc env) R s:=by
 refine codeAny_loop rfl L (fun n s hI=>?_) n h;show wpAny _ A ((compTurn (.ListComp elt [⟨target,iter,ifs,0⟩] scope pos) 0 it acc env).onRaise (fun x=>do noteFrame x env;theTreesLotGoes x)) _ _ s;refine wpAny_noted ?_;rw[compTurn_list];refine wpAny_mono (E:=fun _ _=>False) ?_ (fun _ _ q=>q) fun _ _ z=>False.elim z
 refine wpAny_bind (wpAny_standAt (wpAny_bind (wpAny_mono (turn n s hI) (fun r cj Ci=>?_) fun _ _ h'=>h')));cases r with
 |none=>exact wpAny_pure Ci
 |some v=>
  refine wpAny_bind (wpAny_mono Ci (fun _ Iu Ci=>?_) fun _ _ h'=>h');refine wpAny_bind (wpAny_mono Ci (fun _ p9 DT=>wpAny_bind (wpAny_mono DT (fun ok Cj Gs=>?_) fun _ _ h'=>h')) fun _ _ h'=>h');cases ok with
  |false=>exact wpAny_pure ⟨rfl,Gs⟩
  |true=>
   exact wpAny_bind (wpAny_bind (wpAny_mono Gs (fun x NA Rl=>wpAny_bind (wpAny_mono Rl (fun _ NB Ro=>wpAny_pure (wpAny_pure ⟨rfl,Ro⟩)) fun _ _ h'=>h')) fun _ _ h'=>h'))
end
def NC(X:Cx)(ifs:List Expr)(t:TT):Prop:=
 ∀(pins:List (Addr×Obj))(s:Shared)(σ:St)(H:Hp)(Q:Bool→Hp→Prop),Inv X pins σ H s→t σ H Q→
  wpAny (model X.prog X.w) X.A (forIn ifs true fun c r=>if r=true then do let ok←isTrue c X.env (eval c X.env);pure (ForInStep.yield ok)else pure (ForInStep.yield r)) (TP X pins σ Q) X.xe s
def Kd:TT:=fun _ H Q=>Q true H
theorem iF{X:Cx}:NC X [] Kd:=fun _ _ _ H _ I h=>wpAny_tests_nil ⟨H,I,h⟩
theorem Bh{X:Cx}{c:Expr}{t:TT}(h:PT X c t):NC X [c] t:=fun pins s σ H Q I hq=>wpAny_tests_one (h pins s σ H Q I hq)
def sO(J:It)(ls:List Str)(js:List Nat)(g:TG)(tt:TT)(te:TE)(σ:St)(H1:Hp)(D:Addr)(Q:VK):Prop:=
 ∃W:Nat→Nat→List V→St→Hp→Prop,(∃m,W 0 m [] (lu ls js σ) (upd H1 D (.lst [])))∧∀i m ys bH H',W i m ys bH H'→
 (J.stop i H'∧Q (.ref D) H')∨(J.go i H'∧∃N:List V→St→Hp→Prop,(∀Iv fV H2,N Iv fV H2→∃m',m'<m∧W (i+1) m' Iv fV H2)∧∀x H2,J.Gb i H' x H2→g x bH H2 fun fV H3=>tt fV H3 fun b H4=>
  if b=true then te fV H4 fun y H5=>H5 D=some (.lst ys)∧ys.length<sizeLine∧N (ys++[y]) fV (upd H5 D (.lst (ys++[y])))else N ys fV H4)
def Eb(wi:TI)(ls:List Str)(js:List Nat)(g:TG)(tt:TT)(te:TE):TE:=fun σ H Q=>wi σ H fun J H1=>∀D,H1 D=none→sO J ls js g tt te σ H1 D Q
section
variable{X:Cx}{tg iter elt:Expr}{ifs:List Expr}{scope:Scope}{pos:Pos}{wi:TI}{g:TG}{tt:TT}{te:TE}{ls cs:List Str}{js:List Nat}
theorem vB{pins:List (Addr×Obj)}{s:Shared}{σ:St}{H:Hp}{Q:VK}{use:Option (Value→Sem Unit)}{QQ:Value→Shared→Prop}(hc:X.calm=true)(S:bD X.N X.env.scope scope ls js cs)(hi:PI X tg iter wi)
  (hg:∀dB eW C fp pn,PG (fZ X scope (ls++cs) dB eW C fp pn) tg g) (ht:∀dB eW C fp pn,NC (fZ X scope (ls++cs) dB eW C fp pn) ifs tt) (he:∀dB eW C fp pn,PE (fZ X scope (ls++cs) dB eW C fp pn) elt te)
  (I:Inv X pins σ H s) (h:Eb wi ls js g tt te σ H Q)
  (Rp:∀(D C:Addr)(H':Hp)(s':Shared)(m:Str→Option Value),Inv X pins σ H' s'→Q (.ref D) H'→s'.heap.Ns C m→iq X pins H' C→compPost (model X.prog X.w) X.A X.xe use QQ (.ref D) C (.ok .next) s')
  (hs:∀x,foldedSetIterable iter X.env x=pure x:=by intro _;rfl):
  wpAny (model X.prog X.w) X.A (comprehension (.ListComp elt [⟨tg,iter,ifs,0⟩] scope pos) scope X.env (firstIterPos [⟨tg,iter,ifs,0⟩] pos) (newList []) false (eval iter X.env) use) QQ X.xe s:=by
 refine wpAny_comprehension_free rfl hs (wt (S.has I.ok)) S.kind S.names (cK (hi pins s σ H _ I h) fun v s1 h1=>cK h1 fun QS s2 h2=>?_);obtain⟨it,fp,tn,J,H2,rfl,I2,T,dQ,f2,hW⟩:=h2;have Ud:∀b∈fp,b<s2.heap.objs.size:=fun b hb=>by
  obtain⟨o,e,_⟩:=T.obj 0 _ dQ b hb;exact Heap.lt_size e
 refine wpAny_newObj_type ?_;have hD:H2 s2.heap.objs.size=none:=I2.bX.fresh (Nat.le_refl _);obtain⟨W,⟨m0,w0⟩,turn⟩:=hW _ hD;have I3:Inv X pins σ (upd H2 s2.heap.objs.size (.lst [])) {s2 with heap:=s2.heap.push {cls:= .type "list",dict:=none,data:= .seq ([]:List Value).toArray}}:=
  I2.laid (t':=s2.toks) (fun b u e=>Zi e) (Nat.le_refl _) ⟨Nat.zero_le _,[],0, .nil,Heap.get?_push_size _ rfl⟩
 have f3:∀b∈fp,iq X pins (upd H2 s2.heap.objs.size (.lst [])) b:=fun b hb=>⟨by rw[ao (Nat.ne_of_lt (Ud b hb))];exact(f2 b hb).1,(f2 b hb).2⟩
 generalize Yq:upd H2 s2.heap.objs.size (.lst [])=H3 at I3 f3 w0;generalize ND:({s2 with heap:=s2.heap.push {cls:= .type "list",dict:=none,data:= .seq ([]:List Value).toArray}}:Shared)=s3 at I3;have Ue:∀b∈fp,b<s3.heap.objs.size:=fun b hb=>by
  rw[←ND];show b<(s2.heap.push _).objs.size;rw[Heap.size_push];exact Nat.lt_succ_of_lt (Ud b hb)
 have DJ:tn 0 s3.heap:=T.keep 0 _ _ dQ fun b hb o e=>by rw[←ND];exact Zi e
 refine wpAny_newFunctionEnv S.Ir (by intro y hy;simp at hy) (fun h4 Ph NG=>?_) S.kind;have k4:∀b o,s3.heap.get? b=some o→h4.get? b=some o:=fun b o e=>NG.extBut b o (Nat.ne_of_lt (Heap.lt_size e)) (Zi e)
 have I4:=Ea (h1:=h4) S I3 f3 Ue Ph k4;have V7:=I4.tok (s3.toks+([]:List (Str×Value)).length);have Po:tn 0 h4:=T.keep 0 _ _ DJ fun b hb o e=>k4 b o e
 show codeAny (model X.prog X.w) X.A (.compStart (.ListComp elt [⟨tg,iter,ifs,0⟩] scope pos) 0 (.ref it) (.ref s2.heap.objs.size) (compEnvC scope (fM X.env scope.names []) s3.heap.objs.size X.env)) (compPost (model X.prog X.w) X.A X.xe use QQ (.ref s2.heap.objs.size) s3.heap.objs.size) _;have zH:∀{H':Hp},(∀b∈fp,H' b=none)→∀b∈fp,iq (fZ X scope (ls++cs) s3 H3 s3.heap.objs.size fp (X.pn++pins)) [] H' b:=fun{H'} hn b hb=>by
  obtain⟨q1,q2,q3,q4,q5,q6⟩:=f3 b hb;refine⟨hn b hb,Nat.ne_of_lt (Ue b hb),fun hm=>?_, .inl hb,fun x c e=>q5 x c (jY (S.has I.ok) (fun y d z=>by simp at z) e),fun p hp=>q6 p (by simpa[fZ]using hp)⟩;rcases List.mem_cons.mp (I3.sE b hm)with z|z
  ·exact q2 z
  ·exact q3 z
 have loop:codeAny (model X.prog X.w) X.A (.compLoop (.ListComp elt [⟨tg,iter,ifs,0⟩] scope pos) 0 (.ref it) (.ref s2.heap.objs.size) (compEnvC scope (fM X.env scope.names []) s3.heap.objs.size X.env)) (compPost (model X.prog X.w) X.A X.xe use QQ (.ref s2.heap.objs.size) s3.heap.objs.size)
   {s3 with heap:=h4,toks:=s3.toks+([]:List (Str×Value)).length}:=by
  refine wA (fun n s'=>∃i bH H',Inv (fZ X scope (ls++cs) s3 H3 s3.heap.objs.size fp (X.pn++pins)) [] bH H' s'∧tn i s'.heap∧(∀b∈fp,H' b=none)∧∃ys,W i n ys bH H') ?_ m0 ⟨0,_,_,V7,Po,fun b hb=>(f3 b hb).1,[],w0⟩;rintro n s5 ⟨i,Pp,H5,I5,LW,Pc,ys,w5⟩;rcases turn i n ys Pp H5 w5 with⟨stop,qn⟩|⟨go,N,hN,step⟩
  ·refine cK (T.done (fZ X scope (ls++cs) s3 H3 s3.heap.objs.size fp (X.pn++pins)) rfl rfl rfl hc i [] s5 Pp H5 (fun _ _=>False) I5 (zH Pc) LW stop) fun r s6 ⟨hr,I6⟩=>?_
   subst hr;obtain⟨m,hm,_⟩:=id I6.loc;have un:Un (n5 X.stack) fp H3 H5 s3.heap s6.heap:=I6.base;have I7:Inv X pins σ H5 s6:=I3.MQ (ch:=fp) I6.os un I6.bX I6.bare fun b hb=>by
    obtain⟨q1,q2,q3,q4,q5,q6⟩:=f3 b hb;exact⟨q4,q2,q5,q6⟩
   have fc:iq X pins H5 s3.heap.objs.size:=I3.uy (Nat.le_refl _) I6.free;exact Rp _ _ H5 s6 m I7 qn hm fc
  ·refine cK (T.item (fZ X scope (ls++cs) s3 H3 s3.heap.objs.size fp (X.pn++pins)) rfl rfl rfl hc i [] s5 Pp H5 (fun _ _=>False) I5 (zH Pc) LW go) fun r s6 ⟨u,hr,h6⟩=>?_
   subst hr;refine cK h6 fun _ s7 ⟨x,H7,I7,r7,y7,Rq,V8⟩=>?_
   have V9:=I7.pinned (zH V8) (T.obj _ _ Rq);refine cK (hg _ _ _ _ _ _ s7 Pp H7 x u _ V9 r7 (step x H7 y7)) fun _ s8 ⟨Pq,H8,I8,q8⟩=>?_
   refine cK (ht _ _ _ _ _ _ s8 Pq H8 _ I8 q8) fun b s9 ⟨H9,I9,q9⟩=>?_
   have again:∀{Iv:List V}{bH:St}{H':Hp}{s':Shared},Inv (fZ X scope (ls++cs) s3 H3 s3.heap.objs.size fp (X.pn++pins)) ([]++sG fp s7.heap) bH H' s'→N Iv bH H'→
     ∃m,m<n∧∃i bH H',Inv (fZ X scope (ls++cs) s3 H3 s3.heap.objs.size fp (X.pn++pins)) [] bH H' s'∧tn i s'.heap∧(∀b∈fp,H' b=none)∧∃ys,W i m ys bH H':=fun{Iv bH H' s'} I' n'=>by
    obtain⟨m',Iw,w'⟩:=hN Iv bH H' n';refine⟨m',Iw,i+1,bH,H',I'.lp,T.keep _ _ _ Rq fun b hb o e=>(I'.pin (b,o) (List.mem_append_right _ (List.mem_append_right _ (gN hb e)))).1,fun b hb=>?_,Iv,w'⟩;obtain⟨o,e,d⟩:=T.obj _ _ Rq b hb;exact(I'.pin (b,o) (List.mem_append_right _ (List.mem_append_right _ (gN hb e)))).2.1
   cases b with
   |false=>exact again I9 q9
   |true=>
    refine cK (he _ _ _ _ _ _ s9 Pq H9 _ I9 q9) fun u2 V_ ⟨y,Pt,V',Wa,Wb,hz,Wc⟩=>?_
    refine cK (bC _ V_ Pq Pt (.ref s2.heap.objs.size) [y] (.ref s2.heap.objs.size) [u2] (fun _ H'=>N (ys++[y]) Pq H') V' rfl (.cons Wa .nil) ⟨_,ys,y,rfl,rfl,Wb,hz,Wc⟩) fun _ Yr ⟨_,Ys,Wd,_,We⟩=>?_
    exact again Wd We
 exact codeAny_compStart_list loop (T.self _ 0 _ _ _ Po loop)
theorem l8(hc:X.calm=true)(S:bD X.N X.env.scope scope ls js cs)(hi:PI X tg iter wi)
  (hg:∀dB eW C fp pn,PG (fZ X scope (ls++cs) dB eW C fp pn) tg g) (ht:∀dB eW C fp pn,NC (fZ X scope (ls++cs) dB eW C fp pn) ifs tt) (he:∀dB eW C fp pn,PE (fZ X scope (ls++cs) dB eW C fp pn) elt te)
  (hs:∀x,foldedSetIterable iter X.env x=pure x:=by intro _;rfl):PE X (.ListComp elt [⟨tg,iter,ifs,0⟩] scope pos) (Eb wi ls js g tt te):=by
 intro pins s σ H Q I h;rw[eval_ListComp];refine vB (use:=none) hc S hi hg ht he I h (fun D C H' s' m I' q hm fc=>⟨m,hm,fun h' NG=>?_⟩) hs;obtain⟨q1,q2,q3,q4,q5,q6⟩:=fc;exact⟨.ref D,H',I'.turned (t':=s'.toks) (fun b o hb e=>NG.extBut b o hb e) q1 (Ne.symm (Ne.symm q2)) q4 q5 q6,rfl,q⟩
theorem oC{x:Str}{i:Nat}{pos' NH:Pos}(hc:X.calm=true)(hN:X.N.Nodup)(Bg:X.N[i]?=some x)(hx:X.env.scope.names.lookup x=some .local)(S:bD X.N X.env.scope scope ls js cs)(hi:PI X tg iter wi)
  (hg:∀dB eW C fp pn,PG (fZ X scope (ls++cs) dB eW C fp pn) tg g) (ht:∀dB eW C fp pn,NC (fZ X scope (ls++cs) dB eW C fp pn) ifs tt) (he:∀dB eW C fp pn,PE (fZ X scope (ls++cs) dB eW C fp pn) elt te)
  (Rr:swapsWith (.ListComp elt [⟨tg,iter,ifs,0⟩] scope pos) (some (.Name x pos')) NH.line X.env=pure true:=by rfl)
  (hs:∀x,foldedSetIterable iter X.env x=pure x:=by intro _;rfl):PS X (.Assign [.Name x pos'] (.ListComp elt [⟨tg,iter,ifs,0⟩] scope pos) NH) (JN (Eb wi ls js g tt te) (A3 i)):=by
 intro pins s σ H D I h;rw[exec_Assign_Name_used _ _ _ _ Rr];refine wpAny_bind (wpAny_standAt (wpAny_bind ?_));show wpAny _ X.A (do let _←comprehension (.ListComp elt [⟨tg,iter,ifs,0⟩] scope pos) scope X.env (firstIterPos [⟨tg,iter,ifs,0⟩] pos) (newList []) false (eval iter X.env) (some (assign (.Name x pos') X.env))) _ _ s;refine wpAny_bind (wpAny_mono (vB (use:=some (assign (.Name x pos') X.env)) (QQ:=fun _ s'=>SP X pins D .next s') hc S hi hg ht he I h (fun Dl C H' s' m I' q hm fc=>?_) hs) (fun _ s' hq=>wpAny_pure (wpAny_pure hq)) fun _ _ e=>e);show wpAny _ X.A (assign (.Name x pos') X.env (.ref Dl)) _ _ _;obtain⟨q1,q2,q3,q4,q5,q6⟩:=fc;refine wpAny_assign_Name (vh (v:= .ref Dl) I' hN Bg (.inl hx) rfl (fun s2 I2 ⟨a,NG,ha⟩=>?_) (.inr hx));have eV:C≠a:=by
  rcases ha with rfl|ha
  ·exact q2
  ·exact fun z=>q5 x a ha z.symm
 refine⟨m,hm.sameBut NG eV,fun h' Rt=>?_⟩;exact⟨_,H',I2.turned (t':=s2.toks) (fun b o hb e=>Rt.extBut b o hb e) q1 q2 q4 q5 q6,q⟩
end
def Pu(z:Str):It:=⟨fun i _=>i<z.length,fun i H x H'=>H'=H∧∃c,z.cps.toList[i]?=some c∧x= .str ⟨#[c]⟩,fun i _=>z.length≤i⟩
theorem Ec{P:Program}{w:World}{K:Frag}{tg:Expr}{it:Addr}{z:Str}{ty:String}{t:Tok}(Dq:ty="str_ascii_iterator"∨ty="str_iterator"):Turn P w K tg (Pu z) [it] it (fun i h=>h.IsStrIter it ty z t i) where
 mem:=ZA
 obj:=fun i h st b hb=>by
  have e:b=it:=by simpa using hb
  subst e;obtain⟨o,e,c,d⟩:=st;exact⟨o,e,fun v z=>by rw[d]at z;cases z⟩
 keep:=fun i h h' st k=>let ⟨o,ho,r⟩:=st;⟨o,k it (ZA) o ho,r⟩
 item:=by
  intro X hP hw hK hc i pins s σ H E I hf st hg;subst hP hw hK;obtain⟨f0,f1,f2,f3,f4,f5⟩:=hf it (ZA);have hg:i<z.cps.size:=hg;have key:∀h',h'.IsStrIter it ty z t (i+1)→Heap.SameBut it s.heap h'→∃u,some (Value.str ⟨#[z.cps[i]]⟩ s.toks)=some u∧
    wpAny (model X.prog X.w) X.A (letOwnedTupleGo tg (.ref it) u) (fun _ s2=>∃x H',Inv X pins σ H' s2∧RelV x u∧(Pu z).Gb i H x H'∧s2.heap.IsStrIter it ty z t (i+1)∧∀b∈[it],H' b=none) E {s with heap:=h',toks:=s.toks+1}:=fun h' aU sb=>by
   have I1:Inv X pins σ H {s with heap:=h',toks:=s.toks+1}:=I.turned (fun b o hb e=>(sb.2 b hb).trans e) f0 f1 f3 f4 f5;obtain⟨o,e,c,d⟩:=id aU;refine⟨_,rfl,yi (s:={s with heap:=h',toks:=s.toks+1}) e c d (by rcases Dq with rfl|rfl<;>decide) ⟨.str ⟨#[z.cps[i]]⟩,H,I1,⟨_,rfl⟩,⟨rfl,z.cps[i],by simp[hg],rfl⟩,aU,fun b hb=>(hf b hb).1⟩⟩
  rcases Dq with rfl|rfl
  ·exact wpAny_pyNext_ascii_item st (c:=z.cps[i]) (by simp[hg]) key
  ·exact wpAny_pyNext_wide_item st (c:=z.cps[i]) (by simp[hg]) key
 done:=by
  intro X hP hw hK hc i pins s σ H E I hf st hg;subst hP hw hK;obtain⟨f0,f1,f2,f3,f4,f5⟩:=hf it (ZA);have hg:z.cps.size≤i:=hg;rcases Dq with rfl|rfl
  ·exact wpAny_pyNext_ascii_end (I.ok.hd hc) st (by simp[hg]) fun h' eb=>⟨rfl,I.turned (t':=s.toks) (fun b o hb e=>eb b o hb e) f0 f1 f3 f4 f5⟩
  ·exact wpAny_pyNext_wide_end (I.ok.hd hc) st (by simp[hg]) fun h' eb=>⟨rfl,I.turned (t':=s.toks) (fun b o hb e=>eb b o hb e) f0 f1 f3 f4 f5⟩
 self:=fun _ _ _ _ _ st h=>by
  rcases Dq with rfl|rfl
  ·exact wpAny_pyIter_striter_ascii st h
  ·exact wpAny_pyIter_striter_wide st h
section
variable{X:Cx}{tg:Expr}
def Ru(tl:TE):TI:=fun σ H R=>tl σ H fun x H1=>∃z,x= .str z∧R (Pu z) H1
theorem Ke{l:Expr}{tl:TE}(hl:PE X l tl):PI X tg l (Ru tl):=by
 intro pins s σ H R I h;refine cK (hl pins s σ H _ I h) fun v s1 ⟨x,H1,I1,r1,q1⟩=>?_
 obtain⟨z,e,q⟩:=q1;subst e;obtain⟨t,rfl⟩:=r1;refine wpAny_pyIter_strU ?_;refine⟨s1.heap.objs.size,[s1.heap.objs.size],_,_,H1,rfl,I1.kept (t':=s1.toks) fun b o e=>Zi e,Ec (ty:=strIterType z) (t:=t) (by unfold strIterType;split<;>simp),⟨_,Heap.get?_push_size _ rfl,rfl,rfl⟩,fun b hb=>?_,q⟩;have e:b=s1.heap.objs.size:=by simpa using hb
 subst e;exact I1.uy (Nat.le_refl _) (I1.bX.fresh (Nat.le_refl _))
end
theorem oE{J:It}{n:Nat}{ls:List Str}{js:List Nat}{g:TG}{tt:TT}{te:TE}{σ:St}{H1:Hp}{D:Addr}{Q:VK}(Pv:Nat→List V→St→Hp→Prop)
  (h0:Pv 0 [] (lu ls js σ) (upd H1 D (.lst []))) (GI:∀i ys σ H,i<n→Pv i ys σ H→J.go i H) (vi:∀ys σ H,Pv n ys σ H→J.stop n H)
  (hs:∀i ys σ H x H2,i<n→Pv i ys σ H→J.Gb i H x H2→g x σ H2 fun fV H3=>tt fV H3 fun b H4=>if b=true then te fV H4 fun y H5=>H5 D=some (.lst ys)∧ys.length<sizeLine∧Pv (i+1) (ys++[y]) fV (upd H5 D (.lst (ys++[y])))else Pv (i+1) ys fV H4)
  (hd:∀ys σ H,Pv n ys σ H→Q (.ref D) H):
  sO J ls js g tt te σ H1 D Q:=by
 refine⟨fun i m ys σ H=>m=n-i∧i≤n∧Pv i ys σ H,⟨n,ZA,Nat.zero_le _,h0⟩,?_⟩;rintro i m ys σ H ⟨rfl,hi,p⟩;by_cases h_:i<n
 ·exact .inr ⟨GI i ys σ H h_ p,Pv (i+1),fun Iv fV H2 p'=>⟨n-(i+1),Zx,rfl,h_,p'⟩,fun x H2 y=>hs i ys σ H x H2 h_ p y⟩
 ·have e:i=n:=Zx;subst e;exact .inl ⟨vi ys σ H p,hd ys σ H p⟩
theorem jZ{K:Frag}{a:Addr}{xs:List V}{ls:List Str}{js:List Nat}{g:TG}{tt:TT}{te:TE}{σ:St}{H1:Hp}{D:Addr}{Q:VK}(Pv:Nat→List V→St→Hp→Prop)
  (h0:Pv 0 [] (lu ls js σ) (upd H1 D (.lst []))) (hl:∀i ys σ H,i≤xs.length→Pv i ys σ H→iA K H a xs)
  (hs:∀i x ys σ H,xs[i]?=some x→Pv i ys σ H→g x σ H fun fV H3=>tt fV H3 fun b H4=>if b=true then te fV H4 fun y H5=>H5 D=some (.lst ys)∧ys.length<sizeLine∧Pv (i+1) (ys++[y]) fV (upd H5 D (.lst (ys++[y])))else Pv (i+1) ys fV H4)
  (hd:∀ys σ H,Pv xs.length ys σ H→Q (.ref D) H):
  sO (LU K a) ls js g tt te σ H1 D Q:=
 oE (n:=xs.length) Pv h0 (fun i ys σ H hi p=>⟨xs,xs[i],hl i ys σ H (Nat.le_of_lt hi) p,by simp[hi]⟩) (fun ys σ H p=>⟨xs,hl _ ys σ H (Nat.le_refl _) p,Nat.le_refl _⟩)
  (fun i ys σ H x H2 hi p y=>by
   obtain⟨e,y⟩:=y;subst e;exact hs i x ys σ _ (y xs (hl i ys σ _ (Nat.le_of_lt hi) p)) p) hd
theorem sP{lo:Int}{n:Nat}{ls:List Str}{js:List Nat}{g:TG}{tt:TT}{te:TE}{σ:St}{H1:Hp}{D:Addr}{Q:VK}(Pv:Nat→List V→St→Hp→Prop)
  (h0:Pv 0 [] (lu ls js σ) (upd H1 D (.lst [])))
  (hs:∀i ys σ H,i<n→Pv i ys σ H→g (.int (lo+i)) σ H fun fV H3=>tt fV H3 fun b H4=>if b=true then te fV H4 fun y H5=>H5 D=some (.lst ys)∧ys.length<sizeLine∧Pv (i+1) (ys++[y]) fV (upd H5 D (.lst (ys++[y])))else Pv (i+1) ys fV H4)
  (hd:∀ys σ H,Pv n ys σ H→Q (.ref D) H):
  sO (JP lo n) ls js g tt te σ H1 D Q:=
 oE (n:=n) Pv h0 (fun i ys σ H hi p=>hi) (fun ys σ H p=>Nat.le_refl _)
  (fun i ys σ H x H2 hi p y=>by
   obtain⟨e,y⟩:=y;subst e y;exact hs i ys σ _ hi p) hd
theorem Ed{z:Str}{ls:List Str}{js:List Nat}{g:TG}{tt:TT}{te:TE}{σ:St}{H1:Hp}{D:Addr}{Q:VK}(Pv:Nat→List V→St→Hp→Prop)
  (h0:Pv 0 [] (lu ls js σ) (upd H1 D (.lst [])))
  (hs:∀i c ys σ H,z.cps.toList[i]?=some c→Pv i ys σ H→g (.str ⟨#[c]⟩) σ H fun fV H3=>tt fV H3 fun b H4=>if b=true then te fV H4 fun y H5=>H5 D=some (.lst ys)∧ys.length<sizeLine∧Pv (i+1) (ys++[y]) fV (upd H5 D (.lst (ys++[y])))else Pv (i+1) ys fV H4)
  (hd:∀ys σ H,Pv z.length ys σ H→Q (.ref D) H):
  sO (Pu z) ls js g tt te σ H1 D Q:=
 oE (n:=z.length) Pv h0 (fun i ys σ H hi p=>hi) (fun ys σ H p=>Nat.le_refl _)
  (fun i ys σ H x H2 hi p y=>by
   obtain⟨e,c,hc,ex⟩:=y;subst e ex;exact hs i c ys σ _ hc p) hd
theorem vC(z:Str)(lo hi:Option Int):(Txt.slice z lo hi).cps.toList=(z.cps.toList.drop (HT.jX z.length 0 lo)).take (HT.jX z.length z.length hi-HT.jX z.length 0 lo):=by
 have Wf:=HT.DY z.length 0 (Nat.zero_le _) lo;have Wg:=HT.DY z.length z.length (Nat.le_refl _) hi;have ix:Builtin.Str.strSliceIndices lo hi 1 z.length=(List.range (HT.jX z.length z.length hi-HT.jX z.length 0 lo)).map (HT.jX z.length 0 lo+·):=by
  rw[←sliceRange_one];have pos:(1:Int)>0:=Zy;cases lo with
  |none=>
   cases hi with
   |none=>rfl
   |some j=>
    simp only[Builtin.Str.strSliceIndices,HT.jX,pos,if_true]
    congr 1
    by_cases h:j<0
    ·simp only[h,if_true];lia
    ·simp only[h,if_false];lia
  |some i=>
   have e1:max 0 (min (if i<0 then i+(z.length:Int)else i) (z.length:Int))=((HT.jX z.length 0 (some i):Nat):Int):=by
    simp only[HT.jX];by_cases h:i<0
    ·simp only[h,if_true];lia
    ·simp only[h,if_false];lia
   cases hi with
   |none=>
    simp only[Builtin.Str.strSliceIndices,pos,if_true];rw[e1];rfl
   |some j=>
    have e2:max 0 (min (if j<0 then j+(z.length:Int)else j) (z.length:Int))=((HT.jX z.length z.length (some j):Nat):Int):=by
     simp only[HT.jX];by_cases h:j<0
     ·simp only[h,if_true];lia
     ·simp only[h,if_false];lia
    simp only[Builtin.Str.strSliceIndices,pos,if_true];rw[e1,e2]
 have hp:=pick_run z.cps (HT.jX z.length 0 lo) (HT.jX z.length z.length hi-HT.jX z.length 0 lo);unfold Txt.slice;rw[ix];split
 ·rename_i h
  simp only[List.length_map,List.length_range,beq_self_eq_true,Bool.true_and,beq_iff_eq]at h;have h0:HT.jX z.length 0 lo=0:=by lia
  have h1:HT.jX z.length z.length hi=z.length:=by lia
  rw[h0,h1,List.drop_zero,Nat.sub_zero,List.take_of_length_le (by simp[Str.length])]
 ·rw[←hp]
theorem vD(z:Str)(lo hi:Option Int):(Txt.slice z lo hi).length≤z.length:=Txt.slice_le z lo hi
section
variable{X:Cx}
def Rv:V→Option Int→Option Int→Hp→VK→Prop:=fun x lo hi H Q=>∃z,x= .str z∧z.length≤sizeLine∧Q (.str (Txt.slice z lo hi)) H
theorem ZH:Pe X Rv:=by
 intro pins s σ H x v vl vu lo hi sl Q I rx hs pl pu h;obtain⟨z,rfl,hz,q⟩:=h;obtain⟨t,rfl⟩:=rx;refine⟨"str",_,F.slot_str_getitem.lookup,typeIs_str _ _ _,?_⟩;have go:∀l u:Option (Int×Tok),vl=partValue l→vu=partValue u→l.map (·.1)=lo→u.map (·.1)=hi→wpAny (model X.prog X.w) X.A (getItem (.str z t) (.ref sl)) (EP X pins σ Q) X.xe s:=by
  rintro l u rfl rfl rfl rfl;obtain⟨o,h1,h2,h3⟩:=hs;refine wpAny_getItem_str_slice (l:=l) (u:=u) (st:=none) ⟨o,h1,h2,h3⟩ rfl ?_;exact post_val_or_str ⟨Nat.le_trans (Txt.slice_le z _ _) hz,fun t' k=>⟨.str (Txt.slice z (l.map (·.1)) (u.map (·.1))),H,I.tok _,⟨_,rfl⟩,q⟩⟩
 cases pl with
 |none=>
  cases pu with
  |none=>exact go none none rfl rfl rfl rfl
  |int j tj=>exact go none (some (j,tj)) rfl rfl rfl rfl
 |int i ti=>
  cases pu with
  |none=>exact go (some (i,ti)) none rfl rfl rfl rfl
  |int j tj=>exact go (some (i,ti)) (some (j,tj)) rfl rfl rfl rfl
theorem vE:rJ X (compareOp .LtE) (fun x y H Q=>∃i j,x= .str i∧y= .str j∧Q (.bl (!decide (j.cps.toList<i.cps.toList))) H):=by
 intro pins s σ H x y v u Q I rx ry h;obtain⟨i,j,rfl,rfl,q⟩:=h;obtain⟨t,rfl⟩:=rx;obtain⟨t',rfl⟩:=ry;exact P.le_str (bI I q rfl)
theorem GJ{bs:List Bool}{us:List Value}(r:Vals (bs.map V.bl) us)(i:Nat)(v:Value)(h:us[i]?=some v):v= .bool (bs.getD i false):=by
 induction bs generalizing us i with
 |nil=>cases r;simp at h
 |cons b r' ih=>
  cases r with
  |cons r0 rr=>
   cases i with
   |zero=>
    have h0:some _=some v:=h;cases h0;exact r0
   |succ i=>simpa using ih rr i (by simpa using h)
theorem all_range(bs:List Bool):(List.range bs.length).all (fun i=>bs.getD i false)=bs.all id:=by
 rw[Bool.eq_iff_iff,List.all_eq_true,List.all_eq_true];constructor
 ·intro h b hb;obtain⟨i,hi,rfl⟩:=List.mem_iff_getElem.mp hb;have:=h i (by simpa using hi);simpa[hi]using this
 ·intro h i hi;have hi:i<bs.length:=by simpa using hi
  simpa[hi]using h bs[i] (List.getElem_mem hi)
def NI(K:Frag)(f:List Bool→Bool):List V→Hp→VK→Prop:=fun xs H Q=>∃a bs,xs=[.ref a]∧iA K H a (bs.map V.bl)∧Q (.bl (f bs)) H
theorem Ee(hc:X.calm=true):iW X (.builtin "all") (NI X.K fun bs=>bs.all id):=by
 intro pins s σ H xs us Q I r h;obtain⟨a,bs,rfl,hq,q⟩:=h;cases r with
 |cons r rr=>
  cases rr;cases r;obtain⟨its,rv,p,hz⟩:=I.list hq;have hl:=rv.length;rw[List.length_map]at hl;refine call_all_walk (wpAny_pyIter_list p.isList ?_);have eV:a≠s.heap.objs.size:=by
   obtain⟨o,n,e,_⟩:=p;exact Nat.ne_of_lt (Heap.lt_size e)
  refine⟨s.heap.objs.size,_,_,_,_,_,fun i=>bs.getD i false,rfl,Walks.list (A:=X.A.in1) (show X.A.in1.handled=none from I.ok.hd hc) _ a eV its.toArray,⟨⟨_,Heap.get?_push_size _ rfl,rfl,rfl⟩,p.isList.at fun o e=>Zi e⟩,fun i v s1 Q1 E1 hv q1=>?_,fun h' tk hk=>?_⟩
  ·have hv:=GJ rv i v (by simpa using hv);subst hv;exact wpAny_truthy_bool q1
  ·rw[List.size_toArray,←hl,all_range];refine⟨.bl (bs.all id),H,I.kept fun b o e=>hk b o (fun z=>?_) (Zi e),rfl,q⟩;have z:b=s.heap.objs.size:=by simpa using z
   exact absurd (z▸Heap.lt_size e) (Nat.lt_irrefl _)
def Iy:V→Option Value
 | .ty n=>some (.type n)
 | .ref C=>some (.ref C)
 | _=>none
theorem Cp{c:V}{cv u:Value}(h:Iy c=some cv)(r:RelV c u):u=cv:=by
 cases c<;>first
  |(cases h;done)
  |(cases h;exact r)
inductive Kf(K:Frag)(xs:List V)(H:Hp)(Q:VK):Prop
 |mk (x:_) (c:_) (t:_) (b:_) (cv:_) (_:xs=[x,c]) (_:Iy c=some cv) (_:qe K H x t) (_:kitOne K t cv=some b) (_:Q (.bl b) H):Kf K xs H Q
theorem Ef:iW X (.builtin "isinstance") (Kf X.K):=by
 intro pins s σ H xs us Q I r h;obtain⟨x,c,t,b,cv,rfl,rc,ty,hk,q⟩:=h;cases r with
 |cons r1 rr=>
  cases rr with
  |cons r2 rr=>
   cases rr;cases Cp rc r2;exact Cc I r1 ty hk fun tk=>⟨.bl b,H,I.tok _,rfl,q⟩
end
section
variable{P:Program}{w:World}{K:Frag}{mg:Str→Option Value}{base:Heap}
abbrev Px(P:Program)(w:World)(K:Frag)(mg:Str→Option Value)(base:Heap)(cm:Bool)(N:List Str)(qual:Str)(scope:Scope)(f:Addr)(cd:Value)(A:Around)(outer:List Env)(s:Shared)(H:Hp)(E:XK):Cx:=
 zP (cW P w) cm P w K mg base N qual scope f cd A outer s H E
theorem jh.gI{cm:Bool}{x qual:Str}{st:Stmt}{f:Addr}{fd:FuncData}{N ps:List Str}{k:Nat}{sp:Sp}(F:jh K x qual st f fd)(S:aM N ps (ar st))(len:∀vs H Q E,sp vs H Q E→vs.length=ps.length)
  (yl:∀(bT:Value)(A:Around)(outer:List Env)(s:Shared)(H:Hp)(vs:List V)(Q:VK)(E:XK),eR cm k (A.deeper (envOfC qual (ar st) s.heap.objs.size f bT))→sp vs H Q E→
   Pk (Px P w K mg base cm N qual (ar st) f bT A outer s H E) (fun _=>E)→
   ∃t,B6 (Px P w K mg base cm N qual (ar st) f bT A outer s H E) (eJ st) t∧t {nx:=fun _ H'=>Q .cO H',rt:=Q} (start N vs) H):a7 P w K mg base (cW P w) cm (k+1) f fd ps sp:=by
 obtain⟨oc,od,kV,doc,pm,an,bT,ct,Ba,rfl,lk,B7⟩:=F.ex;exact Ik lk B7 S len fun A outer s H vs Q E hr FU=>yl bT A outer s H vs Q E hr FU Bf
end
def bK(P:Program)(w:World)(K:Frag)(mg:Str→Option Value)(base:Heap)(cm:Bool)(k:Nat)(x:Str)(ps:List Str)(sp:Sp):Prop:=
 ∃f fd,a7 P w K mg base (cW P w) cm k f fd ps sp∧mg x=some (.ref f)∧keepIn K (.ref f)=true∧Binds K fd ps []
theorem Eh{P:Program}{w:World}{K:Frag}{mg:Str→Option Value}{base:Heap}{cm:Bool}{k:Nat}{x y:Str}{ps:List Str}{sp:Sp}{st:Stmt}{f:Addr}{fd:FuncData}(F:jh K x y st f fd)(hm:mg x=some (.ref f))(b:Binds K fd ps [])
  (ok:a7 P w K mg base (cW P w) cm k f fd ps sp):bK P w K mg base cm k x ps sp:=⟨f,fd,ok,hm,F.kp,b⟩
section
variable{X:Cx}{cm:Bool}{k:Nat}{x:Str}{ps:List Str}{sp:Sp}{E:St→XK}{e:Expr}{es:List Expr}{t:TA}{p pos:Pos}
theorem aO(D:bK X.prog X.w X.K X.mg X.base cm k x ps sp)(hr:eR cm k X.A)(hx:Passes (cW X.prog X.w) X E)(ha:PA X (e::es) t)(hg:Gl X x:=by rfl)(v8:(x==("__debug__":Str))=false:=by decide)
  (he:starEach (e::es) X.env=(false,eval e X.env)::starEach es X.env:=by rfl) (rf:(backTo pos (starEach es X.env)).any (·.1)=false:=by rfl):PE X (.Call (.Name x p) (e::es) [] pos) (Ij sp [] E t):=by
 obtain⟨f,fd,ok,hm,hk,hb⟩:=D;exact Gj ok hr hg hm hk hb .nil hx ha v8 he rf
theorem fJ{v:V}(h:∃u,X.mg x=some u∧RelV v u)(hg:Gl X x:=by rfl)(hd:(x==("__debug__":Str))=false:=by decide):PE X (.Name x pos) (tC v):=by
 obtain⟨u,h1,h2⟩:=h;exact vY hg h1 h2 hd
end
theorem wB{σ:St}{H:Hp}{A B:Hp→Prop}(h:A H):Kd σ H (fun b H4=>if b=true then A H4 else B H4):=by
 show if true=true then A H else B H
 exact jK h
theorem qh{i:Nat}{x:V}{σ:St}{H:Hp}{A B:St→Hp→Prop}(h:A (σ.set i (some x)) H):A3 i x σ H (fun fV H3=>Kd fV H3 (fun b H4=>if b=true then A fV H4 else B fV H4)):=by
 show if true=true then A (σ.set i (some x)) H else B (σ.set i (some x)) H
 exact jK h
theorem aF{n:Nat}(h:n≤100000):n≤sizeLine:=Nat.le_trans h (Zy)
theorem ba{n:Nat}(h:n≤100000):n<sizeLine:=Nat.lt_of_le_of_lt h (Zy)
def Rw(t u:TS):TS:=fun D σ H=>∃Pm:St→Hp→Prop,t {D with nx:=Pm} σ H∧∀bH H',Pm bH H'→u D bH H'
theorem aD{X:Cx}{st:Stmt}{rest:List Stmt}{t u:TS}(h1:PS X st t)(h2:B6 X rest u):B6 X (st::rest) (Rw t u):=by
 intro pins s σ H D I h;obtain⟨Pm,ht,hu⟩:=h;refine wpAny_execs_cons (cK (h1 pins s σ H {D with nx:=Pm} I ht) fun f s1 q=>?_);cases f with
 |next=>obtain⟨bH,H',I',p⟩:=q;exact h2 pins s1 bH H' D I' (hu bH H' p)
 |brk=>exact q
 |cont=>exact q
 |ret v=>exact q
theorem ax.upd{H:Hp}{a:Addr}{o:HO}(h:H a=none):ax H (upd H a o):=fun b u e=>by rw[ao (aE e h)];exact e
theorem ax.eZ{H H':Hp}{a:Addr}{o:HO}(s:ax H H')(h:H a=none):ax H (L2.upd H' a o):=fun b u e=>by rw[ao (aE e h)];exact s b u e
end L2
namespace QF
open PySem L2
theorem p7{n:Nat}{P:List Value→Prop}(h:∀a us,us.length=n→P (a::us)):∀us:List Value,us.length=n+1→P us:=fun us e=>by
 cases us with
 |nil=>cases e
 |cons a r=>exact h a r (Nat.succ.inj e)
theorem Kg{P:List Value→Prop}(h:P []):∀us:List Value,us.length=0→P us:=fun us e=>by
 cases us with
 |nil=>exact h
 |cons a r=>cases e
theorem Wh{P:List Value→Prop}(h:∀a,P [a]):∀us:List Value,us.length=1→P us:=p7 fun a=>Kg (h a)
theorem Wi{P:List Value→Prop}(h:∀a b,P [a,b]):∀us:List Value,us.length=2→P us:=p7 fun a=>p7 fun b=>Kg (h a b)
theorem Wj{P:List Value→Prop}(h:∀a b c,P [a,b,c]):∀us:List Value,us.length=3→P us:=p7 fun a=>p7 fun b=>p7 fun c=>Kg (h a b c)
theorem Wl{P:List Value→Prop}(h:∀a b c d,P [a,b,c,d]):∀us:List Value,us.length=4→P us:=p7 fun a=>p7 fun b=>p7 fun c=>p7 fun d=>Kg (h a b c d)
theorem Wm{P:List Value→Prop}(h:∀a b c d e,P [a,b,c,d,e]):∀us:List Value,us.length=5→P us:=p7 fun a=>p7 fun b=>p7 fun c=>p7 fun d=>p7 fun e=>Kg (h a b c d e)
theorem Wn{P:List Value→Prop}(h:∀a b c d e f,P [a,b,c,d,e,f]):∀us:List Value,us.length=6→P us:=p7 fun a=>p7 fun b=>p7 fun c=>p7 fun d=>p7 fun e=>p7 fun f=>Kg (h a b c d e f)
theorem Wo{P:List Value→Prop}(h:∀a b c d e f g,P [a,b,c,d,e,f,g]):∀us:List Value,us.length=7→P us:=p7 fun a=>p7 fun b=>p7 fun c=>p7 fun d=>p7 fun e=>p7 fun f=>p7 fun g=>Kg (h a b c d e f g)
theorem Rx(us:List Value)(e:us.length=7):∃a b c d e f g,us=[a,b,c,d,e,f,g]:=Wo (P:=fun us=>∃a b c d e f g,us=[a,b,c,d,e,f,g]) (fun a b c d e f g=>⟨a,b,c,d,e,f,g,rfl⟩) us e
end QF
namespace L2
open PySem PySem.Spec PyProof.Rows PySem.W PySem.Calls
def notStar:Expr→Bool
 | .Starred _ _=>false
 | _=>true
theorem sQ{e:Expr}{es:List Expr}{env:Env}(h:notStar e=true):starEach (e::es) env=(false,eval e env)::starEach es env:=by
 cases e<;>first|rfl|cases h
theorem ak{X:Cx}{e:Expr}{es:List Expr}{te:TE}{t:TA}(ha:PE X e te)(hr:PA X es t)(hn:notStar e=true:=by rfl):PA X (e::es) (Ii te t):=Gi ha hr (sQ hn)
structure ir(K:Frag)(x qual:Str)(st:Stmt)(f:Addr)(fd:FuncData):Prop where
 ex:∃(oc:Value)(od:Option Addr)(dV kV doc pm:Value)(an:Option Addr)(bT ct:Value)(Ba:Array (Option Value)),
  fd=fnOf x qual (fv st) (eJ st) (ar st) dV kV doc pm an bT ct∧K.lookup f=some ⟨oc,od, .func fd,Ba⟩∧codeIn K bT qual=true
 kp:keepIn K (.ref f)=true
theorem Bi{K:Frag}{x qual:Str}{st:Stmt}{f:Addr}{oc:Value}{od an:Option Addr}{Ba:Array (Option Value)}{dV kV doc pm bT ct:Value}(l:K.lookup f=some ⟨oc,od, .func (fnOf x qual (fv st) (eJ st) (ar st) dV kV doc pm an bT ct),Ba⟩)
  (c:codeIn K bT qual=true) (k:keepIn K (.ref f)=true):ir K x qual st f (fnOf x qual (fv st) (eJ st) (ar st) dV kV doc pm an bT ct):=⟨⟨oc,od,dV,kV,doc,pm,an,bT,ct,Ba,rfl,l,c⟩,k⟩
section
variable{P:Program}{w:World}{K:Frag}{mg:Str→Option Value}{base:Heap}
theorem ir.gI{cm:Bool}{x qual:Str}{st:Stmt}{f:Addr}{fd:FuncData}{N ps:List Str}{k:Nat}{sp:Sp}(F:ir K x qual st f fd)(S:aM N ps (ar st))(len:∀vs H Q E,sp vs H Q E→vs.length=ps.length)
  (yl:∀(bT:Value)(A:Around)(outer:List Env)(s:Shared)(H:Hp)(vs:List V)(Q:VK)(E:XK),eR cm k (A.deeper (envOfC qual (ar st) s.heap.objs.size f bT))→sp vs H Q E→
   Pk (Px P w K mg base cm N qual (ar st) f bT A outer s H E) (fun _=>E)→
   ∃t,B6 (Px P w K mg base cm N qual (ar st) f bT A outer s H E) (eJ st) t∧t {nx:=fun _ H'=>Q .cO H',rt:=Q} (start N vs) H):a7 P w K mg base (cW P w) cm (k+1) f fd ps sp:=by
 obtain⟨oc,od,dV,kV,doc,pm,an,bT,ct,Ba,rfl,lk,B7⟩:=F.ex;exact Ik lk B7 S len fun A outer s H vs Q E hr FU=>yl bT A outer s H vs Q E hr FU Bf
end
def eG(P:Program)(w:World)(K:Frag)(mg:Str→Option Value)(base:Heap)(cm:Bool)(k:Nat)(C:Addr)(m:Str)(ps:List Str)(sp:Sp):Prop:=
 ∃f fd,a7 P w K mg base (cW P w) cm k f fd ps sp∧Meth K C m f∧Binds K fd ps []∧v7 K C
def mO(P:Program)(w:World)(K:Frag)(mg:Str→Option Value)(base:Heap)(cm:Bool)(k:Nat)(x:Str)(C:Addr)(ps:List Str)(l5:List V)(sp:Sp):Prop:=
 ∃f fd ds,a7 P w K mg base (cW P w) cm k f fd ps sp∧Mk K C f∧mg x=some (.ref C)∧Binds K fd ps ds∧Vals l5 ds
theorem yw{P:Program}{w:World}{K:Frag}{mg:Str→Option Value}{base:Heap}{cm:Bool}{k:Nat}{x:Str}{C f:Addr}{fd:FuncData}{ps:List Str}{l5:List V}{ds:List Value}{sp:Sp}(h1:a7 P w K mg base (cW P w) cm k f fd ps sp)(h2:Mk K C f)(h3:mg x=some (.ref C))(h4:Binds K fd ps ds)(h5:Vals l5 ds):mO P w K mg base cm k x C ps l5 sp:=⟨f,fd,ds,h1,h2,h3,h4,h5⟩
theorem Cq{P:Program}{w:World}{K:Frag}{mg:Str→Option Value}{base:Heap}{cm:Bool}{k:Nat}{m:Str}{C f:Addr}{fd:FuncData}{ps:List Str}{sp:Sp}(h1:a7 P w K mg base (cW P w) cm k f fd ps sp)(h2:Meth K C m f)(h3:Binds K fd ps [])(h4:v7 K C):eG P w K mg base cm k C m ps sp:=⟨f,fd,h1,h2,h3,h4⟩
section
variable{X:Cx}{cm:Bool}{k:Nat}{x m:Str}{ps:List Str}{sp:Sp}{E:St→XK}{e o:Expr}{es:List Expr}{t:TA}{to:TE}{p pos apos:Pos}{C:Addr}{l5:List V}
theorem sg(D:mO X.prog X.w X.K X.mg X.base cm k x C ps l5 sp)(hr:eR cm (k+1) X.A)(hx:Passes (cW X.prog X.w) X E)(ha:PA X (e::es) t)(hg:Gl X x:=by rfl)(v8:(x==("__debug__":Str))=false:=by decide)
  (he:starEach (e::es) X.env=(false,eval e X.env)::starEach es X.env:=by rfl) (rf:(backTo pos (starEach es X.env)).any (·.1)=false:=by rfl):PE X (.Call (.Name x p) (e::es) [] pos) (A_ C sp l5 E t):=by
 obtain⟨f,fd,ds,ok,M,hm,hb,hd⟩:=D;exact Gm M ok hr hg hm hb hd hx ha v8 he rf
theorem bN{pl:Sem Bool}(ho:PE X o to)(D:eG X.prog X.w X.K X.mg X.base cm k C m ps sp)(hr:eR cm k X.A)(hx:Passes (cW X.prog X.w) X E)(ha:PA X (e::es) t)
  (vi:starEach (e::es) X.env=(false,eval e X.env)::starEach es X.env:=by rfl) (rf:(backTo pos (starEach es X.env)).any (·.1)=false:=by rfl)
  (ht:eval (.Call (.Attribute o m apos) (e::es) [] pos) X.env=(do
   let ov←eval o X.env
   standAt apos.atName
   let (f,first)←holding [ov] (getMethod ov m pl)
   callWith pos f first (backTo pos (starEach (e::es) X.env)) (backToKw pos (keywordEach [] X.env))):=by rfl):PE X (.Call (.Attribute o m apos) (e::es) [] pos) (A9 C m sp [] E to t):=by
 obtain⟨f,fd,ok,hm,hb,c⟩:=D;exact Gk ho c hm ok hr hb .nil hx ha vi rf ht
theorem Cr{pl:Sem Bool}(ho:PE X o to)(D:eG X.prog X.w X.K X.mg X.base cm k C m ps sp)(hr:eR cm k X.A)(hx:Passes (cW X.prog X.w) X E)
  (ht:eval (.Call (.Attribute o m apos) [] [] pos) X.env=(do
   let ov←eval o X.env
   standAt apos.atName
   let (f,first)←holding [ov] (getMethod ov m pl)
   callWith pos f first (backTo pos (starEach [] X.env)) (backToKw pos (keywordEach [] X.env))):=by rfl):PE X (.Call (.Attribute o m apos) [] [] pos) (A9 C m sp [] E to DP):=by
 obtain⟨f,fd,ok,hm,hb,c⟩:=D;exact DR ho c hm ok hr hb .nil hx ht
end
section
variable{X:Cx}
theorem bg(K:Frag){tg l:Expr}{tl:TE}(hl:PE X l tl)(h:X.K=K:=by rfl):PI X tg l (Ie K tl):=h▸Gd hl
theorem aC(K:Frag){e:Expr}{f:Str}{pos:Pos}{ta:TE}(he:PE X e ta)(hb:attributeBase e f X.env (eval e X.env)=eval e X.env:=by rfl)(h:X.K=K:=by rfl):PE X (.Attribute e f pos) (M_ K ta f):=h▸JU he hb
theorem ck(K:Frag){o value:Expr}{f:Str}{pos pos':Pos}{ta tv:TE}(ha:PE X o ta)(hv:PE X value tv)(hs:swapsWith value (some (.Attribute o f pos')) pos.line X.env=pure false:=by rfl)(h:X.K=K:=by rfl):PS X (.Assign [.Attribute o f pos'] value pos) (Na K ta tv f):=h▸JV ha hv hs
theorem aq(K:Frag)(h:X.K=K:=by rfl):LX X (J3 K):=h▸Gy
theorem cC(K:Frag)(h:X.K=K:=by rfl):LX X (J4 K):=h▸J5
theorem yx(K:Frag)(h:X.K=K:=by rfl):Pe X (J7 K):=h▸Gz
inductive IA(K:Frag)(xs:List V)(H:Hp)(Q:VK):Prop
 |mk (p:_) (ys:_) (_:xs=[.ref p]) (_:(iA K H p ys∨DG K H p ys)) (_:Q (.int ys.length) H):IA K xs H Q
theorem aG(K:Frag)(h:X.K=K:=by rfl):iW X (.builtin "len") (IA K):=by
 subst h;intro pins s σ H xs us Q I r hq;obtain⟨p,ys,e,d,q⟩:=hq;exact wj pins s σ H xs us Q I r ⟨p,ys,e,d,q⟩
inductive Bj(K:Frag)(xs:List V)(H:Hp)(Q:VK):Prop
 |mk (p:_) (ys:_) (_:xs=[.ref p]) (_:(iA K H p ys∨DG K H p ys)) (_:∀l,H l=none→Q (.ref l) (upd H l (.lst ys))):Bj K xs H Q
theorem gW(K:Frag)(h:X.K=K:=by rfl):iW X (.type "list") (Bj K):=by
 subst h;intro pins s σ H xs us Q I r hq;obtain⟨p,ys,e,d,q⟩:=hq;exact wk pins s σ H xs us Q I r ⟨p,ys,e,d,q⟩
theorem Cs(K:Frag)(hc:X.calm=true)(h:X.K=K:=by rfl):iW X (.builtin "all") (NI K fun bs=>bs.all id):=h▸Ee hc
theorem eD(K:Frag)(h:X.K=K:=by rfl):iW X (.builtin "isinstance") (Kf K):=h▸Ef
theorem f6(K:Frag){es:List Expr}{k:Nat}{t:Ic}{n:Nat}{pos:Pos}(hc:X.calm=true)(h:MY X es t)
  (hn:(assignEach es X.env).length=n:=by rfl) (vi:(assignEach es X.env).findIdx? (·.1)=none:=by rfl) (hK:X.K=K:=by rfl):PG X (.Tuple es k pos) (JK K n t):=hK▸JL hc h hn vi
theorem dW(K:Frag){T:String}{name:Str}{id:String}{r:V→List V→Hp→VK→Prop}{o e:Expr}{es:List Expr}{apos eF:Pos}{to:TE}{t:TA}(pa:PlainAttrs T)(slot:Slot T name id)(Dq:typeOf (.builtin id)=pure (.type "method_descriptor"))(hm:Pf X id r)(ho:PE X o to)(ha:PA X (e::es) t)
  (ot:attributeBase o name X.env (eval o X.env)=eval o X.env:=by rfl)
  (D5:((backTo eF (starEach (e::es) X.env)).all (fun x=>!x.1)&&(backToKw eF (keywordEach [] X.env)).all (fun x=>x.1.isSome)
   &&decide ((e::es).length+([]:List Keyword).length+(if ([]:List Keyword).isEmpty then 0 else 1)<30))=true:=by rfl)
  (ow:(apos.endLine==eF.line)=true:=by rfl) (hs:starEach (e::es) X.env=(false,eval e X.env)::starEach es X.env:=by rfl) (ZE:(backTo eF (starEach es X.env)).any (·.1)=false:=by rfl) (hK:X.K=K:=by rfl):
  PE X (.Call (.Attribute o name apos) (e::es) [] eF) (T8 K T r to t):=hK▸Nm pa slot Dq hm ho ha ot D5 ow hs ZE
end
section
variable{X:Cx}
end
end L2
namespace QF
open PySem L2
structure TB(mg:Str→Option Value):Prop where
 cD:mg "len"=none
 dX:mg "range"=none
 cn:mg "isinstance"=none
 Bk:mg "int"=none
 Kh:mg "bool"=none
 NJ:mg "str"=none
 ko:mg "list"=none
 GK:mg "tuple"=none
 Ry:mg "dict"=none
 NK:mg "all"=none
 Ug:mg "any"=none
 Ei:mg "min"=none
 IB:mg "max"=none
 jn:mg "enumerate"=none
 GL:mg "ValueError"=none
def DO(mg:Str→Option Value)(x:Str)(v:V):Prop:=∃u,mg x=some u∧RelV v u
def cell(ns:List Int)(k:Int):Int:=ns.getD k.toNat 0
theorem GN{ns:List Int}{k:Int}(h0:0≤k)(h:k<(ns.length:Int)):rg (ns.map V.int) k=some (.int (cell ns k)):=by
 obtain⟨j,rfl⟩:=Int.eq_ofNat_of_zero_le h0;have hj:j<ns.length:=Zx;refine av ?_;simp[cell,hj]
theorem cell_out{ns:List Int}{k:Int}(h0:0≤k)(h:¬k<(ns.length:Int)):cell ns k=0:=by
 have hj:ns.length≤k.toNat:=Zx;simp[cell,hj]
def low(c:Nat):Bool:=decide (97≤c)&&decide (c≤122)
def sR(z:Str):Bool:=decide (1≤z.length)&&decide (z.length≤12)&&z.cps.toList.all low
theorem Uh(a b:Nat):(([a]:List Nat)<[b])↔a<b:=by
 constructor
 ·intro h;cases h with
  |rel h=>exact h
  |cons h=>cases h
 ·intro h;exact .rel h
theorem Rz(c:Nat):(!decide (([c]:List Nat)<(Str.ofString "a").cps.toList))=decide (97≤c):=by
 have e:(Str.ofString "a").cps.toList=[97]:=by decide+kernel
 rw[e,Bool.eq_iff_iff];simp only[Bool.not_eq_true',decide_eq_false_iff_not,decide_eq_true_eq,Uh];omega
theorem RA(c:Nat):(!decide ((Str.ofString "z").cps.toList<([c]:List Nat)))=decide (c≤122):=by
 have e:(Str.ofString "z").cps.toList=[122]:=by decide+kernel
 rw[e,Bool.eq_iff_iff];simp only[Bool.not_eq_true',decide_eq_false_iff_not,decide_eq_true_eq,Uh];omega
theorem len_app(x y:Str):(x++y).length=x.length+y.length:=by
 show(x.cps++y.cps).size=_;rw[Array.size_append];rfl
inductive Ej(K:W.Frag)(vs:List V)(H:Hp)(Q:VK)(u3:XK):Prop
 |mk (a:_) (ns:_) (k:_) (_:vs=[.ref a, .int k]) (_:iA K H a (ns.map V.int)) (_:0≤k) (_:Q (.int (cell ns k)) H):Ej K vs H Q u3
inductive sT(vs:List V)(H:Hp)(Q:VK)(u3:XK):Prop
 |mk (i:_) (_:vs=[.int i]) (_:Q (.bl true) H):sT vs H Q u3
inductive ZG(vs:List V)(H:Hp)(Q:VK)(u3:XK):Prop
 |mk (c:Nat) (_:vs=[.str ⟨#[c]⟩]) (_:Q (.bl (low c)) H):ZG vs H Q u3
inductive wC(vs:List V)(H:Hp)(Q:VK)(u3:XK):Prop
 |mk (z:Str) (_:vs=[.str z]) (_:z.length≤100000) (_:∀H',ax H H'→Q (.bl (sR z)) H'):wC vs H Q u3
inductive m_(vs:List V)(H:Hp)(Q:VK)(u3:XK):Prop
 |mk (l n h:Int) (_:vs=[.int l, .int n, .int h]) (_:Q (.bl (decide (l≤n)&&decide (n≤h))) H):m_ vs H Q u3
def Bl(K:W.Frag):Sp:=fun vs H Q _=>∃(a:Addr)(ns:List Int),vs=[.ref a]∧iA K H a (ns.map V.int)∧ns.length≤63∧∀H',Q (.bl true) H'
structure Er(K:W.Frag)(mg:Str→Option Value)(x:Str)(C:Addr):Prop where
 m:mg x=some (.ref C)
 e:Nw K C
def inR(l n h:Int):Bool:=decide (l≤n)&&decide (n≤h)
inductive qi(C:Addr)(vs:List V)(H:Hp)(Q:VK)(E:XK):Prop
 |mk (nm:Str) (n l h:Int) (_:vs=[.str nm, .int n, .int l, .int h]) (_:nm.length≤20) (_:(0≤l∧l≤1)) (_:(h=100∨h=999999)) (_:(if inR l n h=true then Q .cO H else E (.ref C) none H)):qi C vs H Q E
theorem oF{i:Int}(h:i=0∨i=1∨i=12∨i=40∨i=60∨i=100∨i=999999):i.natAbs.log2<1920∧(Str.ofString (toString i)).length≤6:=by
 rcases h with rfl|rfl|rfl|rfl|rfl|rfl|rfl<;>exact⟨by decide+kernel,by decide+kernel⟩
theorem l_:(Str.empty).length=0:=by decide+kernel
theorem ie{x:V}:[x].length≤sizeLine:=aF Zr
def iu(x y:Str)(p:Int):Bool:=sR x&&sR y&&!(x==y)&&inR 0 p 999999
inductive wD(C:Addr)(vs:List V)(H:Hp)(Q:VK)(E:XK):Prop
 |mk (x y:Str) (p:Int) (_:vs=[.str x, .str y, .int p]) (_:x.length≤100000) (_:y.length≤100000) (_:(if iu x y p=true then ∀H',ax H H'→Q .cO H' else ∀H',ax H H'→E (.ref C) none H')):wD C vs H Q E
abbrev Form:=Str×Str×Int
def Ki(f:Form):List V:=[.str f.1, .str f.2.1, .int f.2.2]
def kY(f:Form):List Key:=[.inr f.1, .inr f.2.1]
def lz(f:Form):List Key×V:=(kY f, .int f.2.2)
def Dr(f:Form):Bool:=iu f.1 f.2.1 f.2.2
def dR(H:Hp)(xs:List V)(fs:List Form):Prop:=xs.length=fs.length∧∀(i:Nat)(f:Form),fs[i]?=some f→∃t,xs[i]?=some (V.ref t)∧H t=some (.tup (Ki f))
def bO(fs:List Form):Bool:=decide (fs.length≤60)&&fs.all Dr&&decide ((fs.map kY).Nodup)
def Short(fs:List Form):Prop:=fs.length≤1000∧∀f∈fs,f.1.length≤100000∧f.2.1.length≤100000
theorem dR.same{H H':Hp}{xs:List V}{fs:List Form}(t:dR H xs fs)(s:ax H H'):dR H' xs fs:=⟨t.1,fun i f e=>let ⟨b,h1,h2⟩:=t.2 i f e;⟨b,h1,s _ _ h2⟩⟩
theorem dR.nil{H:Hp}:dR H [] []:=⟨rfl,fun i f e=>by simp at e⟩
inductive qj(C:Addr)(vs:List V)(H:Hp)(Q:VK)(E:XK):Prop
 |mk (a:Addr) (xs:List V) (fs:List Form) (_:vs=[.ref a]) (_:H a=some (.lst xs)) (_:dR H xs fs) (_:Short fs) (_:(if bO fs=true then ∀H' d,ax H H'→H d=none→H' d=some (.dT (fs.map lz))→Q (.ref d) H' else ∀H',ax H H'→E (.ref C) none H')):qj C vs H Q E
theorem Bm(fs:List Form):(fs.map lz).map (·.1)=fs.map kY:=by rw[List.map_map];rfl
theorem Ek{fs:List Form}{i:Nat}{f:Form}(e:fs[i]?=some f)(h:Dr f=false):bO fs=false:=by
 have hm:f∈fs:=Ze e;have:fs.all Dr=false:=by
  rw[Bool.eq_false_iff];intro z;rw[List.all_eq_true]at z;rw[z f hm]at h;cases h
 simp[bO,this]
theorem Ct{fs:List Form}{i:Nat}{f:Form}(e:fs[i]?=some f)(h:kY f∈(fs.take i).map kY):bO fs=false:=by
 have:¬(fs.map kY).Nodup:=fun z=>by
  obtain⟨hi,e'⟩:=Y7 e;have e2:fs=fs.take i++f::fs.drop (i+1):=by
   rw[←e',List.getElem_cons_drop,List.take_append_drop]
  rw[e2,List.map_append,List.map_cons,List.nodup_append]at z;exact z.2.2 _ h _ (List.mem_cons_self) rfl
 simp[bO,this]
theorem Cu{fs:List Form}{i:Nat}{f:Form}(e:fs[i]?=some f):(fs.take (i+1)).map lz=(fs.take i).map lz++[lz f]:=by
 rw[List.take_succ,e,List.map_append];rfl
theorem NL{fs:List Form}{k:List Key}(h:bu (fs.map lz) k=none):k∉fs.map kY:=by
 have:=yv h;rwa[Bm]at this
theorem Kj{fs:List Form}{k:List Key}{v:V}(h:bu (fs.map lz) k=some v):k∈fs.map kY:=by
 have:=Be h;rwa[Bm]at this
structure El(K:W.Frag)(C:Addr):Prop where
 cl:v7 K C
 same:bZ K C "same"
 out:bZ K C "out"
 into:bZ K C "into"
 least:bZ K C "least"
 part:bZ K C "part"
 near:bZ K C "near"
 Em:bZ K C "prices"
structure Nums where
 same:Int
 out:Int
 into:Int
 least:Int
 part:Int
def i4(n:Nums):Bool:=inR 1 n.same 999999&&inR 0 n.out 999999&&inR 0 n.into 999999&&inR 1 n.least 999999&&inR 1 n.part 100
def wF(n:Nums)(l d:Addr):List (Str×V):=[("same", .int n.same),("out", .int n.out),("into", .int n.into),("least", .int n.least),("part", .int n.part),("near", .ref l),("prices", .ref d)]
def mP(n:Nums):List (Str×V):=[("same", .int n.same),("out", .int n.out),("into", .int n.into),("least", .int n.least),("part", .int n.part)]
def SameBut(x:Addr)(H H':Hp):Prop:=∀b u,b≠x→H b=some u→H' b=some u
structure kq(H:Hp)(C x:Addr)(n:Nums)(fs:List Form)(dx l d:Addr)(xs:List V):Prop where
 ob:H x=some (.ins C dx (wF n l d))
 own:H dx=some (.own x)
 li:H l=some (.lst xs)
 tr:dR H xs fs
 di:H d=some (.dT (fs.map lz))
def NM(H:Hp)(v:V)(xs:List V)(fs:List Form):Prop:=(v= .cO∧xs=[]∧fs=[])∨∃a,v= .ref a∧H a=some (.lst xs)∧dR H xs fs
inductive si(C CT CN:Addr)(vs:List V)(H:Hp)(Q:VK)(E:XK):Prop
 |mk (x dx:Addr) (n:Nums) (nv:V) (xs:List V) (fs:List Form) (_:vs=[.ref x, .int n.same, .int n.out, .int n.into, .int n.least, .int n.part,nv]) (_:H x=some (.ins C dx [])) (_:H dx=some (.own x)) (_:NM H nv xs fs) (_:Short fs) (_:(if i4 n=true then(if bO fs=true then ∀H' l d,SameBut x H H'→kq H' C x n fs dx l d xs→H l=none→H d=none→Q .cO H' else ∀H',SameBut x H H'→E (.ref CN) none H')else ∀H',SameBut x H H'→E (.ref CT) none H')):si C CT CN vs H Q E
theorem RB(n:Nums):bp "part" (.int n.part) (bp "least" (.int n.least) (bp "into" (.int n.into) (bp "out" (.int n.out) (bp "same" (.int n.same) []))))=mP n:=by kernel_rfl
theorem RD(n:Nums)(l d:Addr):bp "prices" (.ref d) (bp "near" (.ref l) (mP n))=wF n l d:=by kernel_rfl
theorem NN(n:Nums)(l:Addr):(bp "near" (.ref l) (mP n)).lookup ("near":Str)=some (V.ref l):=by kernel_rfl
theorem SameBut.refl{x:Addr}{H:Hp}:SameBut x H H:=fun _ _ _ h=>h
theorem SameBut.upd{x:Addr}{H H':Hp}{o:HO}(s:SameBut x H H'):SameBut x H (upd H' x o):=fun b u n h=>by rw[ao n];exact s b u n h
theorem SameBut.same{x:Addr}{H H' H2:Hp}(s:SameBut x H H')(t:ax H' H2):SameBut x H H2:=fun b u n h=>t b u (s b u n h)
theorem SameBut.laid{x a:Addr}{H H':Hp}{o:HO}(s:SameBut x H H')(h:H a=none):SameBut x H (L2.upd H' a o):=fun b u n e=>by rw[ao (aE e h)];exact s b u n e
theorem SameBut.free{x l:Addr}{H H':Hp}{o:HO}(s:SameBut x H H')(hx:H' x=some o)(h:H' l=none):H l=none:=by
 cases e:H l with
 |none=>rfl
 |some u=>
  have n:l≠x:=fun z=>by rw[z,hx]at h;cases h
  rw[s l u n e]at h;cases h
theorem dR.but{x:Addr}{H H':Hp}{xs:List V}{fs:List Form}{C dx:Addr}{gs:List (Str×V)}(t:dR H xs fs)(s:SameBut x H H')(hx:H x=some (.ins C dx gs)):dR H' xs fs:=
 ⟨t.1,fun i f e=>let ⟨b,h1,h2⟩:=t.2 i f e;⟨b,h1,s _ _ (fun z=>by rw[z,hx]at h2;cases h2) h2⟩⟩
def fl(j:Nat):List V:=[.bl (decide (0=j)), .bl (decide (1=j)), .bl (decide (2=j)), .bl (decide (3=j)), .bl (decide (4=j)), .bl (decide (5=j)), .bl (decide (6=j)), .bl (decide (7=j)), .bl (decide (8=j)), .bl (decide (9=j)), .bl (decide (10=j)), .bl (decide (11=j)), .bl (decide (12=j)), .bl (decide (13=j))]
def kinds:List Str:=["word","book","terms","near","way","name","year","taken","full","many","no book","no finding","left","search","another"]
def kindOf(j:Nat):Str:=kinds.getD j ""
theorem int_at(is:List Int){i:Int}(h0:0≤i)(h:i<(is.length:Int)):∃m,m∈is∧rg (is.map V.int) i=some (.int m):=by
 obtain⟨j,rfl⟩:=Int.eq_ofNat_of_zero_le h0;have hj:j<is.length:=Zx;exact⟨is[j],List.getElem_mem hj,av (by simp[hj])⟩
theorem En(n:Nums)(l d:Addr):(wF n l d).lookup ("same":Str)=some (V.int n.same):=by kernel_rfl
theorem l_out(n:Nums)(l d:Addr):(wF n l d).lookup ("out":Str)=some (V.int n.out):=by kernel_rfl
theorem Kk(n:Nums)(l d:Addr):(wF n l d).lookup ("into":Str)=some (V.int n.into):=by kernel_rfl
theorem GO(n:Nums)(l d:Addr):(wF n l d).lookup ("least":Str)=some (V.int n.least):=by kernel_rfl
theorem Eo(n:Nums)(l d:Addr):(wF n l d).lookup ("prices":Str)=some (V.ref d):=by kernel_rfl
theorem wG(n:Nums)(l d:Addr):(wF n l d).lookup ("pair_worth":Str)=none:=by kernel_rfl
end QF
namespace L2
open PySem PySem.Spec PyProof.Rows PySem.W PySem.Calls
section
variable{X:Cx}
inductive NO(K:Frag)(x:V)(y:V)(H:Hp)(Q:VK):Prop
 |mk (p:_) (q:_) (xs:_) (_:x= .ref p) (_:y= .ref q) (_:iA K H p xs) (_:iA K H q []) (_:Q (.bl (!xs.isEmpty)) H):NO K x y H Q
theorem sU(K:Frag)(hu:X.A.units<cLine)(hK:X.K=K:=by rfl):rJ X (compareOp .NotEq) (NO K):=by
 subst hK;intro pins s σ H x y v u Q I rx ry h;obtain⟨p,q,xs,rfl,rfl,hp,hq,k⟩:=h;cases rx;cases ry;obtain⟨its,r,pl,hz⟩:=I.list hp;obtain⟨fD,r2,Kl,NP⟩:=I.list hq;cases r2;obtain⟨⟨cls,dd,data,sl⟩,ho,hc,n,hd⟩:=id pl.isList;obtain⟨⟨NQ,Ep,data2,xW⟩,ZC,wu,n2,hd2⟩:=id Kl.isList;simp only at hc hd wu hd2;subst hc hd wu hd2;by_cases e:its=[]
 ·subst e;cases r;refine richCompare_meets_room (op:= .NotEq) ⟨_,ho,rfl⟩ ⟨_,ZC,rfl⟩ F.slot_list_ne F.entry_list_ne (F.args_list_ne_2 _ _) (SeqAt.list_neAt p q #[] #[] n n2 dd Ep sl xW rfl (fun _=>true)) ⟨ho,ZC,fun j h1 _=>absurd h1 Zr,?_⟩ hu;exact⟨(fun x=>nomatch x), .bl false,H,I,rfl,k⟩
 ·have hx:xs≠[]:=fun z=>by subst z;cases r;exact e rfl
  have hsz:(its.toArray.size !=(#[]:Array Value).size)=true:=by simpa using e
  refine richCompare_meets_room (op:= .NotEq) ⟨_,ho,rfl⟩ ⟨_,ZC,rfl⟩ F.slot_list_ne F.entry_list_ne (F.args_list_ne_2 _ _) (SeqAt.list_ne_lengthsAt p q its.toArray #[] n n2 dd Ep sl xW hsz) ⟨ho,ZC,?_⟩ hu;have:(!xs.isEmpty)=true:=by simpa using hx
  rw[this]at k;exact⟨(fun x=>nomatch x), .bl true,H,I,rfl,k⟩
end
end L2
namespace QF
open PySem L2
theorem IC{α:Type}{xs:List α}{i:Nat}{v:α}(h:xs[i]?=some v):rg xs (0+(i:Int))=some v:=by
 rw[Int.zero_add];exact av h
def dY(fs:List Form)(x y:Str):Option Int:=(fs.find? fun f=>decide (f.1=x∧f.2.1=y)).map (·.2.2)
def dD(same:Int)(fs:List Form)(x y:Str):Option Int:=if x=y then some same else(dY fs x y).map (same-·)
def bB:Option Int→V
 |none=> .cO
 |some i=> .int i
theorem wH(f:Form)(x y:Str):kY f=[.inr x, .inr y]↔f.1=x∧f.2.1=y:=by simp[kY]
theorem vF(x y:Str):∀fs:List Form,bu (fs.map lz) [.inr x, .inr y]=(dY fs x y).map V.int
 |[]=>rfl
 |f::r=>by
  rw[List.map_cons];by_cases h:kY f=[.inr x, .inr y]
  ·have h':=(wH f x y).mp h;rw[cJ (show(lz f).1=_ from h)];simp[dY,List.find?_cons,h'.1,h'.2,lz]
  ·have h':¬(f.1=x∧f.2.1=y):=fun z=>h ((wH f x y).mpr z)
   rw[cy (show ¬(lz f).1=_ from h),vF x y r];simp[dY,List.find?_cons,h']
inductive wI(C:Addr)(vs:List V)(H:Hp)(Q:VK)(u3:XK):Prop
 |mk (t:Addr) (x y:Str) (n:Nums) (fs:List Form) (dx l d:Addr) (xs:List V) (_:vs=[.ref t, .str x, .str y]) (_:kq H C t n fs dx l d xs) (_:∀H',ax H H'→Q (bB (dD n.same fs x y)) H'):wI C vs H Q u3
abbrev NR:Str:=Str.ofString "abcdefghijklmnopqrstuvwxyz"
theorem GP:NR.length=26:=by decide+kernel
theorem ZF(zs:List Str){i:Int}(h0:0≤i)(h:i<(zs.length:Int)):∃m,m∈zs∧rg (zs.map V.str) i=some (.str m):=by
 obtain⟨j,rfl⟩:=Int.eq_ofNat_of_zero_le h0;have hj:j<zs.length:=Zx;exact⟨zs[j],List.getElem_mem hj,av (by simp[hj])⟩
theorem oG(x y:Str):(x++y).cps.toList=x.cps.toList++y.cps.toList:=by
 show(x.cps++y.cps).toList=_;simp
def e6(H H':Hp):Prop:=∀t v,H t=some (.tup v)→H' t=some (.tup v)
theorem e6.same{H H':Hp}(s:ax H H'):e6 H H':=fun t v h=>s _ _ h
theorem e6.lst{H:Hp}{l:Addr}{xs:List V}{o:HO}(h:H l=some (.lst xs)):e6 H (upd H l o):=fun t v e=>by
 rw[ao (iV e h (by intro z;cases z))];exact e
theorem dR.cI{H H':Hp}{xs:List V}{fs:List Form}(T:dR H xs fs)(k:e6 H H'):dR H' xs fs:=⟨T.1,fun i f e=>let ⟨b,h1,h2⟩:=T.2 i f e;⟨b,h1,k _ _ h2⟩⟩
theorem dR.snoc{H:Hp}{xs:List V}{fs:List Form}{t:Addr}{f:Form}(T:dR H xs fs)(ht:H t=some (.tup (Ki f))):dR H (xs++[.ref t]) (fs++[f]):=by
 refine⟨by simp[T.1],fun i g e=>?_⟩;by_cases h:i<fs.length
 ·rw[List.getElem?_append_left h]at e;obtain⟨b,h1,h2⟩:=T.2 i g e;exact⟨b,by rw[List.getElem?_append_left (by rw[T.1];exact h)];exact h1,h2⟩
 ·have hi:i=fs.length:=by
   have:=(Y7 e).1;simp at this;omega
  subst hi;have hg:f=g:=by simpa using e
  subst hg;exact⟨t,by rw[←T.1];simp,ht⟩
theorem GQ{n j:Nat}(h:j<n):DZ n (j:Int)=some j:=by
 unfold DZ;rw[if_pos Zt,if_pos Zt];simp
theorem GR:NR.cps.toList=(List.range 26).map (97+·):=by decide+kernel
theorem Es{r:Int}:rg NR.cps.toList (r%26)=some (97+(r%26).toNat):=by
 have h0:0≤r%26:=Zx;have h1:r%26<26:=Zx;generalize r%26=m at h0 h1;obtain⟨j,rfl⟩:=Int.eq_ofNat_of_zero_le h0;refine av ?_;have hj:j<26:=Zx;rw[GR];simp[hj]
theorem Bn(r:Int):low (97+(r%26).toNat)=true:=by
 have h1:(r%26).toNat≤25:=Zx;simp[low];omega
def lows(z:Str):Prop:=z.cps.toList.all low=true
def j1(bU:Str)(cell other:Int)(k:Nat):Str:=
 let size:=1+cell/2%12
 if cell%2=1 then Txt.slice bU none (some (1+(size+k)%12))
 else Txt.slice bU none (some (other%size))++⟨#[97+((other/12+k)%26).toNat]⟩++Txt.slice bU (some (other%size+1)) (some size)
theorem sj{n d:Nat}{v:Int}(h0:0≤v)(h:v≤n):HT.jX n d (some v)=v.toNat:=by
 simp only[HT.jX];split<;>omega
theorem lA{z:Str}{v:Int}(h0:0≤v)(h:v≤z.length):(Txt.slice z none (some v)).cps.toList=z.cps.toList.take v.toNat:=by
 rw[vC,sj h0 h,HT.DX];simp
theorem Et{z:Str}{u v:Int}(h0:0≤u)(h1:u≤v)(h:v≤z.length):(Txt.slice z (some u) (some v)).cps.toList=(z.cps.toList.drop u.toNat).take (v.toNat-u.toNat):=by
 rw[vC,sj h0 Zt,sj Zt h]
theorem len_list(z:Str):z.cps.toList.length=z.length:=by simp[Str.length]
theorem Eu{z:Str}(h1:1≤z.length)(h2:z.length≤12)(h:lows z):sR z=true:=by
 have h:z.cps.toList.all low=true:=h;simp[sR,h1,h2,h]
theorem Ew{bU:Str}(hl:bU.length=12)(hs:lows bU)(cell other:Int)(k:Nat):sR (j1 bU cell other k)=true:=by
 have mQ:=List.all_eq_true.mp hs;have LZ:=len_list bU;have z0:1≤1+cell/2%12∧1+cell/2%12≤12:=by lia
 unfold j1;simp only;generalize 1+cell/2%12=size at z0;split
 ·have z1:1≤1+(size+(k:Int))%12∧1+(size+(k:Int))%12≤12:=by lia
  generalize 1+(size+(k:Int))%12=m at z1;have e:=lA (z:=bU) (v:=m) (by lia) (by lia);have el:(Txt.slice bU none (some m)).length=m.toNat:=by rw[←len_list,e,List.length_take,LZ];lia
  refine Eu Zu (by lia) ?_;unfold lows;rw[e,List.all_eq_true];exact fun c hc=>mQ c (List.mem_of_mem_take hc)
 ·have z1:0≤other%size∧other%size<size:=⟨Int.emod_nonneg _ (by lia),Int.emod_lt_of_pos _ (by lia)⟩
  generalize other%size=ji at z1;have e1:=lA (z:=bU) (v:=ji) (by lia) (by lia);have e2:=Et (z:=bU) (u:=ji+1) (v:=size) (by lia) (by lia) (by lia);have l1:(Txt.slice bU none (some ji)).length=ji.toNat:=by rw[←len_list,e1,List.length_take,LZ];lia
  have l2:(Txt.slice bU (some (ji+1)) (some size)).length=size.toNat-(ji+1).toNat:=by rw[←len_list,e2,List.length_take,List.length_drop,LZ];lia
  have el:(Txt.slice bU none (some ji)++(⟨#[97+((other/12+(k:Int))%26).toNat]⟩:Str)++Txt.slice bU (some (ji+1)) (some size)).length=size.toNat:=by
   rw[len_app,len_app,l1,l2];show ji.toNat+1+_=_
   lia
  refine Eu Zu (by lia) ?_;unfold lows;rw[oG,oG,e1,e2,List.all_append,List.all_append];have a1:(bU.cps.toList.take ji.toNat).all low=true:=List.all_eq_true.mpr fun c hc=>mQ c (List.mem_of_mem_take hc)
  have a2:((bU.cps.toList.drop (ji+1).toNat).take (size.toNat-(ji+1).toNat)).all low=true:=List.all_eq_true.mpr fun c hc=>mQ c (List.mem_of_mem_drop (List.mem_of_mem_take hc))
  have a3:=Bn (other/12+(k:Int));rw[a1,a2];simp[a3]
theorem Km{A B:List Nat}{c:Nat}:(A++[c]++B)[A.length]?=some c:=ZA
theorem Ex{bU:Str}(hl:bU.length=12)(cell other:Int){k k':Nat}(hk:k<12)(Ey:k'<12)(e:j1 bU cell other k=j1 bU cell other k'):k=k':=by
 have LZ:=len_list bU;have z0:1≤1+cell/2%12∧1+cell/2%12≤12:=by lia
 unfold j1 at e;simp only at e;generalize 1+cell/2%12=size at z0 e;split at e
 ·have e:=congrArg (fun z:Str=>z.cps.toList.length) e;rw[lA Zu (by lia),lA Zu (by lia),List.length_take,List.length_take,LZ,hl]at e
  lia
 ·have z1:0≤other%size∧other%size<size:=⟨Int.emod_nonneg _ (by lia),Int.emod_lt_of_pos _ (by lia)⟩
  generalize other%size=ji at z1 e;have e1:=lA (z:=bU) (v:=ji) (by lia) (by lia);have l1:(bU.cps.toList.take ji.toNat).length=ji.toNat:=by rw[List.length_take,LZ];lia
  have at_:∀c:Nat,(Txt.slice bU none (some ji)++(⟨#[c]⟩:Str)++Txt.slice bU (some (ji+1)) (some size)).cps.toList[ji.toNat]?=some c:=fun c=>by
   rw[oG,oG,e1];have:=Km (A:=bU.cps.toList.take ji.toNat) (B:=(Txt.slice bU (some (ji+1)) (some size)).cps.toList) (c:=c);rw[l1]at this;exact this
  have e:=congrArg (fun z:Str=>z.cps.toList[ji.toNat]?) e;have e2:=(at_ _).symm.trans (e.trans (at_ _));have e3:=Zp e2
  lia
theorem ZL{bU:Str}(hl:bU.length=12)(cell other:Int){n:Nat}(hn:n≤12):((List.range n).map (j1 bU cell other)).Nodup:=by
 refine List.pairwise_map.mpr ?_;refine List.Pairwise.imp_of_mem (R:=fun a b=>a≠b) (fun{a b} ha hb h e=>h ?_) List.nodup_range;exact Ex hl cell other (by have:=List.mem_range.mp ha;omega) (by have:=List.mem_range.mp hb;omega) e
inductive wJ(vs:List V)(H:Hp)(Q:VK)(u3:XK):Prop
 |mk (cell other many:Int) (_:vs=[.int cell, .int other, .int many]) (_:0≤many) (_:many≤12) (_:∀H' b (zs:List Str),ax H H'→H b=none→H' b=some (.lst (zs.map V.str))→zs.length=many.toNat→(∀z∈zs,sR z=true)→zs.Nodup→Q (.ref b) H'):wJ vs H Q u3
structure c7(zs:List Str)(i j:Nat)(fs:List Form):Prop where
 ok:∀f∈fs,Dr f=true
 nd:(fs.map kY).Nodup
 old:∀f∈fs,∃i' j',(i'<i∨(i'=i∧j'<j))∧zs[i']?=some f.1∧zs[j']?=some f.2.1
 vx:fs.length+(if i<j then 1 else 0)≤i*(zs.length-1)+j
theorem c7.nil{zs:List Str}:c7 zs 0 0 []:=⟨ZA,ZA,ZA,ZA⟩
theorem c7.skip{zs:List Str}{i j:Nat}{fs:List Form}(p:c7 zs i j fs):c7 zs i (j+1) fs:=by
 refine⟨p.ok,p.nd,fun f hf=>?_,?_⟩
 ·obtain⟨i',j',h,r⟩:=p.old f hf;exact⟨i',j',Zx,r⟩
 ·have:=p.vx;split<;>split at this<;>omega
theorem yy{zs:List Str}(hn:zs.Nodup){i j:Nat}{x:Str}(h1:zs[i]?=some x)(h2:zs[j]?=some x):i=j:=by
 obtain⟨a1,b1⟩:=Y7 h1;obtain⟨a2,b2⟩:=Y7 h2;exact(List.getElem_inj hn).mp (b1.trans b2.symm)
theorem c7.add{zs:List Str}{i j:Nat}{fs:List Form}(p:c7 zs i j fs)(hn:zs.Nodup)(hw:∀z∈zs,sR z=true){x y:Str}(hx:zs[i]?=some x)(hy:zs[j]?=some y)(eV:¬x=y){pr:Int}(h0:0≤pr)(h1:pr≤999999):
  c7 zs i (j+1) (fs++[(x,y,pr)]):=by
 have ur:i≠j:=fun e=>eV (by subst e;rw[hx]at hy;exact Zp hy)
 refine⟨fun f hf=>?_,?_,fun f hf=>?_,?_⟩
 ·rcases List.mem_append.mp hf with h|h
  ·exact p.ok f h
  ·have h:f=(x,y,pr):=by simpa using h
   rw[h];have a1:=hw x (Ze hx);have a2:=hw y (Ze hy);simp[Dr,iu,a1,a2,eV,inR,h0,h1]
 ·rw[List.map_append];refine List.nodup_append.mpr ⟨p.nd,ZA,fun a ha b hb e=>?_⟩;have hb:b=kY (x,y,pr):=by simpa using hb
  rw[e,hb]at ha;obtain⟨f,hf,ef⟩:=List.mem_map.mp ha;obtain⟨e1,e2⟩:=(wH f x y).mp ef;obtain⟨i',j',h,r1,r2⟩:=p.old f hf;rw[e1]at r1;rw[e2]at r2;have:=yy hn r1 hx;have:=yy hn r2 hy;omega
 ·rcases List.mem_append.mp hf with h|h
  ·obtain⟨i',j',h,r⟩:=p.old f h;exact⟨i',j',Zx,r⟩
  ·have h:f=(x,y,pr):=by simpa using h
   rw[h];exact⟨i,j,Zx,hx,hy⟩
 ·have:=p.vx;rw[List.length_append];show fs.length+1+_≤_;split<;>split at this<;>omega
theorem c7.row{zs:List Str}{i:Nat}{fs:List Form}(p:c7 zs i zs.length fs)(hi:i<zs.length):c7 zs (i+1) 0 fs:=by
 refine⟨p.ok,p.nd,fun f hf=>?_,?_⟩
 ·obtain⟨i',j',h,r⟩:=p.old f hf;exact⟨i',j',Zx,r⟩
 ·have h:=p.vx;rw[Zk hi]at h;rw[if_neg Zt,Nat.succ_mul];omega
theorem c7.good{zs:List Str}{fs:List Form}(p:c7 zs zs.length 0 fs)(h:zs.length≤8):bO fs=true:=by
 have h1:=p.vx;have h2:zs.length*(zs.length-1)≤8*7:=Nat.mul_le_mul h Zt;rw[if_neg Zt]at h1;have h3:fs.length≤60:=Zx;have h4:fs.all Dr=true:=List.all_eq_true.mpr p.ok;simp[bO,h3,h4,p.nd]
theorem z9{fs:List Form}(h:bO fs=true):Short fs:=by
 simp only[bO,Bool.and_eq_true,decide_eq_true_eq,List.all_eq_true]at h;refine⟨Zx,fun f hf=>?_⟩;have h1:=h.1.2 f hf;simp only[Dr,iu,sR,Bool.and_eq_true,decide_eq_true_eq]at h1;omega
inductive wK(vs:List V)(H:Hp)(Q:VK)(u3:XK):Prop
 |mk (cell same:Int) (b:Addr) (zs:List Str) (_:vs=[.int cell, .ref b, .int same]) (_:H b=some (.lst (zs.map V.str))) (_:zs.length≤8) (_:(∀z∈zs,sR z=true)) (_:zs.Nodup) (_:1≤same) (_:same≤999999) (_:∀H' l xs fs,ax H H'→H l=none→H' l=some (.lst xs)→dR H' xs fs→bO fs=true→Q (.ref l) H'):wK vs H Q u3
inductive sV(vs:List V)(H:Hp)(Q:VK)(u3:XK):Prop
 |mk (x y:Str) (same:Int) (l:Addr) (xs:List V) (fs:List Form) (_:vs=[.str x, .str y, .int same, .ref l]) (_:H l=some (.lst xs)) (_:dR H xs fs) (_:Q (bB (dD same fs x y)) H):sV vs H Q u3
theorem l'{zs:List Str}{i:Nat}{v:V}(h:(zs.map V.str)[i]?=some v):∃x,zs[i]?=some x∧v= .str x:=by
 rw[List.getElem?_map]at h;cases e:zs[i]? with
 |none=>rw[e]at h;cases h
 |some x=>rw[e]at h;exact⟨x,rfl,(Zp h).symm⟩
theorem Ez{fs:List Form}{x y:Str}(h:∀f∈fs,¬(f.1=x∧f.2.1=y)):dY fs x y=none:=by
 have:fs.find? (fun f=>decide (f.1=x∧f.2.1=y))=none:=by
  rw[List.find?_eq_none];intro f hf;simpa using h f hf
 unfold dY;rw[this];rfl
theorem rj:∀{fs:List Form}{i:Nat}{x y x0 y0:Str}{p:Int},fs[i]?=some (x0,y0,p)→(∀f∈fs.take i,¬(f.1=x∧f.2.1=y))→(x0=x∧y0=y)→dY fs x y=some p
 |f::r,0,x,y,x0,y0,p,h,_,e=>by
  have h:f=(x0,y0,p):=by simpa using h
  rw[h];simp[dY,List.find?_cons,e.1,e.2]
 |f::r,i+1,x,y,x0,y0,p,h,hn,e=>by
  have h1:¬(f.1=x∧f.2.1=y):=hn f Zr;have:=rj (fs:=r) (i:=i) (x:=x) (y:=y) (by simpa using h) (fun g hg=>hn g (by simp[hg])) e;simpa[dY,List.find?_cons,h1]using this
def sw(f:Form):Form:=(f.2.1,f.1,f.2.2)
inductive nc(K:W.Frag)(vs:List V)(H:Hp)(Q:VK)(u3:XK):Prop
 |mk (a:Addr) (ns:List Int) (k:Int) (_:vs=[.ref a, .int k]) (_:iA K H a (ns.map V.int)) (_:0≤k) (_:∀H' D (s o i l:Int),ax H H'→H D=none→H' D=some (.lst [.int s, .int o, .int i, .int l])→(1≤s∧s≤999999)→(0≤o∧o≤999999)→(0≤i∧i≤999999)→(1≤l∧l≤999999)→Q (.ref D) H'):nc K vs H Q u3
theorem kq.same{H H':Hp}{C x:Addr}{n:Nums}{fs:List Form}{dx l d:Addr}{xs:List V}(T:kq H C x n fs dx l d xs)(s:ax H H'):kq H' C x n fs dx l d xs:=⟨s _ _ T.ob,s _ _ T.own,s _ _ T.li,T.tr.same s,s _ _ T.di⟩
theorem GU{is:List Int}(h:is.length=4):∃a b c d,is=[a,b,c,d]:=by
 match is,h with
 |[a,b,c,d],_=>exact⟨a,b,c,d,rfl⟩
theorem SameBut.ZI{x dx C:Addr}{H H':Hp}(hx:H x=none)(EA:H dx=none)(s:SameBut x (L2.upd (L2.upd H dx (.own x)) x (.ins C dx [])) H'):ax H H':=fun b u e=>by
 have n1:b≠x:=aE e hx;have n2:b≠dx:=aE e EA;exact s b u n1 (by rw[ao n1,ao n2];exact e)
end QF
namespace L2
open PySem PySem.Spec PyProof.Rows PySem.W PySem.Calls
section
variable{X:Cx}{pins:List (Addr×Obj)}{σ:St}{H:Hp}{s:Shared}{h':Heap}
theorem Inv.GV{t':Nat}{fp:List Addr}(I:Inv X pins σ H s)(hf:∀b∈fp,iq X pins H b)(k:∀b o,b∉fp→s.heap.get? b=some o→h'.get? b=some o):Inv X pins σ H {s with heap:=h',toks:=t'}:=by
 have HZ:∀b u,H b=some u→b∉fp:=fun b u e z=>by rw[(hf b z).1]at e;cases e
 refine I.step (g':=s.gens) (d':=s.drawn) (ch:=fp) (fun b hb=>?_) (fun b o _ _ hc e _=>k b o hc e) (fun b o _ _ hc e _=>⟨o.slots,k b o hc e⟩) (fun _ _ _ _ n=>n)
  (fun b o hc e=>⟨o,k b o hc e⟩) (fun _ _ e=>e) (fun _ _ _ e=>e) (fun b ps e=>⟨#[],by rw[e];simp⟩) (fun m hm=>?_) (fun b u e=>?_) I.bare
 ·obtain⟨_,f1,_,f3,f4,f5⟩:=hf b hb;exact⟨f3,f1,f4,f5⟩
 ·obtain⟨o,es,ep,ho,r⟩:=hm;exact⟨o,es,ep,k _ o (fun z=>(hf _ z).2.1 rfl) ho,r⟩
 ·refine(I.bX b u e).vV (fun c v hc q=>k c v ?_ q) (fun _ q=>q) fun _ _ q=>q
  rcases hc with z|z
  ·rw[z];exact HZ b u e
  ·exact HZ c _ z
theorem Inv.Bo{t':Nat}{fp:List Addr}{T:Addr}{u:HO}(I:Inv X pins σ H s)(hf:∀b∈fp,iq X pins H b)(hT:iq X pins H T)(k:∀b o,b∉fp→s.heap.get? b=some o→h'.get? b=some o)
  (new:cS X.prog X.w (upd H T u) h' T u):Inv X pins σ (upd H T u) {s with heap:=h',toks:=t'}:=by
 have HZ:∀b u,H b=some u→b∉fp:=fun b u e z=>by rw[(hf b z).1]at e;cases e
 have nT:∀b v,H b=some v→b≠T:=fun b v e z=>by rw[z,hT.1]at e;cases e
 refine I.step (g':=s.gens) (d':=s.drawn) (ch:=T::fp) (fun b hb=>?_) (fun b o _ _ hc e _=>k b o (fun z=>hc (List.mem_cons_of_mem _ z)) e) (fun b o _ _ hc e _=>⟨o.slots,k b o (fun z=>hc (List.mem_cons_of_mem _ z)) e⟩) (fun b _ hc _ n=>?_)
  (fun b o hc e=>⟨o,k b o (fun z=>hc (List.mem_cons_of_mem _ z)) e⟩) (fun b xs e=>by rw[ao (nT b _ e)];exact e) (fun b o v e=>by rw[ao (nT b _ e)];exact e) (fun b ps e=>⟨#[],by rw[ao (nT b _ e),e];simp⟩) (fun m hm=>?_) (fun b v e=>?_) I.bare
 ·rcases List.mem_cons.mp hb with z|z
  ·subst z;obtain⟨_,f1,_,f3,f4,f5⟩:=hT;exact⟨f3,f1,f4,f5⟩
  ·obtain⟨_,f1,_,f3,f4,f5⟩:=hf b z;exact⟨f3,f1,f4,f5⟩
 ·rw[ao (fun z=>hc (by simp[z]))];exact n
 ·obtain⟨o,es,ep,ho,r⟩:=hm;exact⟨o,es,ep,k _ o (fun z=>(hf _ z).2.1 rfl) ho,r⟩
 ·by_cases hb:b=T
  ·subst hb;rw[ae]at e;cases e;exact new
  ·rw[ao hb]at e;refine(I.bX b v e).vV (fun c v' hc q=>k c v' ?_ q) (fun c q=>by rw[ao (nT c _ q)];exact q) fun c xs q=>by rw[ao (nT c _ q)];exact q
   rcases hc with z|z
   ·rw[z];exact HZ b v e
   ·exact HZ c _ z
theorem Inv.swap{d:Addr}{u u':HO}(I:Inv X pins σ H s)(e:H d=some u)(ht:∀xs,u≠ .tup xs)(ho:∀x,u≠ .own x)(hb:∀ps,u≠ .F_ ps)(hf:∀o v,X.eW d≠some (.r9 o v))(new:cS X.prog X.w (upd H d u') s.heap d u'):Inv X pins σ (upd H d u') s:=by
 have nd:∀b,H b=none→b≠d:=fun b n z=>by rw[z,e]at n;cases n
 have nt:∀b xs,H b=some (.tup xs)→b≠d:=fun b xs q z=>by rw[z,e]at q;cases q;exact ht xs rfl
 have no:∀b x,H b=some (.own x)→b≠d:=fun b xs q z=>by rw[z,e]at q;cases q;exact ho xs rfl
 refine⟨I.ok,I.os,I.bare,⟨I.base.keep,I.base.slot,fun b o q n hx=>?_,I.base.there,fun b xs q=>?_,fun b o v q=>?_,fun b ps q=>?_⟩,I.loc,I.cell,?_,fun x c q=>?_,fun p hp=>?_,fun b v q=>?_,I.len⟩
 ·have z:=I.base.free b o q n hx;rw[ao (nd b z)];exact z
 ·have z:=I.base.cI b xs q;rw[ao (nt b xs z)];exact z
 ·have z:=I.base.n9 b o v q;rw[ao (fun y=>by subst y;exact hf o v q)];exact z
 ·obtain⟨m,z⟩:=I.base.rH b ps q;exact⟨m,by rw[ao (fun y=>by rw[y,e]at z;cases z;exact hb _ rfl)];exact z⟩
 ·rw[ao (nd _ I.free)];exact I.free
 ·rw[ao (nd _ (I.mL x c q))];exact I.mL x c q
 ·obtain⟨p1,p2,p3⟩:=I.pin p hp;exact⟨p1,by rw[ao (nd _ p2)];exact p2,p3⟩
 ·by_cases Ui:b=d
  ·subst Ui;rw[ae]at q;cases q;exact new
  ·rw[ao Ui]at q;exact(I.bX b v q).vV (fun c v' _ z=>z) (fun c z=>by rw[ao (no c _ z)];exact z) fun c xs z=>by rw[ao (nt c _ z)];exact z
end
def L0(K:Frag)(a:Addr):It:=
 ⟨fun i H=>∃xs x,iA K H a xs∧xs[i]?=some x,fun i H x H'=>∃T y,x= .ref T∧H T=none∧H'=upd H T (.tup [.int i,y])∧∀xs,iA K H a xs→xs[i]?=some y,fun i H=>∃xs,iA K H a xs∧xs.length≤i⟩
theorem Cv{P:Program}{w:World}{K:Frag}{elts:List Expr}{n:Nat}{pos:Pos}(a e it:Addr)(eV:e≠it):
  Turn P w K (.Tuple elts n pos) (L0 K a) [e,it] e (fun i h=>(∃old,IsEnum h e it (i:Nat) old)∧h.IsListIter it a i) where
 mem:=ZA
 obj:=fun i h st b hb=>by
  obtain⟨⟨old,s1⟩,o,s2,_,s3⟩:=st;rcases List.mem_cons.mp hb with z|z
  ·subst z;exact⟨_,s1,fun v z=>by
    have z':Data.fields _=Data.cell v:=z;cases z'⟩
  ·have e:b=it:=by simpa using z
   subst e;exact⟨o,s2,fun v z=>by rw[s3]at z;cases z⟩
 keep:=fun i h h' st k=>⟨⟨st.1.choose,k e Zr _ st.1.choose_spec⟩,st.2.at fun o q=>k it (ZA) o q⟩
 item:=by
  intro X hP hw hK hc i pins s σ H E I hf st hg;subst hP hw hK;obtain⟨xs,x,hq,hx⟩:=hg;obtain⟨⟨old,s1⟩,s2⟩:=st;obtain⟨its,rv,p,hz⟩:=I.list hq;obtain⟨u,hu,ru⟩:=rv.get hx;refine wpAny_pyNext_enum_item s1 s2 p.isList (x:=u) (by simpa using hu) eV fun h' o1 o2 o3 o4 o5=>?_
  refine⟨_,rfl,wpAny_letOwnedTupleGo_enum (s:={s with heap:=h',toks:=s.toks+1}) o1 fun h2 q1 q2=>?_⟩;have vz:h2.get? s.heap.objs.size=some {cls:=Value.type "tuple",data:=Data.seq #[Value.int (↑i) s.toks,u]}:=by
   exact(q2.2 _ (Nat.ne_of_gt (Heap.lt_size s1))).trans o3
  have hT:iq X pins H s.heap.objs.size:=I.uy (Nat.le_refl _) (I.bX.fresh (Nat.le_refl _));have I1:Inv X pins σ (upd H s.heap.objs.size (.tup [.int i,x])) {s with heap:=h2,toks:=s.toks+1}:=by
   refine I.Bo hf hT (fun b o hb q=>?_) ⟨by simp[sizeLine],[Value.int (↑i) s.toks,u], .cons ⟨_,rfl⟩ (.cons ru .nil),?_⟩
   ·have b1:b≠e:=fun z=>hb (by simp[z])
    have b2:b≠it:=fun z=>hb (by simp[z])
    exact(q2.2 b b1).trans (o5 b o b1 b2 q)
   ·exact⟨_,vz,rfl,_,rfl⟩
  refine⟨.ref s.heap.objs.size,_,I1,rfl,⟨_,x,rfl,hT.1,rfl,fun ys hy=>by rw[I.yh hy hq];exact hx⟩,⟨⟨u,by simpa using q1⟩,o2.at fun o q=>(q2.2 it (Ne.symm eV)).trans q⟩,fun b hb=>?_⟩;rw[ao (fun z=>?_)]
  ·exact(hf b hb).1
  ·have h1:=Heap.lt_size s1;obtain⟨_,h2,_⟩:=s2;have h3:=Heap.lt_size h2;rcases List.mem_cons.mp hb with y|y
   ·rw[z.symm.trans y]at h1;exact absurd h1 (Nat.lt_irrefl _)
   ·have:b=it:=by simpa using y
    rw[z.symm.trans this]at h3;exact absurd h3 (Nat.lt_irrefl _)
 done:=by
  intro X hP hw hK hc i pins s σ H E I hf st hg;subst hP hw hK;obtain⟨xs,hq,hx⟩:=hg;obtain⟨⟨old,s1⟩,s2⟩:=st;obtain⟨its,rv,p,hz⟩:=I.list hq;have hl:=rv.length;exact wpAny_pyNext_enum_end (I.ok.hd hc) s1 s2 p.isList (by simp;omega) fun h' eb=>⟨rfl,I.GV (t':=s.toks) hf (fun b o hb q=>eb b o (fun z=>hb (by simp[z])) q)⟩
 self:=fun _ _ _ _ _ st h=>wpAny_pyIter_enum st.1.choose_spec h
section
variable{X:Cx}{tg:Expr}
def ID(K:Frag)(ta:TA):TI:=fun σ H R=>ta σ H fun vs H1=>∃a,vs=[.ref a]∧(∃xs,iA K H1 a xs)∧R (L0 K a) H1
theorem GW{elts:List Expr}{n:Nat}{tp:Pos}{a:Expr}{ta:TA}{p pos:Pos}(hg:Gl X "enumerate")(hm:X.mg "enumerate"=none)(ha:PA X [a] ta)(hs:starEach [a] X.env=[(false,eval a X.env)]:=by rfl):
  PI X (.Tuple elts n tp) (.Call (.Name "enumerate" p) [a] [] pos) (ID X.K ta):=by
 intro pins s σ H R I h;refine Call_ (lh I hg hm boot_enumerate (PyProof.Rows.callWith_type1 (cK (ha pos pins s σ H _ I h) fun us s1 ⟨vs,H1,I1,r1,q1⟩=>?_) hs rfl));obtain⟨l,e,⟨xs,hq⟩,q⟩:=q1;subst e;cases r1 with
 |cons r rr=>
  cases rr;cases r;obtain⟨its,rv,p,hz⟩:=I1.list hq;refine call_enumerate_list p.isList fun h' o1 o2 o3 o4=>?_
  refine wpAny_pyIter_enum (s:={s1 with heap:=h'}) o1 ?_;refine⟨s1.heap.objs.size+1,[s1.heap.objs.size+1,s1.heap.objs.size],_,_,H1,rfl,I1.kept (t':=s1.toks) o4,Cv l _ _ (Nat.succ_ne_self _),⟨⟨_,o1⟩,o2⟩,fun b hb=>?_,q⟩;have L1:s1.heap.objs.size≤b:=by
   rcases List.mem_cons.mp hb with y|y
   ·rw[y];exact Nat.le_succ _
   ·have:b=s1.heap.objs.size:=by simpa using y
    exact Nat.le_of_eq this.symm
  exact I1.uy L1 (I1.bX.fresh L1)
end
theorem oH{X:Cx}(K:Frag){elts:List Expr}{n:Nat}{tp:Pos}{a:Expr}{ta:TA}{p pos:Pos}(hg:Gl X "enumerate")(hm:X.mg "enumerate"=none)(ha:PA X [a] ta)(hs:starEach [a] X.env=[(false,eval a X.env)]:=by rfl)(h:X.K=K:=by rfl):
  PI X (.Tuple elts n tp) (.Call (.Name "enumerate" p) [a] [] pos) (ID K ta):=h▸GW hg hm ha hs
theorem yz{K:Frag}{a:Addr}{xs:List V}{g:TG}{tb:TS}{D:Ends}{σ:St}{H:Hp}(Pv:Nat→St→Hp→Prop)(h0:Pv 0 σ H)(hl:∀i σ H,i≤xs.length→Pv i σ H→iA K H a xs)
  (hs:∀i x T σ H,xs[i]?=some x→Pv i σ H→H T=none→g (.ref T) σ (upd H T (.tup [.int i,x])) fun fV H2=>tb {D with nx:=Pv (i+1),ct:=Pv (i+1),bk:=D.nx} fV H2) (hd:∀σ H,Pv xs.length σ H→D.nx σ H):
  ∃W:Nat→Nat→St→Hp→Prop,(∃m,W 0 m σ H)∧∀i m σ H,W i m σ H→
   ((L0 K a).stop i H∧D.nx σ H)∨((L0 K a).go i H∧∃N:St→Hp→Prop,(∀bH H',N bH H'→∃m',m'<m∧W (i+1) m' bH H')∧∀x H',(L0 K a).Gb i H x H'→g x σ H' fun fV H2=>tb {D with nx:=N,ct:=N,bk:=D.nx} fV H2):=by
 refine⟨fun i m σ H=>m=xs.length-i∧i≤xs.length∧Pv i σ H,⟨xs.length,ZA,Nat.zero_le _,h0⟩,?_⟩;rintro i m σ H ⟨rfl,hi,p⟩;have hq:=hl i σ H hi p;by_cases h_:i<xs.length
 ·refine .inr ⟨⟨xs,xs[i],hq,by simp[h_]⟩,Pv (i+1),fun bH H' p'=>⟨xs.length-(i+1),Zx,rfl,h_,p'⟩,fun x H' y=>?_⟩;obtain⟨T,y,rfl,hT,rfl,hy⟩:=y;exact hs i y T σ H (hy xs hq) p hT
 ·have e:i=xs.length:=Zx;subst e;exact .inl ⟨⟨xs,hq,Nat.le_refl _⟩,hd σ H p⟩
def NF(eW:Hp)(d:Addr):Prop:=∀o v,eW d≠some (.r9 o v)
section
variable{X:Cx}{tg:Expr}
end
end L2
namespace QF
open PySem L2
inductive wL(K:W.Frag)(vs:List V)(H:Hp)(Q:VK)(u3:XK):Prop
 |mk (a b:Addr) (ns:List Int) (zs:List Str) (c p m:Int) (_:vs=[.ref a, .int c, .int p, .int m, .ref b]) (_:iA K H a (ns.map V.int)) (_:H b=some (.lst (zs.map V.str))) (_:(1≤zs.length∧zs.length≤1000)) (_:0≤p) (_:0≤m) (_:m≤1000) (_:∀H' l (ws:List Str),ax H H'→H l=none→H' l=some (.lst (ws.map V.str))→ws.length=m.toNat→(∀w∈ws,w∈zs)→Q (.ref l) H'):wL K vs H Q u3
inductive Aa(vs:List V)(H:Hp)(Q:VK)(u3:XK):Prop
 |mk (a b:Addr) (is:List Int) (_:vs=[.ref a, .ref b]) (_:H a=some (.lst (is.map V.int))) (_:H b=some (.lst (is.map V.int))) (_:is.length≤10000) (_:Q (.bl true) H):Aa vs H Q u3
inductive sW(vs:List V)(H:Hp)(Q:VK)(u3:XK):Prop
 |mk (a b:Addr) (ws:List Str) (_:vs=[.ref a, .ref b]) (_:H a=some (.lst (ws.map V.str))) (_:H b=some (.lst (ws.map V.str))) (_:ws.length≤1000) (_:Q (.bl true) H):sW vs H Q u3
end QF
namespace L2
open PySem PySem.Spec PyProof.Rows PySem.W PySem.Calls
section
variable{X:Cx}
theorem Bp(K:Frag){T:String}{name:Str}{id:String}{r:V→List V→Hp→VK→Prop}{o:Expr}{apos eF:Pos}{to:TE}(pa:PlainAttrs T)(slot:Slot T name id)(Dq:typeOf (.builtin id)=pure (.type "method_descriptor"))(hm:Pf X id r)(ho:PE X o to)
  (ot:attributeBase o name X.env (eval o X.env)=eval o X.env:=by rfl) (ow:(apos.endLine==eF.line)=true:=by rfl) (hK:X.K=K:=by rfl):PE X (.Call (.Attribute o name apos) [] [] eF) (Nl K T r to):=hK▸J8 pa slot Dq hm ho ot ow
end
end L2
namespace QF
open PySem L2
def Rk(c:Nat):Bool:=decide (65≤c)&&decide (c≤90)
def conv(c:Nat):Nat:=if low c=true then c else if Rk c=true then c+32 else 32
abbrev great:Str:=Str.ofString "ABCDEFGHIJKLMNOPQRSTUVWXYZ"
def rd(st:KWd.St)(cs:List Nat):KWd.St:=(cs.map conv).foldl KWd.step st
abbrev both:Str:=Str.ofString "abcdefghijklmnopqrstuvwxyzABCDEFGHIJKLMNOPQRSTUVWXYZ"
abbrev marks:Str:=Str.ofString " .,-'0123456789!?()[]{}@`_~/:;<=>#$&*+|^\\\""
end QF
namespace L2
open PySem PySem.Spec PyProof.Rows PySem.W PySem.Calls
section
variable{X:Cx}
def Uj(xs ys:List V)(f:Nat→Bool):Prop:=∀(j:Nat)(x y:V),xs[j]?=some x→ys[j]?=some y→(rh x=true∧rh y=true∧f j=we x y)∨(∃a,x= .ref a∧y= .ref a∧f j=true)
theorem EB{A:Around}{s:Shared}{xs ys:List V}{its fD:List Value}{f:Nat→Bool}(r:Vals xs its)(r2:Vals ys fD)(h:Uj xs ys f):
  ∀j (h1:j<its.toArray.size) (h2:j<fD.toArray.size),SeqAt.EqAt A s its.toArray[j] fD.toArray[j] (f j):=fun j h1 h2=>by
 have L3:j<xs.length:=by have:=r.length;simp at h1;omega
 have IE:j<ys.length:=by have:=r2.length;simp at h2;omega
 obtain⟨a1,e1,q1⟩:=r.get (i:=j) (x:=xs[j]) (by simp[L3]);obtain⟨a2,e2,q2⟩:=r2.get (i:=j) (x:=ys[j]) (by simp[IE]);have g1:its.toArray[j]=a1:=by simpa[List.getElem?_eq_some_iff]using(Y7 e1).2
 have g2:fD.toArray[j]=a2:=by simpa[List.getElem?_eq_some_iff]using(Y7 e2).2
 rw[g1,g2];rcases h j xs[j] ys[j] (by simp[L3]) (by simp[IE])with⟨f1,f2,ef⟩|⟨a,ex,ey,ef⟩
 ·rw[ef];exact wg q1 q2 f1 f2
 ·rw[ef];rw[ex]at q1;rw[ey]at q2;cases q1;cases q2;exact SeqAt.EqAt.same _
inductive NU(K:Frag)(x:V)(y:V)(H:Hp)(Q:VK):Prop
 |mk (p:_) (q:_) (xs:_) (ys:_) (f:_) (_:x= .ref p) (_:y= .ref q) (_:iA K H p xs) (_:iA K H q ys) (_:Uj xs ys f) (_:Q (.bl (decide (xs.length=ys.length)&&(List.range xs.length).all f)) H):NU K x y H Q
theorem yA(K:Frag)(hu:X.A.units<cLine)(hK:X.K=K:=by rfl):rJ X (compareOp .Eq) (NU K):=by
 subst hK;intro pins s σ H x y v u Q I rx ry h;obtain⟨p,q,xs,ys,f,rfl,rfl,hp,hq,hf,k⟩:=h;cases rx;cases ry;obtain⟨its,r,pl,hz⟩:=I.list hp;obtain⟨fD,r2,Kl,NP⟩:=I.list hq;have l1:=r.length;have l2:=r2.length;obtain⟨⟨cls,dd,data,sl⟩,ho,hc,n,hd⟩:=id pl.isList;obtain⟨⟨NQ,Ep,data2,xW⟩,ZC,wu,n2,hd2⟩:=id Kl.isList;simp only at hc hd wu hd2;subst hc hd wu hd2;by_cases e:xs.length=ys.length
 ·have hsz:its.toArray.size=fD.toArray.size:=by rw[List.size_toArray,List.size_toArray];omega
  refine richCompare_meets_room (op:= .Eq) ⟨_,ho,rfl⟩ ⟨_,ZC,rfl⟩ F.slot_list_eq F.entry_list_eq (F.args_list_eq_2 _ _) (SeqAt.list_eqAt p q its.toArray fD.toArray n n2 dd Ep sl xW hsz f) ⟨ho,ZC,EB r r2 hf,?_⟩ hu;rw[decide_eq_true e,Bool.true_and]at k;refine⟨(fun x=>nomatch x), .bl ((List.range xs.length).all f),H,I,?_,k⟩;rw[List.size_toArray,←l1];rfl
 ·have hsz:(its.toArray.size !=fD.toArray.size)=true:=by
   rw[List.size_toArray,List.size_toArray];simp;omega
  refine richCompare_meets_room (op:= .Eq) ⟨_,ho,rfl⟩ ⟨_,ZC,rfl⟩ F.slot_list_eq F.entry_list_eq (F.args_list_eq_2 _ _) (SeqAt.list_eq_lengthsAt p q its.toArray fD.toArray n n2 dd Ep sl xW hsz) ⟨ho,ZC,?_⟩ hu;rw[decide_eq_false e,Bool.false_and]at k;exact⟨(fun x=>nomatch x), .bl false,H,I,rfl,k⟩
end
section
variable{X:Cx}
end
end L2
namespace QF
open PySem L2
abbrev Pr:=Int×Int
def jo(p:Pr):List V:=[.int p.1, .int p.2]
def f7(H:Hp)(vs:List V)(ps:List Pr):Prop:=vs.length=ps.length∧∀(i:Nat)(p:Pr),ps[i]?=some p→∃t,vs[i]?=some (V.ref t)∧H t=some (.tup (jo p))
theorem f7.nil{H:Hp}:f7 H [] []:=⟨rfl,fun i f e=>by simp at e⟩
theorem f7.cI{H H':Hp}{xs:List V}{fs:List Pr}(T:f7 H xs fs)(k:e6 H H'):f7 H' xs fs:=⟨T.1,fun i f e=>let ⟨b,h1,h2⟩:=T.2 i f e;⟨b,h1,k _ _ h2⟩⟩
theorem f7.same{H H':Hp}{xs:List V}{fs:List Pr}(t:f7 H xs fs)(s:ax H H'):f7 H' xs fs:=t.cI (e6.same s)
theorem f7.append{H:Hp}{xs ys:List V}{fs gs:List Pr}(T:f7 H xs fs)(U:f7 H ys gs):f7 H (xs++ys) (fs++gs):=by
 refine⟨by simp[T.1,U.1],fun i p e=>?_⟩;by_cases h:i<fs.length
 ·rw[List.getElem?_append_left h]at e;obtain⟨b,h1,h2⟩:=T.2 i p e;exact⟨b,by rw[List.getElem?_append_left (by rw[T.1];exact h)];exact h1,h2⟩
 ·rw[List.getElem?_append_right Zt]at e;obtain⟨b,h1,h2⟩:=U.2 _ p e;exact⟨b,by rw[List.getElem?_append_right (by rw[T.1];omega),T.1];exact h1,h2⟩
theorem f7.one{H:Hp}{t:Addr}{p:Pr}(ht:H t=some (.tup (jo p))):f7 H [.ref t] [p]:=by
 refine⟨rfl,fun i q e=>?_⟩
 match i,e with
 |0,e=>cases e;exact⟨t,rfl,ht⟩
 |i+1,e=>simp at e
theorem f7.take{H:Hp}{xs:List V}{fs:List Pr}(T:f7 H xs fs)(k:Nat):f7 H (xs.take k) (fs.take k):=by
 refine⟨by simp[T.1],fun i p e=>?_⟩;rw[List.getElem?_take]at e;split at e
 ·rename_i h
  obtain⟨b,h1,h2⟩:=T.2 i p e;exact⟨b,by rw[List.getElem?_take,Zk h];exact h1,h2⟩
 ·cases e
def pr(ps:List Pr)(k:Nat):Pr:=ps.getD k (0,0)
theorem IF{ps:List Pr}{k:Nat}(h:k<ps.length):ps[k]?=some (pr ps k):=by
 simp[pr,h]
theorem f7.Kn{H:Hp}{xs:List V}{ps:List Pr}(T:f7 H xs ps){k:Nat}(h:k<ps.length):∃t,xs[k]?=some (V.ref t)∧H t=some (.tup [.int (pr ps k).1, .int (pr ps k).2]):=T.2 k _ (IF h)
theorem Br{ps:List Pr}{k n:Nat}(h:k<n):pr (ps.take n) k=pr ps k:=by
 simp[pr,List.getD_eq_getElem?_getD,List.getElem?_take,h]
theorem gX{ps:List Pr}{p:Pr}{k:Nat}(h:k<ps.length):pr (ps++[p]) k=pr ps k:=by
 simp[pr,List.getD_eq_getElem?_getD,List.getElem?_append_left h]
theorem sk{ps:List Pr}{p:Pr}:pr (ps++[p]) ps.length=p:=by
 simp[pr,List.getD_eq_getElem?_getD]
structure Case where
 xs:List Str
 ys:List Str
 same:Int
 out:Int
 into:Int
 least:Int
 fs:List Form
structure j4(H:Hp)(a:Addr)(c:Case)(f g m l:Addr)(vs:List V):Prop where
 ca:H a=some (.lst [.ref f, .ref g, .ref m, .ref l])
 fi:H f=some (.lst (c.xs.map V.str))
 se:H g=some (.lst (c.ys.map V.str))
 nu:H m=some (.lst [.int c.same, .int c.out, .int c.into, .int c.least])
 ne:H l=some (.lst vs)
 tr:dR H vs c.fs
theorem j4.keep{H H':Hp}{a:Addr}{c:Case}{f g m l:Addr}{vs:List V}(C:j4 H a c f g m l vs)(s:ax H H'):j4 H' a c f g m l vs:=⟨s _ _ C.ca,s _ _ C.fi,s _ _ C.se,s _ _ C.nu,s _ _ C.ne,C.tr.same s⟩
structure e7(most:Nat)(c:Case):Prop where
 x:c.xs.length≤most
 y:c.ys.length≤most
 good:bO c.fs=true
 same:1≤c.same∧c.same≤999999
 out:0≤c.out∧c.out≤999999
 into:0≤c.into∧c.into≤999999
 least:1≤c.least∧c.least≤999999
def wd(xs:List Str)(i:Int):Option Str:=if 0≤i then xs[i.toNat]? else none
theorem sX{xs:List Str}{i:Nat}:wd xs (i:Int)=xs[i]?:=by simp[wd]
theorem vG{xs:List Str}{i:Int}(h0:0≤i)(h:i<(xs.length:Int)):∃x,wd xs i=some x∧rg (xs.map V.str) i=some (.str x):=by
 obtain⟨j,rfl⟩:=Int.eq_ofNat_of_zero_le h0;have hj:j<xs.length:=Zx;exact⟨xs[j],by rw[sX];simp[hj],av (by simp[hj])⟩
theorem Bs{xs:List Str}{i:Int}{x:Str}(h:wd xs i=some x):0≤i∧i<(xs.length:Int):=by
 unfold wd at h;split at h
 ·have:=(Y7 h).1;omega
 ·cases h
def Case.pw(c:Case)(p:Pr):Option Int:=(wd c.xs p.1).bind fun x=>(wd c.ys p.2).bind fun y=>dD c.same c.fs x y
theorem Case.pw_of{c:Case}{p:Pr}{x y:Str}(h1:wd c.xs p.1=some x)(h2:wd c.ys p.2=some y):c.pw p=dD c.same c.fs x y:=by simp[Case.pw,h1,h2]
theorem Case.pw_in{c:Case}{p:Pr}{w:Int}(h:c.pw p=some w):(0≤p.1∧p.1<(c.xs.length:Int))∧(0≤p.2∧p.2<(c.ys.length:Int)):=by
 unfold Case.pw at h;cases e1:wd c.xs p.1 with
 |none=>rw[e1]at h;cases h
 |some x=>
  cases e2:wd c.ys p.2 with
  |none=>rw[e1,e2]at h;cases h
  |some y=>exact⟨Bs e1,Bs e2⟩
theorem Case.pw_out{c:Case}{p:Pr}(h:¬((0≤p.1∧p.1<(c.xs.length:Int))∧(0≤p.2∧p.2<(c.ys.length:Int)))):c.pw p=none:=by
 cases e:c.pw p with
 |none=>rfl
 |some w=>exact absurd (c.pw_in e) h
def stepOk(q p:Pr):Bool:=decide (q.1<p.1)&&decide (q.2<p.2)
def Case.gap(c:Case)(q p:Pr):Int:=c.out*(p.1-q.1-1)+c.into*(p.2-q.2-1)
def cT(c:Case)(ps:List Pr)(k:Nat):Bool:=(c.pw (pr ps k)).isSome&&(decide (k=0)||stepOk (pr ps (k-1)) (pr ps k))
def lB(c:Case)(ps:List Pr)(n:Nat):Prop:=∀k,k<n→cT c ps k=true
def i5(c:Case)(ps:List Pr):Bool:=!ps.isEmpty&&(List.range ps.length).all (cT c ps)
def dF(c:Case)(ps:List Pr):Nat→Int
 |0=>(c.pw (pr ps 0)).getD 0
 |k+1=>(c.pw (pr ps (k+1))).getD 0+dF c ps k-c.gap (pr ps k) (pr ps (k+1))
theorem j5{c:Case}{ps:List Pr}(h:ps≠[])(g:lB c ps ps.length):i5 c ps=true:=by
 have h1:ps.isEmpty=false:=by simpa using h
 have h2:(List.range ps.length).all (cT c ps)=true:=List.all_eq_true.mpr fun k hk=>g k (by simpa using hk)
 simp[i5,h1,h2]
theorem EC{c:Case}{ps:List Pr}{k:Nat}(hk:k<ps.length)(g:cT c ps k=false):i5 c ps=false:=by
 have h2:(List.range ps.length).all (cT c ps)=false:=by
  rw[Bool.eq_false_iff];intro z;rw[List.all_eq_true]at z;rw[z k (by simpa using hk)]at g;cases g
 simp[i5,h2]
theorem i6{c:Case}{ps:List Pr}(h:i5 c ps=true):ps≠[]∧lB c ps ps.length:=by
 simp only[i5,Bool.and_eq_true,List.all_eq_true]at h;refine⟨fun z=>by subst z;simp at h,fun k hk=>h.2 k (by simpa using hk)⟩
theorem lB.next{c:Case}{ps:List Pr}{n:Nat}(h:lB c ps n)(g:cT c ps n=true):lB c ps (n+1):=fun k hk=>by
 by_cases e:k=n
 ·rw[e];exact g
 ·exact h k (Zx)
theorem GX{c:Case}{ps:List Pr}{k:Nat}(h:cT c ps k=true):∃w,c.pw (pr ps k)=some w:=by
 simp only[cT,Bool.and_eq_true]at h;exact Option.isSome_iff_exists.mp h.1
theorem Ab{c:Case}{ps:List Pr}(h:i5 c ps=true){n:Nat}(hn:0<n):i5 c (ps.take n)=true:=by
 obtain⟨h1,h2⟩:=i6 h;have hp:0<ps.length:=List.length_pos_iff.mpr h1;refine j5 (fun z=>?_) fun k hk=>?_
 ·have:(ps.take n).length=0:=by rw[z];rfl
  rw[List.length_take]at this;omega
 ·rw[List.length_take]at hk;have:=h2 k (Zx);simp only[cT]at this⊢;rw[Br (by omega:k<n),Br (by omega:k-1<n)];exact this
theorem Cw{c:Case}{ps:List Pr}{p:Pr}(g:lB c ps ps.length)(h:(c.pw p).isSome=true)(f:ps=[]∨stepOk (pr ps (ps.length-1)) p=true):lB c (ps++[p]) (ps.length+1):=fun k hk=>by
 by_cases e:k<ps.length
 ·have:=g k e;simp only[cT]at this⊢;rw[gX e];by_cases k0:k=0
  ·subst k0;simpa using this
  ·rw[gX (by omega:k-1<ps.length)];exact this
 ·have:k=ps.length:=Zx;subst this;simp only[cT];rw[sk,h];rcases f with f|f
  ·subst f;rfl
  ·by_cases e0:ps.length=0
   ·simp[e0]
   ·rw[gX Zt,f];simp
theorem Ko{xs:List V}{i:Int}(h0:0≤i)(h:i≤(xs.length:Int)):yp xs none (some i)=xs.take i.toNat:=by
 have e0:HT.jX xs.length 0 none=0:=by simp[HT.jX]
 unfold yp;rw[e0,sj h0 h];simp
structure IG(c:Case):Prop where
 out:0≤c.out∧c.out≤999999
 into:0≤c.into∧c.into≤999999
theorem e7.num{m:Nat}{c:Case}(h:e7 m c):IG c:=⟨h.out,h.into⟩
def wM(H:Hp)(CT t:Addr)(c:Case):Prop:=∃n dx l d vs,kq H CT t n c.fs dx l d vs∧n.same=c.same∧n.out=c.out∧n.into=c.into∧n.least=c.least
theorem wM.keep{H H':Hp}{CT t:Addr}{c:Case}(T:wM H CT t c)(s:ax H H'):wM H' CT t c:=by
 obtain⟨n,dx,l,d,vs,T,r⟩:=T;exact⟨n,dx,l,d,vs,T.same s,r⟩
inductive sY(K:W.Frag)(vs:List V)(H:Hp)(Q:VK)(u3:XK):Prop
 |mk (a b x:Addr) (ns:List Int) (zs ws:List Str) (c p m:Int) (_:vs=[.ref a, .int c, .int p, .int m, .ref x, .ref b]) (_:iA K H a (ns.map V.int)) (_:H b=some (.lst (zs.map V.str))) (_:H x=some (.lst (ws.map V.str))) (_:(1≤zs.length∧zs.length≤1000)) (_:ws.length≤1000) (_:(∀w∈ws,w∈zs)) (_:0≤p) (_:0≤m) (_:m≤1000) (_:∀H' l (ws:List Str),ax H H'→H l=none→H' l=some (.lst (ws.map V.str))→ws.length=m.toNat→(∀w∈ws,w∈zs)→Q (.ref l) H'):sY K vs H Q u3
inductive wN(K:W.Frag)(vs:List V)(H:Hp)(Q:VK)(u3:XK):Prop
 |mk (a:Addr) (ns:List Int) (most:Int) (_:vs=[.ref a, .int most]) (_:iA K H a (ns.map V.int)) (_:0≤most) (_:most≤40) (_:∀H' b c f g m l us,ax H H'→H b=none→j4 H' b c f g m l us→e7 most.toNat c→Q (.ref b) H'):wN K vs H Q u3
inductive qk(C:Addr)(vs:List V)(H:Hp)(Q:VK)(u3:XK):Prop
 |mk (a:Addr) (c:Case) (f g m l:Addr) (us:List V) (most:Nat) (_:vs=[.ref a]) (_:j4 H a c f g m l us) (_:e7 most c) (_:∀H' t,ax H H'→wM H' C t c→Q (.ref t) H'):qk C vs H Q u3
inductive ql(vs:List V)(H:Hp)(Q:VK)(u3:XK):Prop
 |mk (a:Addr) (us:List V) (ps:List Pr) (_:vs=[.ref a]) (_:H a=some (.lst us)) (_:f7 H us ps) (_:Q (.bl true) H):ql vs H Q u3
inductive sZ(vs:List V)(H:Hp)(Q:VK)(u3:XK):Prop
 |mk (a w:Addr) (c:Case) (f g m l:Addr) (us:List V) (ws:List V) (ps:List Pr) (_:vs=[.ref a, .ref w]) (_:j4 H a c f g m l us) (_:H w=some (.lst ws)) (_:f7 H ws ps) (_:ps.length≤10000) (_:∀H',ax H H'→Q (.bl (i5 c ps)) H'):sZ vs H Q u3
inductive qm(vs:List V)(H:Hp)(Q:VK)(u3:XK):Prop
 |mk (a w:Addr) (c:Case) (f g m l:Addr) (us:List V) (ws:List V) (ps:List Pr) (_:vs=[.ref a, .ref w]) (_:j4 H a c f g m l us) (_:IG c) (_:H w=some (.lst ws)) (_:f7 H ws ps) (_:ps.length≤10000) (_:i5 c ps=true) (_:Q (.int (dF c ps (ps.length-1))) H):qm vs H Q u3
end QF
namespace L2
open PySem PySem.Spec PyProof.Rows PySem.W PySem.Calls
section
variable{pg:Program}{wd:World}{Ar:Around}{Rs:Result→Shared→Prop}{it:Addr}{fp wr:List Addr}{n:Nat}{Pv:Nat→Value→Prop}{Sv:Nat→Heap→Prop}
def wO:(toString "max"++toString ".loop":String)="max.loop":=Zy
theorem Cy(Wk:Walks pg wd Ar.in1 it fp wr n Pv Sv)(bt:Nat→Nat→Bool)(cmp:CmpOf pg wd Ar.in1 .Gt Pv bt)(B:Addr)(nb:B∉fp)(dv:Value):
  ∀(k j:Nat)(st:Shared)(old:List Value)(c:Nat),n-j=k→j≤n→Sv j st.heap→((j=0∧old=[])∨∃vb,0<j∧old=[vb,vb]∧Pv (argBest bt (j-1)) vb)→
  st.heap.get? B=some {cls:= .type "list",dict:=none,data:= .seq old.toArray c,slots:=#[]}→
  (∀v h' tk,((n=0∧v=dv)∨(0<n∧Pv (argBest bt (n-1)) v))→(∀b o,b∉wr→b≠B→st.heap.get? b=some o→h'.get? b=some o)→Rs (.ok (.ret v)) {st with heap:=h',toks:=tk})→
  codeAny (model pg wd) Ar (.builtin "max.loop" ⟨[.ref it, .none, .ref B],[("default",dv)]⟩) Rs st:=by
 have nw:B∉wr:=fun z=>nb (Wk.sub _ z)
 intro k
 induction k with
 |zero=>
  intro j st old c ek lj sv ol eB fin;have ej:j=n:=by lia
  subst ej;refine codeAny_builtin F.entry_max_loop ?_;rw[Around.under_plainId F.plain_max_loop _];show wpAny _ Ar.in1 (seqItems? (.ref B)>>=_) _ _ st;refine wpAny_bind (wpAny_seqItems eB rfl ?_);show wpAny _ Ar.in1 (tryCatch (pyNext (.ref it)) _>>=_) _ _ st;refine wpAny_bind (wpAny_tryCatch (Wk.done st _ _ sv fun h' tk kp=>?_));rcases ol with⟨z0,rfl⟩|⟨vb,z0,rfl,pb⟩
  ·refine wpAny_bind (wpAny_rule (wpAny_pure ?_));exact fin dv _ tk (.inl ⟨z0,rfl⟩) fun b o hb _ e=>kp b o hb e
  ·have Kq:=kp B _ nw eB;show wpAny _ Ar.in1 (updateSeq B (fun _=>#[])>>=_) _ _ _;refine wpAny_bind ?_;refine wpAny_updateSeq Kq rfl (wpAny_bind (wpAny_letGo (wpAny_pure ?_)));exact fin vb _ tk (.inr ⟨z0,pb⟩) fun b o hb hB e=>(Heap.get?_update_other _ _ (Ne.symm hB)).trans (kp b o hb e)
 |succ k ih=>
  intro j st old c ek lj sv ol eB fin;have lt:j<n:=by lia
  refine codeAny_builtin F.entry_max_loop ?_;rw[Around.under_plainId F.plain_max_loop _];show wpAny _ Ar.in1 (seqItems? (.ref B)>>=_) _ _ st;refine wpAny_bind (wpAny_seqItems eB rfl ?_);show wpAny _ Ar.in1 (tryCatch (pyNext (.ref it)) _>>=_) _ _ st;refine wpAny_bind (wpAny_tryCatch (Wk.item j st _ _ lt sv fun v h' tk pv RE kp=>?_));have Kq:=kp B _ nw eB;have up:∀(g:Array Value→Array Value)(b:Addr),b∈fp→∀o,h'.get? b=some o→(h'.update B (Obj.mapSeq g)).get? b=some o:=fun g b hb o e=>(Heap.get?_update_other _ _ (fun z:B=b=>nb (by rw[z];exact hb))).trans e
  rcases ol with⟨rfl,rfl⟩|⟨vb,z0,rfl,pb⟩
  ·show wpAny _ Ar.in1 (updateSeq B (fun _=>#[v,v])>>=_) _ _ _;refine wpAny_bind ?_;refine wpAny_updateSeq Kq rfl ?_;rw[wO];refine wpAny_pure ⟨plainId_quiet F.plain_max_loop _,ih 1 _ [v,v] _ (by lia) lt (Wk.frame _ _ _ RE (up _)) (.inr ⟨v,Zy,rfl,pv⟩) (Heap.get?_update_self _ Kq rfl) fun v' h2 NV pf NW=>?_⟩;exact fin v' h2 NV pf fun b o hb hB e=>NW b o hb hB ((Heap.get?_update_other _ _ (Ne.symm hB)).trans (kp b o hb e))
  ·obtain⟨i,rfl⟩:∃i,j=i+1:=⟨j-1,by lia⟩
   have pb:Pv (argBest bt i) vb:=pb;show wpAny _ Ar.in1 (tryCatch (holding [v,v] (richCompare .Gt v vb>>=_)) _>>=_) _ _ _;refine wpAny_bind (wpAny_tryCatch (wpAny_holding (wpAny_bind (cmp (i+1) (argBest bt i) v vb _ _ _ pv pb ?_))));refine wpAny_bind (wpAny_holding (wpAny_truthy_bool ?_));refine wpAny_bind (wpAny_letGo (wpAny_pure ?_));cases hb:bt (i+1) (argBest bt i)with
   |true=>
    simp only[if_true];refine wpAny_bind ?_;refine wpAny_updateSeq Kq rfl (wpAny_bind (wpAny_letGo ?_));rw[wO];refine wpAny_pure ⟨plainId_quiet F.plain_max_loop _,ih (i+2) _ [v,v] _ (by lia) lt (Wk.frame _ _ _ RE (up _)) (.inr ⟨v,by lia,rfl,?_⟩) (Heap.get?_update_self _ Kq rfl) fun v' h2 NV pf NW=>?_⟩
    ·show Pv (argBest bt (i+1)) v;simp only[argBest,hb,if_true];exact pv
    ·exact fin v' h2 NV pf fun b o hb hB e=>NW b o hb hB ((Heap.get?_update_other _ _ (Ne.symm hB)).trans (kp b o hb e))
   |false=>
    simp only[Bool.false_eq_true,if_false];refine wpAny_bind (wpAny_letGo ?_);rw[wO];refine wpAny_pure ⟨plainId_quiet F.plain_max_loop _,ih (i+2) _ [vb,vb] c (by lia) lt RE (.inr ⟨vb,by lia,rfl,?_⟩) Kq fun v' h2 NV pf NW=>?_⟩
    ·show Pv (argBest bt (i+1)) vb;simp only[argBest,hb,Bool.false_eq_true,if_false];exact pb
    ·exact fin v' h2 NV pf fun b o hb hB e=>NW b o hb hB (kp b o hb e)
theorem Cz(a d:Value):argsOk "max" ⟨[a],[("default",d)]⟩:=by unfold argsOk;kernel_rfl
end
section
variable{X:Cx}
def Kr:Option Int→V
 |none=> .cO
 |some i=> .int i
theorem Ac{is:List Int}{us:List Value}(r:Vals (is.map V.int) us):us.length=is.length∧∀(j:Nat)(v:Value),us[j]?=some v→∃t,v= .int (is.getD j 0) t:=by
 have hl:=r.length;rw[List.length_map]at hl;refine⟨hl.symm,fun j v e=>?_⟩;have hj:j<is.length:=by have:=(Y7 e).1;omega
 obtain⟨u,eu,ru⟩:=r.get (i:=j) (x:= .int is[j]) (by simp[hj]);rw[e]at eu;cases eu;obtain⟨t,rfl⟩:=ru;exact⟨t,by simp[hj]⟩
theorem Kt{is:List Int}{k:Nat}(hk:k<is.length)(h:∀j,j<is.length→is.getD j 0≤is.getD k 0):is.max?=some (is.getD k 0):=by
 rw[List.max?_eq_some_iff];refine⟨by simp[hk],fun b hb=>?_⟩;obtain⟨j,hj,rfl⟩:=List.mem_iff_getElem.mp hb;have:=h j hj;simpa[hj]using this
theorem CA(hc:X.calm=true){pins:List (Addr×Obj)}{s:Shared}{σ:St}{H:Hp}{a:Addr}{is:List Int}{Q:VK}(I:Inv X pins σ H s)(hq:iA X.K H a (is.map V.int))(q:Q (Kr is.max?) H):
  wpAny (model X.prog X.w) X.A (call (.builtin "max") [.ref a] [("default", .none)]) (EP X pins σ Q) X.xe s:=by
 obtain⟨its,rv,p,hz⟩:=I.list hq;obtain⟨hl,hv⟩:=Ac rv;refine wpAny_call (codeAny_call_builtin F.plain_max F.entry_max ?_);simp only[checkBuiltinCall,F.kind_max];have body:wpAny (model X.prog X.w) X.A.in1 (Builtin.«max» ⟨[.ref a],[("default", .none)]⟩) (fun fin s'=>match fin with
   | .done f=>(match (Except.ok f:Result)with| .ok (.ret v)=>EP X pins σ Q v s'| .ok _=>False| .error e=>X.xe e s')
   | .again c'=>c'.quiet=true∧codeAny (model X.prog X.w) X.A c' (fun r s'=>match r with| .ok (.ret v)=>EP X pins σ Q v s'| .ok _=>False| .error e=>X.xe e s') s') X.xe s:=by
  show wpAny _ X.A.in1 (Builtin.Builtins.bindParams "max" ["key","default"] 0 ⟨[],[("default", .none)]⟩>>=_) _ _ s;refine wpAny_bind (wpAny_of_eq (show Builtin.Builtins.bindParams "max" ["key","default"] 0 ⟨[],[("default", .none)]⟩=pure [none,some .none]from rfl) ?_);refine wpAny_bind (wpAny_pure (wpAny_bind (wpAny_pyIter_list p.isList ?_)));have eV:a≠s.heap.objs.size:=by
   obtain⟨o,n,e,_⟩:=p;exact Nat.ne_of_lt (Heap.lt_size e)
  refine wpAny_bind (wpAny_newObj_type ?_);rw[wO];have eS:(s.heap.push {cls:= .type "list_iterator",data:= .fields #[.ref a, .int 0 0]}).objs.size=s.heap.objs.size+1:=by simp[Heap.push]
  have Wk:=Walks.list (prog:=X.prog) (w:=X.w) (A:=X.A.in1) (show X.A.in1.handled=none from I.ok.hd hc) s.heap.objs.size a eV its.toArray;refine wpAny_pure ⟨plainId_quiet F.plain_max_loop _,Cy (pg:=X.prog) (wd:=X.w) Wk _ (CmpOf.ints_gt (fun j=>is.getD j 0) fun j v e=>hv j v (by simpa using e)) (s.heap.push {cls:= .type "list_iterator",data:= .fields #[.ref a, .int 0 0]}).objs.size ?_ .none _ 0 _ [] 0 rfl (Nat.zero_le _) ?_ (.inl ⟨rfl,rfl⟩) ?_ fun v h' tk pf kp=>?_⟩
  ·intro z;simp only[List.mem_cons,List.not_mem_nil,or_false]at z;rw[eS]at z;rcases z with z|z
   ·exact Nat.succ_ne_self _ z
   ·obtain⟨o,n,e,_⟩:=p;have lt:=Heap.lt_size e;rw[←z]at lt;exact Nat.lt_irrefl _ (Nat.lt_of_succ_lt lt)
  ·exact⟨⟨_,Zi (Heap.get?_push_size _ rfl),rfl,rfl⟩,p.isList.at fun o e=>Zi (Zi e)⟩
  ·exact Heap.get?_push_size _ rfl
  ·have keep:∀b o,s.heap.get? b=some o→h'.get? b=some o:=fun b o e=>by
    have lt:=Heap.lt_size e;refine kp b o (fun z=>?_) (fun z=>?_) (Zi (Zi e))
    ·have z:b=s.heap.objs.size:=by simpa using z
     rw[z]at lt;exact Nat.lt_irrefl _ lt
    ·rw[z,eS]at lt;exact Nat.lt_irrefl _ (Nat.lt_of_succ_lt lt)
   have sz:its.toArray.size=is.length:=by simp[hl]
   rcases pf with⟨h0,rfl⟩|⟨h0,pf⟩
   ·have:is=[]:=List.length_eq_zero_iff.mp Zt;subst this;exact⟨.cO,H,I.kept (t':=tk) keep,rfl,q⟩
   ·rw[List.getElem?_toArray]at pf;obtain⟨t,rfl⟩:=hv _ v pf;obtain⟨b1,b2⟩:=argBest_gt (fun j=>is.getD j 0) (its.toArray.size-1);have em:=Kt (is:=is) (k:=argBest (fun i j=>decide (is.getD i 0>is.getD j 0)) (its.toArray.size-1)) (Zx) fun j hj=>b2 j Zt
    rw[em]at q;exact⟨.int _,H,I.kept (t':=tk) keep,⟨t,rfl⟩,q⟩
 cases RF:Manifest.signature? "max" with
 |none=>exact wpAny_pure body
 |some sig=>
  have ha:=Cz (.ref a) .none;simp only[argsOk,RF]at ha;have h2:Bind.checkArgs "max" sig ⟨[.ref a],[("default", .none)]⟩=pure ():=ha;show wpAny _ X.A.in1 (Bind.checkArgs "max" sig ⟨[.ref a],[("default", .none)]⟩) _ _ s;rw[h2];exact wpAny_pure body
def NX(K:Frag)(ta:TE):TE:=fun σ H Q=>ta σ H fun x H1=>∃(a:Addr)(is:List Int),x= .ref a∧iA K H1 a (is.map V.int)∧Q (Kr is.max?) H1
theorem GY(K:Frag){e:Expr}{ta:TE}{p pos kp cp:Pos}{j:Nat}(hc:X.calm=true)(hg:Gl X "max")(hm:X.mg "max"=none)(he:PE X e ta)(hs:starEach [e] X.env=[(false,eval e X.env)]:=by rfl)(hK:X.K=K:=by rfl):
  PE X (.Call (.Name "max" p) [e] [⟨some "default", .Constant .none j cp,kp⟩] pos) (NX K ta):=by
 subst hK;intro pins s σ H Q I h;refine wpAny_Call_Name_kw (lh I hg hm (PyProof.Rows.Boot.«max») ?_ (Zy) (Zy));rw[hs];refine callWith_builtin_kwB (first:=[]) rfl rfl (evalArgs_kwB rfl ?_);refine Calls.spliced_cons ?_;show wpAny _ _ (eval e X.env) _ _ s;refine cK (he pins s σ H _ I h) fun v s1 ⟨x,H1,I1,r1,q1⟩=>Calls.spliced_nil ?_
 obtain⟨a,is,rfl,hq,q⟩:=q1;cases r1;refine kws_cons ?_;refine Constant_none ?_;refine kws_nil ?_;exact CA hc I1 hq q
def uA:List V→List V→Bool
 |[],[]=>true
 |x::xs,y::ys=>we x y&&uA xs ys
 | _,_=>false
theorem nh:∀(xs ys:List V),((List.range (min xs.length ys.length)).all (fun j=>we (xs.getD j .cO) (ys.getD j .cO))&&xs.length==ys.length)=uA xs ys
 |[],[]=>rfl
 |[],y::ys=>by simp[uA]
 |x::xs,[]=>by simp[uA]
 |x::xs,y::ys=>by
  have ih:=nh xs ys;simp only[uA];rw[←ih];have e:min (x::xs).length (y::ys).length=min xs.length ys.length+1:=by simp[Nat.succ_min_succ]
  rw[e,List.range_succ_eq_map,List.all_cons,List.all_map];simp only[List.getD_cons_zero,Function.comp_def,List.getD_cons_succ,List.length_cons,Bool.and_assoc]
  congr 2
  simp
theorem yB{A:Around}{s:Shared}{xs ys:List V}{its fD:List Value}(r:Vals xs its)(r2:Vals ys fD)(f1:xs.all rh=true)(f2:ys.all rh=true):
  ∀j (h1:j<its.toArray.size) (h2:j<fD.toArray.size),SeqAt.EqAt A s its.toArray[j] fD.toArray[j] ((fun j=>we (xs.getD j .cO) (ys.getD j .cO)) j):=by
 refine EB r r2 fun j x y hx hy=> .inl ⟨List.all_eq_true.mp f1 x (Ze hx),List.all_eq_true.mp f2 y (Ze hy),?_⟩
 simp[List.getD_eq_getElem?_getD,hx,hy]
open Classical in
end
theorem vH{K:Frag}{a:Addr}{xs:List V}{ls:List Str}{js:List Nat}{g:TG}{tt:TT}{te:TE}{σ:St}{H1:Hp}{D:Addr}{Q:VK}(Pv:Nat→List V→St→Hp→Prop)
  (h0:Pv 0 [] (lu ls js σ) (upd H1 D (.lst []))) (hl:∀i ys σ H,i≤xs.length→Pv i ys σ H→iA K H a xs)
  (hs:∀i x T ys σ H,xs[i]?=some x→Pv i ys σ H→H T=none→g (.ref T) σ (upd H T (.tup [.int i,x])) fun fV H3=>tt fV H3 fun b H4=>if b=true then te fV H4 fun y H5=>H5 D=some (.lst ys)∧ys.length<sizeLine∧Pv (i+1) (ys++[y]) fV (upd H5 D (.lst (ys++[y])))else Pv (i+1) ys fV H4)
  (hd:∀ys σ H,Pv xs.length ys σ H→Q (.ref D) H):
  sO (L0 K a) ls js g tt te σ H1 D Q:=
 oE (n:=xs.length) Pv h0 (fun i ys σ H hi p=>⟨xs,xs[i],hl i ys σ H (Nat.le_of_lt hi) p,by simp[hi]⟩) (fun ys σ H p=>⟨xs,hl _ ys σ H (Nat.le_refl _) p,Nat.le_refl _⟩)
  (fun i ys σ H x H2 hi p y=>by
   obtain⟨T,z,rfl,hT,rfl,hy⟩:=y;exact hs i z T ys σ H (hy xs (hl i ys σ H (Nat.le_of_lt hi) p)) p hT) hd
end L2
namespace QF
open PySem L2
def fT(S:Int→Prop):Option Int→Prop
 |none=>∀v,¬S v
 |some m=>S m∧∀v,S v→v≤m
theorem fT.iff{S T:Int→Prop}{a:Option Int}(ha:fT S a)(h:∀v,S v↔T v):fT T a:=by
 cases a with
 |none=>exact fun v hv=>ha v ((h v).mpr hv)
 |some m=>exact⟨(h m).mp ha.1,fun v hv=>ha.2 v ((h v).mpr hv)⟩
def bA:Option Int→Int→Option Int
 |none,_=>none
 |some v,p=>some (v-p)
theorem fT.less{S:Int→Prop}{a:Option Int}(ha:fT S a)(p:Int):fT (fun v=>∃u,S u∧v=u-p) (bA a p):=by
 cases a with
 |none=>exact fun v ⟨u,hu,_⟩=>ha u hu
 |some m=>
  refine⟨⟨m,ha.1,rfl⟩,?_⟩;rintro v ⟨u,hu,rfl⟩;have:=ha.2 u hu;omega
def oI(l:List (Option Int)):Option Int:=(l.filterMap id).max?
theorem kr(l:List (Option Int)):fT (fun v=>some v∈l) (oI l):=by
 have key:∀v,v∈l.filterMap id↔some v∈l:=fun v=>by
  rw[List.mem_filterMap];exact⟨fun⟨o,ho,eo⟩=>by have eo:o=some v:=eo;rw[eo]at ho;exact ho,fun h=>⟨some v,h,rfl⟩⟩
 unfold oI;cases e:(l.filterMap id).max? with
 |none=>
  rw[List.max?_eq_none_iff]at e;intro v hv;have:=(key v).mpr hv;rw[e]at this;cases this
 |some m=>
  rw[List.max?_eq_some_iff]at e;exact⟨(key m).mp e.1,fun v hv=>e.2 v ((key v).mpr hv)⟩
theorem fT.Uk{S T:Int→Prop}{a:Option Int}(ha:fT S a)(h1:∀v,S v→T v)(h2:∀v,T v→∃u,S u∧v≤u):fT T a:=by
 cases a with
 |none=>
  intro v hv;obtain⟨u,hu,_⟩:=h2 v hv;exact ha u hu
 |some m=>
  refine⟨h1 m ha.1,fun v hv=>?_⟩;obtain⟨u,hu,hle⟩:=h2 v hv;have:=ha.2 u hu;omega
theorem yC{S1 S2 S3:Int→Prop}{a b c:Option Int}(h1:fT S1 a)(h2:fT S2 b)(h3:fT S3 c):fT (fun v=>S1 v∨S2 v∨S3 v) (oI [a,b,c]):=by
 refine(kr [a,b,c]).Uk (fun v hv=>?_) (fun v hv=>?_)
 ·simp only[List.mem_cons,List.not_mem_nil,or_false]at hv;rcases hv with e|e|e
  ·rw[←e]at h1;exact .inl h1.1
  ·rw[←e]at h2;exact .inr (.inl h2.1)
  ·rw[←e]at h3;exact .inr (.inr h3.1)
 ·have one:∀{S:Int→Prop}{o:Option Int},fT S o→S v→o∈[a,b,c]→∃u,some u∈[a,b,c]∧v≤u:=fun{S o} hm hs ho=>by
   cases o with
   |none=>exact absurd hs (hm v)
   |some m=>exact⟨m,ho,hm.2 v hs⟩
  rcases hv with hs|hs|hs
  ·exact one h1 hs Zr
  ·exact one h2 hs Zr
  ·exact one h3 hs Zr
def j6(ps:List Pr):Pr:=pr ps (ps.length-1)
def wW(c:Case)(ps:List Pr):Int:=dF c ps (ps.length-1)
def oJ(c:Case)(shut:List Pr)(ps:List Pr):Prop:=i5 c ps=true∧∀p∈ps,p∉shut
def n8(c:Case)(shut:List Pr)(p:Pr):Option Int:=if p∈shut then none else c.pw p
theorem ni{ps:List Pr}{p:Pr}:j6 (ps++[p])=p:=by
 unfold j6;rw[List.length_append];exact sk
theorem s_{c:Case}{ps:List Pr}{p:Pr}:∀{k:Nat},k<ps.length→dF c (ps++[p]) k=dF c ps k
 |0,h=>by simp only[dF];rw[gX h]
 |k+1,h=>by simp only[dF];rw[gX h,gX (by omega:k<ps.length),s_ (by omega:k<ps.length)]
theorem Ku{c:Case}{p:Pr}{w:Int}(h:c.pw p=some w):wW c [p]=w:=by
 simp[wW,dF,pr,h]
theorem GZ{c:Case}{ps:List Pr}{p:Pr}{w:Int}(eV:ps≠[])(h:c.pw p=some w):wW c (ps++[p])=w+wW c ps-c.gap (j6 ps) p:=by
 have hp:0<ps.length:=List.length_pos_iff.mpr eV;obtain⟨k,hk⟩:∃k,ps.length=k+1:=⟨ps.length-1,Zx⟩
 have e1:(ps++[p]).length-1=k+1:=by rw[List.length_append];simp;omega
 unfold wW j6;rw[e1];have e2:pr (ps++[p]) (k+1)=p:=by rw[←hk];exact sk
 simp only[dF,e2,h,Option.getD_some];rw[gX (by omega:k<ps.length),s_ (by omega:k<ps.length),hk];rfl
theorem oJ.one{c:Case}{shut:List Pr}{p:Pr}{w:Int}(h:n8 c shut p=some w):oJ c shut [p]:=by
 unfold n8 at h;split at h
 ·cases h
 ·rename_i hs
  refine⟨j5 Zr fun k hk=>?_,fun q hq=>?_⟩
  ·have:k=0:=by simp at hk;exact hk
   subst this;simp[cT,pr,h]
  ·have:q=p:=by simpa using hq
   rw[this];exact hs
theorem oJ.snoc{c:Case}{shut:List Pr}{ps:List Pr}{p:Pr}{w:Int}(o:oJ c shut ps)(h:n8 c shut p=some w)(st:stepOk (j6 ps) p=true):oJ c shut (ps++[p]):=by
 obtain⟨eV,hg⟩:=i6 o.1;unfold n8 at h;split at h
 ·cases h
 ·rename_i hs
  refine⟨j5 Zr ?_,fun q hq=>?_⟩
  ·rw[List.length_append];exact Cw hg (by rw[h];rfl) (.inr st)
  ·rcases List.mem_append.mp hq with hq|hq
   ·exact o.2 q hq
   ·have:q=p:=by simpa using hq
    rw[this];exact hs
theorem yD{c:Case}{ps:List Pr}{p:Pr}{k:Nat}(h:k<ps.length):cT c (ps++[p]) k=cT c ps k:=by
 simp only[cT];rw[gX h,gX (by omega:k-1<ps.length)]
theorem oJ.split{c:Case}{shut:List Pr}{ps:List Pr}(o:oJ c shut ps):∃qs,ps=qs++[j6 ps]∧(∃w,n8 c shut (j6 ps)=some w)∧(qs=[]∨(oJ c shut qs∧stepOk (j6 qs) (j6 ps)=true)):=by
 obtain⟨eV,hg⟩:=i6 o.1;obtain⟨qs,p,rfl⟩:∃qs p,ps=qs++[p]:=⟨ps.dropLast,ps.getLast eV,(List.dropLast_concat_getLast eV).symm⟩
 rw[ni];have gl:=hg qs.length Zr;simp only[cT,sk,Bool.and_eq_true]at gl;refine⟨qs,rfl,?_,?_⟩
 ·obtain⟨w,hw⟩:=Option.isSome_iff_exists.mp gl.1;have:=o.2 p Zr;exact⟨w,by simp[n8,this,hw]⟩
 ·by_cases e:qs=[]
  ·exact .inl e
  ·have hp:0<qs.length:=List.length_pos_iff.mpr e;refine .inr ⟨⟨j5 e fun k hk=>?_,fun q hq=>o.2 q (List.mem_append_left _ hq)⟩,?_⟩
   ·have:=hg k (by simp;omega);rwa[yD hk]at this
   ·have g2:=gl.2;simp only[Bool.or_eq_true,decide_eq_true_eq]at g2;rcases g2 with g2|g2
    ·omega
    ·rw[gX (by omega:qs.length-1<qs.length)]at g2;exact g2
def G0:Option Int→Option Int→Option Int
 |none,_=>none
 |some w,none=>some w
 |some w,some b=>if b<0 then some w else some (w+b)
def Bq(f:Nat→Nat→Option Int)(o p:Int):Nat→Nat→Option Int
 |0,_=>none
 | _+1,0=>none
 |i+1,j+1=>oI [G0 (f i j) (Bq f o p i j),bA (Bq f o p i (j+1)) o,bA (Bq f o p (i+1) j) p]
termination_by i j=>(i,j)
def dE(f:Nat→Nat→Option Int)(o p:Int)(i j:Nat):Option Int:=G0 (f i j) (Bq f o p i j)
def i7(c:Case)(shut:List Pr)(i j:Nat):Option Int:=n8 c shut ((i:Int),(j:Int))
theorem yE{q p:Pr}:stepOk q p=true↔q.1<p.1∧q.2<p.2:=by simp[stepOk]
theorem G6(o:Option Int):Kr o=bB o:=by cases o<;>rfl
def f9(H:Hp)(vs:List V)(L:List (List Pr)):Prop:=vs.length=L.length∧∀(k:Nat)(ps:List Pr),L[k]?=some ps→∃a us,vs[k]?=some (V.ref a)∧H a=some (.lst us)∧f7 H us ps
def NY(l:Addr)(vs:List V):Prop:=∀k:Nat,vs[k]?≠some (V.ref l)
theorem f9.nil{H:Hp}:f9 H [] []:=⟨rfl,fun k ps e=>by simp at e⟩
theorem f9.same{H H':Hp}{vs:List V}{L:List (List Pr)}(w:f9 H vs L)(s:ax H H'):f9 H' vs L:=⟨w.1,fun k ps e=>let ⟨a,us,h1,h2,h3⟩:=w.2 k ps e;⟨a,us,h1,s _ _ h2,h3.same s⟩⟩
theorem f9.put{H:Hp}{vs:List V}{L:List (List Pr)}{l:Addr}{zs:List V}{o:HO}(w:f9 H vs L)(n:NY l vs)(h:H l=some (.lst zs)):f9 (upd H l o) vs L:=⟨w.1,fun k ps e=>by
 obtain⟨a,us,h1,h2,h3⟩:=w.2 k ps e;refine⟨a,us,h1,?_,h3.cI (e6.lst h)⟩;rw[ao (fun z=>n k (by rw[h1,z]))];exact h2⟩
theorem f9.append{H:Hp}{vs ws:List V}{L M:List (List Pr)}(a:f9 H vs L)(b:f9 H ws M):f9 H (vs++ws) (L++M):=by
 refine⟨by simp[a.1,b.1],fun i p e=>?_⟩;by_cases h:i<L.length
 ·rw[List.getElem?_append_left h]at e;obtain⟨x,us,h1,h2⟩:=a.2 i p e;exact⟨x,us,by rw[List.getElem?_append_left (by rw[a.1];exact h)];exact h1,h2⟩
 ·rw[List.getElem?_append_right Zt]at e;obtain⟨x,us,h1,h2⟩:=b.2 _ p e;exact⟨x,us,by rw[List.getElem?_append_right (by rw[a.1];omega),a.1];exact h1,h2⟩
theorem f9.one{H:Hp}{a:Addr}{us:List V}{ps:List Pr}(h:H a=some (.lst us))(P:f7 H us ps):f9 H [.ref a] [ps]:=by
 refine⟨rfl,fun i q e=>?_⟩
 match i,e with
 |0,e=>cases e;exact⟨a,us,rfl,h,P⟩
 |i+1,e=>simp at e
def c_(m:Nat)(f:Nat→Option Int):List V:=(List.range m).map fun j=>bB (f j)
theorem de(m:Nat)(f:Nat→Option Int):(c_ m f).length=m:=by simp[c_]
theorem dh{m j:Nat}{f:Nat→Option Int}(h:j<m):(c_ m f)[j]?=some (bB (f j)):=by simp[c_,h]
theorem qo(m:Nat)(f:Nat→Option Int):c_ (m+1) f=c_ m f++[bB (f m)]:=by simp[c_,List.range_succ]
structure i8(H:Hp)(as:List Addr)(f:Nat→Nat→Option Int)(n m:Nat):Prop where
 len:as.length=n
 row:∀(i:Nat)(a:Addr),as[i]?=some a→H a=some (.lst (c_ m (f i)))
theorem i8.same{H H':Hp}{as:List Addr}{f:Nat→Nat→Option Int}{n m:Nat}(t:i8 H as f n m)(s:ax H H'):i8 H' as f n m:=⟨t.len,fun i a e=>s _ _ (t.row i a e)⟩
theorem i8.at{H:Hp}{as:List Addr}{f:Nat→Nat→Option Int}{n m i:Nat}(t:i8 H as f n m)(h:i<n):∃a,as[i]?=some a∧(as.map V.ref)[i]?=some (.ref a)∧H a=some (.lst (c_ m (f i))):=by
 have hi:i<as.length:=by rw[t.len];exact h
 refine⟨as[i],by simp[hi],by simp[hi],t.row i _ (by simp[hi])⟩
def Tab(H H':Hp)(e:Addr)(f:Nat→Nat→Option Int)(n m:Nat):Prop:=∃as:List Addr,H' e=some (.lst (as.map V.ref))∧H e=none∧i8 H' as f n m∧∀a∈as,H a=none
structure Bt(K:W.Frag)(C:Addr):Prop where
 cl:v7 K C
 out:bZ K C "out"
 into:bZ K C "into"
 ku:bZ K C "ending"
 jq:bZ K C "brought"
def gL(o p:Int)(e b:Addr):List (Str×V):=[("out", .int o),("into", .int p),("ending", .ref e),("brought", .ref b)]
theorem IH(o p:Int)(e b:Addr):(gL o p e b).lookup ("out":Str)=some (V.int o):=by kernel_rfl
theorem ED(o p:Int)(e b:Addr):(gL o p e b).lookup ("into":Str)=some (V.int p):=by kernel_rfl
theorem ig(o p:Int)(e b:Addr):(gL o p e b).lookup ("ending":Str)=some (V.ref e):=by kernel_rfl
theorem gP(o p:Int)(e b:Addr):(gL o p e b).lookup ("brought":Str)=some (V.ref b):=by kernel_rfl
theorem EE(o p:Int)(e b:Addr):(gL o p e b).lookup ("brought_behind":Str)=none:=by kernel_rfl
theorem NZ(o p:Int)(e b:Addr):bp "brought" (.ref b) (bp "ending" (.ref e) (bp "into" (.int p) (bp "out" (.int o) [])))=gL o p e b:=by kernel_rfl
def rL(f g:Nat→Option Int)(o p:Int):Nat→Option Int
 |0=>none
 |j+1=>oI [f j,bA (g (j+1)) o,bA (rL f g o p j) p]
theorem Bu(f:Nat→Nat→Option Int)(o p:Int)(i:Nat):∀j,rL (dE f o p i) (Bq f o p i) o p j=Bq f o p (i+1) j
 |0=>by unfold rL Bq;rfl
 |j+1=>by
  rw[rL,Bq,Bu f o p i j];rfl
theorem iG(f:Nat→Nat→Option Int)(o p:Int)(j:Nat):Bq f o p 0 j=none:=by unfold Bq;rfl
inductive lC(vs:List V)(H:Hp)(Q:VK)(u3:XK):Prop
 |mk (a:Addr) (os:List (Option Int)) (_:vs=[.ref a]) (_:H a=some (.lst (os.map bB))) (_:os.length≤1000) (_:∀H',ax H H'→Q (bB (oI os)) H'):lC vs H Q u3
inductive wQ(vs:List V)(H:Hp)(Q:VK)(u3:XK):Prop
 |mk (o:Option Int) (p:Int) (_:vs=[bB o, .int p]) (_:Q (bB (bA o p)) H):wQ vs H Q u3
inductive Ad(vs:List V)(H:Hp)(Q:VK)(u3:XK):Prop
 |mk (w b:Option Int) (_:vs=[bB w,bB b]) (_:Q (bB (G0 w b)) H):Ad vs H Q u3
inductive qp(C:Addr)(vs:List V)(H:Hp)(Q:VK)(u3:XK):Prop
 |mk (x e a dx te tb:Addr) (o p:Int) (m:Nat) (f g:Nat→Option Int) (_:vs=[.ref x, .ref e, .ref a]) (_:H x=some (.ins C dx (gL o p te tb))) (_:H e=some (.lst (c_ m f))) (_:H a=some (.lst (c_ (m+1) g))) (_:m≤1000) (_:∀H' r,ax H H'→H r=none→H' r=some (.lst (c_ (m+1) (rL f g o p)))→Q (.ref r) H'):qp C vs H Q u3
def EF(H:Hp)(v:V)(shut:List Pr):Prop:=(v= .cO∧shut=[])∨∃l us,v= .ref l∧H l=some (.lst us)∧f7 H us shut
def a9(p:Pr):List Key:=[.inl p.1, .inl p.2]
def mR(kvs:List (List Key×V))(shut:List Pr):Prop:=∀p:Pr,(bu kvs (a9 p)).isSome=decide (p∈shut)
inductive wR(vs:List V)(H:Hp)(Q:VK)(u3:XK):Prop
 |mk (v:V) (shut:List Pr) (_:vs=[v]) (_:EF H v shut) (_:shut.length≤1000) (_:∀H' d kvs,ax H H'→H' d=some (.dT kvs)→mR kvs shut→Q (.ref d) H'):wR vs H Q u3
theorem f7.last{H:Hp}{xs:List V}{ps:List Pr}(P:f7 H xs ps)(eV:ps≠[]):∃t,rg xs (-1)=some (.ref t)∧H t=some (.tup [.int (j6 ps).1, .int (j6 ps).2]):=by
 have hp:0<ps.length:=List.length_pos_iff.mpr eV;have hl:=P.1;obtain⟨t,h1,h2⟩:=P.Kn (k:=ps.length-1) (by lia);refine⟨t,?_,h2⟩;have e:xs=xs.take (ps.length-1)++[V.ref t]:=by
  apply List.ext_getElem?;intro n;by_cases hn:n<ps.length-1
  ·rw[List.getElem?_append_left (by rw[List.length_take];lia),List.getElem?_take,Zk hn]
  ·rw[List.getElem?_append_right (by rw[List.length_take];lia),List.length_take];by_cases xV:n=ps.length-1
   ·subst xV;rw[h1];have:ps.length-1-min (ps.length-1) xs.length=0:=by lia
    rw[this];rfl
   ·rw[List.getElem?_eq_none Zu,List.getElem?_eq_none (by simp;lia)]
 rw[e];exact yr _ _
theorem Bv(p q:Pr):uA (jo p) (jo q)=decide (p=q):=by
 simp only[jo,uA,we,Bool.and_true];rw[Bool.eq_iff_iff];simp[Prod.ext_iff]
theorem EG{m j:Nat}{f:Nat→Option Int}{u:Option Int}:(c_ m f).set j (bB u)=c_ m (fun k=>if k=j then u else f k):=by
 apply List.ext_getElem?;intro k;by_cases hk:k<m
 ·rw[dh hk];by_cases e:j=k
  ·subst e;rw[List.getElem?_set_self (by rw[de];exact hk)];simp
  ·rw[List.getElem?_set_ne e,dh hk];have:¬k=j:=fun z=>e z.symm
   simp[this]
 ·rw[List.getElem?_eq_none (by rw[List.length_set,de];omega),List.getElem?_eq_none (by rw[de];omega)]
end QF
namespace L2
open PySem PySem.Spec PyProof.Rows PySem.W PySem.Calls
section
variable{X:Cx}{tg:Expr}
end
section
variable{X:Cx}
end
section
variable{X:Cx}
end
end L2
namespace QF
open PySem L2
def RG(fs:List Form)(x t:Str):Bool:=decide (x=t)||fs.any fun f=>(decide (f.1=x)&&decide (f.2.1=t))||(decide (f.1=t)&&decide (f.2.1=x))
def N0(fs:List Form)(t:Str):List Str:=[t]++(fs.filter fun f=>decide (f.1=t)).map (·.2.1)++(fs.filter fun f=>decide (f.2.1=t)).map (·.1)
def II(p:Nat→Bool):Nat→Int
 |0=> -1
 |n+1=>if p n then(n:Int)else II p n
structure NS where
 ws:List Str
 ts:List Str
 fs:List Form
 span:Nat
def NS.p(c:NS)(t:Str)(i:Nat):Bool:=match c.ws[i]? with
 |some x=>RG c.fs x t
 |none=>false
def NS.N1(c:NS)(n:Nat):List Int:=c.ts.map fun t=>II (c.p t) n
def NS.low(c:NS)(n:Nat):Int:=((c.N1 n).min?).getD (-1)
def NS.at_(c:NS)(h:Nat):Option Pr:=if c.low h<c.low (h+1)∧(h:Int)-c.low (h+1)<c.span then some (c.low (h+1),(h:Int))else none
def NS.told(c:NS)(k:Nat):List Pr:=(List.range k).filterMap c.at_
def NS.holds(c:NS)(l h:Nat):Bool:=c.ts.all fun t=>(((c.ws.map fun x=>decide (x∈N0 c.fs t)).drop l).take (h-l)).any id
def NS.ok(c:NS)(l h:Nat):Bool:=c.holds l (h+1)&&!(c.holds (l+1) (h+1))&&!(c.holds l h)
def NS.row(c:NS)(l k:Nat):List Pr:=(List.range k).filterMap fun d=>if c.ok l (l+d)=true then some ((l:Int),((l+d:Nat):Int))else none
def NS.Yt(c:NS)(i:Nat):List Pr:=(List.range i).flatMap fun l=>c.row l (min c.ws.length (l+c.span)-l)
end QF
namespace L2
open PySem PySem.Spec PyProof.Rows PySem.W PySem.Calls
section
variable{X:Cx}{tg:Expr}
end
section
variable{pg:Program}{wd:World}{Ar:Around}{sh:Shared}{Rs:Result→Shared→Prop}{it:Addr}{fp wr:List Addr}{Gn:Array GenState→Array GenState→Prop}{n:Nat}{Pv:Nat→Value→Prop}{Sv:Nat→Shared→Prop}
end
section
variable{X:Cx}
end
end L2
namespace QF
open PySem L2
def Z7(q p:Pr):Prop:=q.1<p.1∧q.2<p.2
def gp(o i:Int)(q p:Pr):Int:=o*(p.1-q.1-1)+i*(p.2-q.2-1)
structure Wy(g:Pr→Option Int)(ps:List Pr):Prop where
 ne:ps≠[]
 ok:∀p∈ps,(g p).isSome=true
 up:ps.Pairwise Z7
def vl(g:Pr→Option Int)(o i:Int):List Pr→Int
 |[]=>0
 |[p]=>(g p).getD 0
 |p::q::r=>(g p).getD 0-gp o i p q+vl g o i (q::r)
def mC(ps:List Pr):Pr:=ps.headD (0,0)
def lstP(ps:List Pr):Pr:=ps.getLastD (0,0)
theorem dJ{ps:List Pr}{p:Pr}:lstP (ps++[p])=p:=by simp[lstP]
theorem wU(g:Pr→Option Int)(o i:Int)(q:Pr)(bs:List Pr):∀(as:List Pr),vl g o i (as++q::bs)=vl g o i (as++[q])+vl g o i (q::bs)-(g q).getD 0
 |[]=>by simp only[List.nil_append,vl];omega
 |[a]=>by
  simp only[List.cons_append,List.nil_append,vl];omega
 |a::b::r=>by
  have ih:=wU g o i q bs (b::r);simp only[List.cons_append]at ih⊢;simp only[vl];rw[ih];omega
theorem oK(g:Pr→Option Int)(o i:Int){ps:List Pr}(eV:ps≠[])(p:Pr):vl g o i (ps++[p])=(g p).getD 0+vl g o i ps-gp o i (lstP ps) p:=by
 obtain⟨qs,q,rfl⟩:∃qs q,ps=qs++[q]:=⟨ps.dropLast,ps.getLast eV,(List.dropLast_concat_getLast eV).symm⟩
 rw[dJ,List.append_assoc];have:=wU g o i q [p] qs;simp only[List.singleton_append]at this⊢;rw[this];simp only[vl];omega
theorem Wy.one{g:Pr→Option Int}{p:Pr}(h:(g p).isSome=true):Wy g [p]:=by
 refine⟨ZA,fun q hq=>?_,ZA⟩;have e:q=p:=by simpa using hq
 rw[e];exact h
theorem qr{a b c:Pr}(h1:Z7 a b)(h2:Z7 b c):Z7 a c:=⟨Int.lt_trans h1.1 h2.1,Int.lt_trans h1.2 h2.2⟩
theorem pw_lst{ps:List Pr}(h:ps.Pairwise Z7){q:Pr}(hq:q∈ps):q=lstP ps∨Z7 q (lstP ps):=by
 have eV:ps≠[]:=fun z=>by rw[z]at hq;cases hq
 obtain⟨qs,x,rfl⟩:∃qs x,ps=qs++[x]:=⟨ps.dropLast,ps.getLast eV,(List.dropLast_concat_getLast eV).symm⟩
 rw[dJ];rcases List.mem_append.mp hq with hq|hq
 ·exact .inr ((List.pairwise_append.mp h).2.2 q hq x (ZA))
 ·exact .inl (by simpa using hq)
theorem Wy.snoc{g:Pr→Option Int}{ps:List Pr}{p:Pr}(w:Wy g ps)(h:(g p).isSome=true)(s:Z7 (lstP ps) p):Wy g (ps++[p]):=by
 refine⟨ZA,fun q hq=>?_,List.pairwise_append.mpr ⟨w.up,ZA,fun a ha b hb=>?_⟩⟩
 ·rcases List.mem_append.mp hq with hq|hq
  ·exact w.ok q hq
  ·have:q=p:=by simpa using hq
   rw[this];exact h
 ·have:b=p:=by simpa using hb
  rw[this];rcases pw_lst w.up ha with e|e
  ·rw[e];exact s
  ·exact qr e s
theorem Wy.split{g:Pr→Option Int}{ps:List Pr}(w:Wy g ps):∃qs,ps=qs++[lstP ps]∧(∃v,g (lstP ps)=some v)∧(qs=[]∨(Wy g qs∧Z7 (lstP qs) (lstP ps))):=by
 obtain⟨qs,x,rfl⟩:∃qs x,ps=qs++[x]:=⟨ps.dropLast,ps.getLast w.ne,(List.dropLast_concat_getLast w.ne).symm⟩
 rw[dJ];refine⟨qs,rfl,Option.isSome_iff_exists.mp (w.ok x (ZA)),?_⟩;by_cases e:qs=[]
 ·exact .inl e
 ·have h:=List.pairwise_append.mp w.up;refine .inr ⟨⟨e,fun q hq=>w.ok q (List.mem_append_left _ hq),h.1⟩,h.2.2 _ ?_ x (ZA)⟩;obtain⟨rs,y,rfl⟩:∃rs y,qs=rs++[y]:=⟨qs.dropLast,qs.getLast e,(List.dropLast_concat_getLast e).symm⟩
  rw[dJ];simp
theorem cR{ps:List Pr}(h:ps≠[]):lstP ps∈ps:=by
 obtain⟨rs,y,rfl⟩:∃rs y,ps=rs++[y]:=⟨ps.dropLast,ps.getLast h,(List.dropLast_concat_getLast h).symm⟩
 rw[dJ];simp
def lf(f:Nat→Nat→Option Int)(p:Pr):Option Int:=if 0≤p.1∧0≤p.2 then f p.1.toNat p.2.toNat else none
theorem qt(f:Nat→Nat→Option Int)(i j:Nat):lf f ((i:Int),(j:Int))=f i j:=by simp[lf]
theorem Bw{f:Nat→Nat→Option Int}{p:Pr}(h:(lf f p).isSome=true):∃i j:Nat,p=((i:Int),(j:Int)):=by
 unfold lf at h;split at h
 ·rename_i hh
  exact⟨p.1.toNat,p.2.toNat,Prod.ext (by simp;omega) (by simp;omega)⟩
 ·cases h
def Py(f:Nat→Nat→Option Int)(o p:Int)(i j:Nat)(v:Int):Prop:=∃ps,Wy (lf f) ps∧(lstP ps).1<(i:Int)∧(lstP ps).2<(j:Int)∧v=vl (lf f) o p ps-(o*((i:Int)-1-(lstP ps).1)+p*((j:Int)-1-(lstP ps).2))
def Pz(f:Nat→Nat→Option Int)(o p:Int)(q:Pr)(v:Int):Prop:=∃ps,Wy (lf f) ps∧lstP ps=q∧v=vl (lf f) o p ps
theorem Bx{f:Nat→Nat→Option Int}{o p:Int}{i j:Nat}{b:Option Int}(h:fT (Py f o p i j) b):fT (Pz f o p ((i:Int),(j:Int))) (G0 (f i j) b):=by
 cases e:f i j with
 |none=>
  rintro v ⟨ps,w,el,rfl⟩;obtain⟨qs,_,⟨x,hx⟩,_⟩:=w.split;rw[el,qt,e]at hx;cases hx
 |some x=>
  have eg:lf f ((i:Int),(j:Int))=some x:=by rw[qt];exact e
  have Ae:∀ps,Wy (lf f) ps→lstP ps=((i:Int),(j:Int))→vl (lf f) o p ps=x∨∃v,Py f o p i j v∧vl (lf f) o p ps=x+v:=fun ps w el=>by
   obtain⟨qs,eq,_,hq⟩:=w.split;rw[el]at eq hq;rcases hq with rfl|⟨wq,st⟩
   ·left
    rw[eq];simp[vl,eg]
   ·right
    refine⟨_,⟨qs,wq,st.1,st.2,rfl⟩,?_⟩;rw[eq,oK _ _ _ wq.ne,eg];simp only[gp,Option.getD_some];have e1:(i:Int)-(lstP qs).1-1=(i:Int)-1-(lstP qs).1:=Zx;have e2:(j:Int)-(lstP qs).2-1=(j:Int)-1-(lstP qs).2:=Zx;rw[e1,e2];omega
  have alone:Pz f o p ((i:Int),(j:Int)) x:=⟨[((i:Int),(j:Int))], .one (by rw[eg];rfl),rfl,by simp[vl,eg]⟩
  have more:∀v,Py f o p i j v→Pz f o p ((i:Int),(j:Int)) (x+v):=by
   rintro v ⟨ps,w,l1,l2,rfl⟩;refine⟨ps++[((i:Int),(j:Int))],w.snoc (by rw[eg];rfl) ⟨l1,l2⟩,dJ,?_⟩;rw[oK _ _ _ w.ne,eg];simp only[gp,Option.getD_some];have e1:(i:Int)-(lstP ps).1-1=(i:Int)-1-(lstP ps).1:=Zx;have e2:(j:Int)-(lstP ps).2-1=(j:Int)-1-(lstP ps).2:=Zx;rw[e1,e2];omega
  cases b with
  |none=>
   refine⟨alone,?_⟩;rintro v ⟨ps,w,el,rfl⟩;rcases Ae ps w el with h1|⟨u,hu,_⟩
   ·omega
   ·exact absurd hu (h u)
  |some m=>
   simp only[G0];split
   ·refine⟨alone,?_⟩;rintro v ⟨ps,w,el,rfl⟩;rcases Ae ps w el with h1|⟨u,hu,h2⟩
    ·omega
    ·have:=h.2 u hu;omega
   ·refine⟨more m h.1,?_⟩;rintro v ⟨ps,w,el,rfl⟩;rcases Ae ps w el with h1|⟨u,hu,h2⟩
    ·omega
    ·have:=h.2 u hu;omega
theorem yF{f:Nat→Nat→Option Int}{ps:List Pr}(w:Wy (lf f) ps):0≤(lstP ps).1∧0≤(lstP ps).2:=by
 obtain⟨a,b,e⟩:=Bw (w.ok _ (cR w.ne));rw[e];simp
theorem fU(f:Nat→Nat→Option Int)(o p:Int):∀i j:Nat,fT (Py f o p i j) (Bq f o p i j)
 |0,j=>by
  unfold Bq;rintro v ⟨ps,w,l1,_⟩;have:=yF w;simp at l1;omega
 |i+1,0=>by
  unfold Bq;rintro v ⟨ps,w,_,l2,_⟩;have:=yF w;simp at l2;omega
 |i+1,j+1=>by
  rw[Bq];refine(yC (Bx (fU f o p i j)) ((fU f o p i (j+1)).less o) ((fU f o p (i+1) j).less p)).iff fun v=>?_
  constructor
  ·rintro(⟨ps,w,el,rfl⟩|⟨u,⟨ps,w,l1,l2,rfl⟩,rfl⟩|⟨u,⟨ps,w,l1,l2,rfl⟩,rfl⟩)
   ·refine⟨ps,w,by rw[el];simp;omega,by rw[el];simp;omega,?_⟩;rw[el];have e1:((i+1:Nat):Int)-1-(i:Int)=0:=Zx;have e2:((j+1:Nat):Int)-1-(j:Int)=0:=Zx;simp only[e1,e2,Int.mul_zero];omega
   ·refine⟨ps,w,Zx,Zx,?_⟩;have e1:((i+1:Nat):Int)-1-(lstP ps).1=((i:Int)-1-(lstP ps).1)+1:=Zx;rw[e1,Int.mul_add];omega
   ·refine⟨ps,w,Zx,Zx,?_⟩;have e1:((j+1:Nat):Int)-1-(lstP ps).2=((j:Int)-1-(lstP ps).2)+1:=Zx;rw[e1,Int.mul_add];omega
  ·rintro⟨ps,w,l1,l2,rfl⟩;by_cases h1:(lstP ps).1<(i:Int)
   ·right;left
    refine⟨_,⟨ps,w,h1,l2,rfl⟩,?_⟩;have e1:((i+1:Nat):Int)-1-(lstP ps).1=((i:Int)-1-(lstP ps).1)+1:=Zx;rw[e1,Int.mul_add];omega
   ·by_cases h2:(lstP ps).2<(j:Int)
    ·right;right
     refine⟨_,⟨ps,w,l1,h2,rfl⟩,?_⟩;have e1:((j+1:Nat):Int)-1-(lstP ps).2=((j:Int)-1-(lstP ps).2)+1:=Zx;rw[e1,Int.mul_add];omega
    ·left
     have a1:(lstP ps).1=(i:Int):=Zx;have a2:(lstP ps).2=(j:Int):=Zx;refine⟨ps,w,Prod.ext a1 a2,?_⟩;have e1:((i+1:Nat):Int)-1-(lstP ps).1=0:=Zx;have e2:((j+1:Nat):Int)-1-(lstP ps).2=0:=Zx;simp only[e1,e2,Int.mul_zero];omega
termination_by i j=>(i,j)
theorem tf(f:Nat→Nat→Option Int)(o p:Int)(i j:Nat):fT (Pz f o p ((i:Int),(j:Int))) (dE f o p i j):=Bx (fU f o p i j)
def fr(f:Nat→Nat→Option Int)(n m:Nat)(a b:Nat):Option Int:=if a<n∧b<m then f (n-1-a) (m-1-b)else none
def Ds(f:Nat→Nat→Option Int)(n m:Nat):Prop:=∀i j,(f i j).isSome=true→i<n∧j<m
theorem wV(c:Case)(shut:List Pr)(p:Pr):lf (i7 c shut) p=n8 c shut p:=by
 unfold lf;split
 ·rename_i h
  unfold i7
  congr 1
  exact Prod.ext (by simp;omega) (by simp;omega)
 ·rename_i h
  unfold n8;split
  ·rfl
  ·exact(c.pw_out Zt).symm
theorem Kv(c:Case)(shut:List Pr):Ds (i7 c shut) c.xs.length c.ys.length:=fun i j h=>by
 unfold i7 n8 at h;split at h
 ·cases h
 ·obtain⟨w,hw⟩:=Option.isSome_iff_exists.mp h;have:=c.pw_in hw;simp at this;omega
theorem By{ps:List Pr}(h:ps≠[]):j6 ps=lstP ps:=by
 obtain⟨qs,x,rfl⟩:∃qs x,ps=qs++[x]:=⟨ps.dropLast,ps.getLast h,(List.dropLast_concat_getLast h).symm⟩
 rw[ni,dJ]
theorem Kx{c:Case}{shut:List Pr}{p:Pr}{w:Int}(h:n8 c shut p=some w):c.pw p=some w∧p∉shut:=by
 unfold n8 at h;split at h
 ·cases h
 ·rename_i hs
  exact⟨h,hs⟩
theorem wX{c:Case}{shut:List Pr}:∀{k:Nat}{ps:List Pr},ps.length=k→oJ c shut ps→Wy (n8 c shut) ps∧wW c ps=vl (n8 c shut) c.out c.into ps
 |0,ps,hk,o=>absurd (List.length_eq_zero_iff.mp hk) (i6 o.1).1
 |k+1,ps,hk,o=>by
  obtain⟨qs,eq,⟨w,hw⟩,hq⟩:=o.split;generalize j6 ps=p at eq hw hq;subst eq;have hp:=Kx hw;rcases hq with rfl|⟨oq,st⟩
  ·exact⟨.one (by rw[hw];rfl),by rw[List.nil_append,Ku hp.1];simp[vl,hw]⟩
  ·have hlen:qs.length=k:=by simpa using hk
   obtain⟨wq,vq⟩:=wX hlen oq;have el:=By wq.ne;rw[yE,el]at st;refine⟨wq.snoc (by rw[hw];rfl) st,?_⟩;rw[GZ wq.ne hp.1,oK _ _ _ wq.ne,hw,vq,el];rfl
theorem Bz{c:Case}{shut:List Pr}:∀{k:Nat}{ps:List Pr},ps.length=k→Wy (n8 c shut) ps→oJ c shut ps
 |0,ps,hk,w=>absurd (List.length_eq_zero_iff.mp hk) w.ne
 |k+1,ps,hk,w=>by
  obtain⟨qs,eq,⟨v,hv⟩,hq⟩:=w.split;generalize lstP ps=p at eq hv hq;subst eq;rcases hq with rfl|⟨wq,st⟩
  ·exact .one hv
  ·have hlen:qs.length=k:=by simpa using hk
   exact(Bz hlen wq).snoc hv (yE.mpr (by rw[By wq.ne];exact st))
theorem yG{c:Case}{shut:List Pr}{ps:List Pr}:oJ c shut ps↔Wy (lf (i7 c shut)) ps:=by
 have:lf (i7 c shut)=n8 c shut:=by funext p;exact wV c shut p
 rw[this];exact⟨fun o=>(wX rfl o).1,fun w=>Bz rfl w⟩
theorem G7{c:Case}{shut:List Pr}{ps:List Pr}(o:oJ c shut ps):wW c ps=vl (lf (i7 c shut)) c.out c.into ps:=by
 have:lf (i7 c shut)=n8 c shut:=by funext p;exact wV c shut p
 rw[this];exact(wX rfl o).2
end QF
namespace L2
open PySem PySem.Spec PyProof.Rows PySem.W PySem.Calls
section
variable{X:Cx}
open Classical in
end
end L2
namespace QF
open PySem L2
theorem f7.first{H:Hp}{xs:List V}{ps:List Pr}(P:f7 H xs ps)(eV:ps≠[]):∃t,rg xs 0=some (.ref t)∧H t=some (.tup [.int (mC ps).1, .int (mC ps).2]):=by
 cases ps with
 |nil=>exact absurd rfl eV
 |cons p r=>
  obtain⟨t,h1,h2⟩:=P.2 0 p rfl;exact⟨t,av (j:=0) h1,h2⟩
end QF
namespace L2
open PySem PySem.Spec PyProof.Rows PySem.W PySem.Calls
section
variable{prog:Program}{w:World}{κ:Type}[DecidableEq κ]{knd:HeapKind prog w κ}{A:Around}{E:Value→Shared→Prop}{s:Shared}
theorem vI{α β:Type}(f:α→β):∀(xs:List α)(j:Nat),(xs.eraseIdx j).map f=(xs.map f).eraseIdx j
 |[],_=>ZA
 | _::_,0=>ZA
 | _::r,j+1=>by simp[vI f r j]
theorem CB{xs:List (κ×Addr×Value)}(hn:(xs.map (·.1)).Nodup):∀{j:Nat}{k:κ}{p:Addr×Value},xs[j]?=some (k,p)→xs.eraseIdx j=xs.filter fun x=>decide (x.1≠k):=by
 induction xs with
 |nil=>intro j k p h;simp at h
 |cons x r ih=>
  intro j k p h;have DF:=List.nodup_cons.mp (by simpa using hn:(x.1::r.map (·.1)).Nodup);cases j with
  |zero=>
   have:x=(k,p):=by simpa using h
   subst this;have hf:r.filter (fun x=>decide (x.1≠k))=r:=List.filter_eq_self.mpr fun y hy=>by
    have:y.1≠k:=fun e=>DF.1 (List.mem_map.mpr ⟨y,hy,e⟩)
    simpa using this
   simp only[List.eraseIdx_cons_zero,List.filter_cons];rw[hf];simp
  |succ j=>
   have hj:r[j]?=some (k,p):=by simpa using h
   have hx:x.1≠k:=fun e=>DF.1 (e▸(List.mem_map.mpr ⟨(k,p),Ze hj,rfl⟩))
   simp only[List.eraseIdx_cons_succ,List.filter_cons];rw[ih DF.2 hj,Zk (by simpa using hx)]
theorem wY{d a:Addr}{xs:List (κ×Addr×Value)}{k:κ}{p:Addr×Value}{Q:Option DictEntry→Shared→Prop}(hu:knd.room A)(oj:knd.is s.heap k a)(hm:s.heap.DictOfH knd d xs)(hp:atKey xs k=some p)(hsz:xs.length≤sizeLine)
  (h:∀h' e,e.val=p.2→h'.DictOfH knd d (xs.filter fun x=>decide (x.1≠k))→Heap.SameBut d s.heap h'→Q (some e) {s with heap:=h',toks:=s.toks+knd.draws k}):wpAny (model prog w) A (Builtin.Dict.takeOut d (.ref a)) Q E s:=by
 obtain⟨o,es,ep,ho,hc,hd,he,RH,hn⟩:=hm;unfold Builtin.Dict.takeOut
 try with_reducible refine wpAny_holding ?_
 refine wpAny_bind (knd.pyHash hu oj ?_);refine wpAny_bind (wpAny_dictFind_heap (s:={s with toks:=s.toks+knd.draws k}) hu oj ho hd he RH hn ?_ ?_)
 ·intro CC;rw[atKey_none_of_get CC]at hp;cases hp
 ·intro j q hj;have eq:q=p:=by rw[atKey_of_get hn hj]at hp;exact Zp hp
  subst eq;refine wpAny_bind (wpAny_dictEntries (s:={s with toks:=s.toks+knd.draws k}) ho hd ?_);rw[entry_at he j,hj];refine wpAny_bind (wpAny_updateDictKeys (hz:=by have e:=size_of_entries he;omega) (s:={s with toks:=s.toks+knd.draws k}) ho hd (wpAny_pure (h _ _ rfl ⟨_,_,ep+1,Heap.get?_update_self _ ho (Obj.isFreed_of_dict (Obj.data_mapDictKeys hd _)),
   hc.mapDictKeys _,Obj.data_mapDictKeys hd _,?_,?_,?_⟩ (Heap.SameBut.update ..))))
  ·rw[←CB hn hj,vI,←he];obtain⟨l⟩:=es;simp
  ·intro x hx;exact knd.keeps (RH x (List.mem_filter.mp hx).1) ho hd (Heap.SameBut.update ..)
  ·exact hn.sublist (List.filter_sublist.map _)
theorem Af(d a:Addr):
  MeetsIn prog w (Builtin.«dict.pop» ⟨[.ref d, .ref a],[]⟩) (fun A R s=>knd.room A.in1∧∃k xs p,knd.is s.heap k a∧s.heap.DictOfH knd d xs∧xs.length≤sizeLine∧atKey xs k=some p∧
   ∀h',h'.DictOfH knd d (xs.filter fun x=>decide (x.1≠k))→Heap.SameBut d s.heap h'→R (.ok (.ret p.2)) {s with heap:=h',toks:=s.toks+knd.draws k}):=
 .of_wp fun A R s ⟨hu,k,xs,p,oj,hm,hsz,hp,h⟩=>by
  obtain⟨o,es,ep,ho,hc,hd,he,RH,hn⟩:=id hm;have eV:es.isEmpty=false:=by
   cases hx:xs with
   |nil=>rw[hx]at hp;cases hp
   |cons x r=>
    have:=size_of_entries he;rw[hx]at this;simp at this;rw[Array.isEmpty_eq_false_iff];intro e;rw[e]at this;simp at this
  unfold Builtin.«dict.pop»;refine wpAny_bind ?_;unfold Builtin.Dict.keyAndDefault;refine wpAny_bind (wpAny_notOrdered_dict hm.typeIs ?_);show wpAny _ _ (pure (d,Value.ref a,none)) _ _ s;refine wpAny_pure ?_;have N2:(keyPart (Value.ref a)).isSome=false:=rfl;simp only[N2,Bool.false_eq_true,if_false];refine wpAny_bind (wpAny_dictEntries ho hd (wpAny_bind (wpAny_pure ?_)));rw[eV];simp only[Bool.false_eq_true,if_false];refine wpAny_bind (wY hu oj hm hp hsz fun h' e Wq Iw mQ=>?_);simp only[Option.isNone_some,Bool.false_eq_true,if_false];exact wpAny_bind (wpAny_letGo (wpAny_pure ⟨e.val,rfl,by rw[Wq];exact h h' Iw mQ⟩))
end
section
variable{X:Cx}{pins:List (Addr×Obj)}{σ:St}{H:Hp}{s:Shared}{a:Addr}{u:Value}{A:Around}{E:Value→Shared→Prop}{kvs:List (List Key×V)}
theorem KT.drop{xs:List (List Key×Addr×Value)}(r:KT H kvs xs)(k:List Key):KT H (iX kvs k) (xs.filter fun x=>decide (x.1≠k)):=by
 unfold iX
 induction r with
 |nil=>exact .nil
 |cons z t ih=>
  simp only[List.filter_cons];rw[z.1];split
  ·exact .cons z ih
  ·exact ih
theorem Ky{v:V}{k:List Key}{b:Addr}{Q:Value→Shared→Prop}(hu:A.units+1<cLine)(I:Inv X pins σ H s)(e:H a=some (.dT kvs))(eb:H b=some (.tup (k.map kV)))(l:bu kvs k=some v)
  (h:∀w' s',Inv X pins σ (upd H a (.dT (iX kvs k))) s'→RelV v w'→Q w' s'):wpAny (model X.prog X.w) A (call (.builtin "dict.pop") [.ref a, .ref b]) Q E s:=by
 obtain⟨z,hd,xs,rel,dd⟩:=Im I.bX e;have rv:=rel.val k;rw[l]at rv;obtain⟨w',hw,fY⟩:=kj.some_of rv;obtain⟨p,hp,rfl⟩:=Option.map_eq_some_iff.mp hw;refine call_meetsIn PySem.F.slot_dict_pop dd.typeIs PySem.F.entry_dict_pop (PySem.F.args_dict_pop_2 _ _) (Af (knd:=tupleKind (cZ X.prog X.w)) a b)
  ⟨tupleKind_room_in1 hu,k,xs,p,m9 I.bX eb,dd,by rw[←Paired.length rel];exact z,hp,fun h' FV hs=>h _ _ ?_ fY⟩
 obtain⟨q,es,ep,hq,h2,h3,h4,_,h5⟩:=FV;refine v_ I (by rw[e];exact True.intro) hs ⟨q,hq⟩ ⟨Nat.le_trans (yn kvs k) z,hd,_,(rel.drop k).keeps fun c ys ec=>?_,q,es,ep,hq,h2,h3,h4,h5⟩;rw[ao (iV ec e (fun z=>nomatch z))];exact ec
end
inductive IJ(x y:V)(H:Hp)(Q:VK):Prop
 |mk (a b:Addr) (kvs:List (List Key×V)) (k:List Key) (v:V) (_:x= .ref a) (_:y= .ref b) (_:H a=some (.dT kvs)) (_:H b=some (.tup (k.map kV))) (_:bu kvs k=some v) (_:Q v (upd H a (.dT (iX kvs k)))):IJ x y H Q
def N3(td ty:TE):TE:=fun σ H Q=>td σ H fun x H1=>∃a,x= .ref a∧Q2 H1 a∧ty σ H1 fun y H2=>IJ x y H2 Q
theorem EH{X:Cx}{o e:Expr}{apos eF:Pos}{td ty:TE}(hu:X.A.units+1<cLine)(ho:PE X o td)(he:PE X e ty)(m:M1 X o "pop" apos e eF):PE X (.Call (.Attribute o "pop" apos) [e] [] eF) (N3 td ty):=by
 intro pins s σ H Q I h;refine wpAny_Call_method m.base m.vx m.line PySem.F.plainAttrs_dict PySem.F.slot_dict_pop PySem.F.type_dict_pop (cK (ho pins s σ H _ I h) fun u s1 ⟨x,H1,I1,rx,a,ex,d,q1⟩=>?_);subst ex;obtain rfl:u=Value.ref a:=rx;obtain⟨t1,t2,_⟩:=DV I1 d;refine⟨t1,t2,?_⟩;rw[m.trees];refine Calls.callWith_builtin rfl (Calls.evalArgs_plain (Calls.spliced_cons (cK (he pins s1 σ H1 _ I1 q1) fun iv s2 ⟨y,H2,I2,ry,q2⟩=>Calls.spliced_nil ?_)));obtain⟨a',b,kvs,k,v,e1,rfl,e2,e3,l,q⟩:=q2;cases e1;obtain rfl:iv=Value.ref b:=ry;exact Ky hu I2 e2 e3 l fun w' s3 I3 fY=>⟨v,_,I3,fY,q⟩
section
variable{prog:Program}{w:World}{A:Around}{E:Value→Shared→Prop}{s:Shared}{it d:Addr}{i ep:Nat}{od:Obj}{es:Array DictEntry}{Q:Option Value→Shared→Prop}
theorem EI(hit:s.heap.IsValIter it d i es.size ep)(IK:s.heap.get? d=some od)(IL:od.data= .dict es ep)(hi:i<es.size)
  (hQ:∀h',h'.IsValIter it d (i+1) es.size ep→Heap.SameBut it s.heap h'→Q (some es[i].val) {s with heap:=h'}):wpAny (model prog w) A (pyNext (.ref it)) Q E s:=by
 obtain⟨o,ho,hc,hd⟩:=id hit;have T:=hit.typeIs;have CC:Builtin.Dict_items.ownsTuple "dict_valueiterator"=false:=Zy;unfold pyNext;refine wpAny_bind (wpAny_attempt (wpAny_callSpecial?_slot (name:=Str.ofString "__next__") T F.slot_dict_valueiterator_next (wpAny_call_entry F.slot_dict_valueiterator_next T F.entry_dict_valueiterator_next ?_ (F.args_dict_valueiterator_next_1 _))));refine wpAny_bind (wpAny_pure (wpAny_bind (wpAny_bind ?_)));first|refine wpAny_bind (wpAny_typeNameOfWhole_valiter T (wpAny_pure ?_))|refine wpAny_bind (wpAny_typeNameOf_valiter T (wpAny_pure ?_))
 refine wpAny_bind (wpAny_fieldsOf ho hd ?_);simp only[CC,Bool.false_eq_true,if_false];show wpAny _ _ (if (Value.ref d==Value.none)=true then _ else _) _ _ s;rw[Zh (show ¬((Value.ref d==Value.none)=true)from Bool.false_ne_true)];refine wpAny_bind (wpAny_pure (wpAny_bind (wpAny_dictEntries IK IL ?_)));rw[if_neg Zr];refine wpAny_bind (wpAny_pure (wpAny_bind (wpAny_dictEpoch IK IL ?_)));rw[if_neg Zr];refine wpAny_pure ?_;simp only[show ¬((i:Int)<0)from by omega,if_false,Int.toNat_natCast,Array.getElem?_eq_getElem hi];refine wpAny_bind ?_;first|refine wpAny_bind (wpAny_typeNameOfWhole_valiter T (wpAny_pure ?_))|refine wpAny_bind (wpAny_typeNameOf_valiter T (wpAny_pure ?_))
 refine wpAny_bind (wpAny_isOneOf_valiter T ?_);show wpAny _ _ (setField (.ref it) 1 (rawInt ((i:Int)+1))>>=_) _ _ s;refine wpAny_bind (wpAny_setField ho hd Zr ?_);have ht:(s.heap.update it (Obj.mapFields (·.setIfInBounds 1 (rawInt ((i:Int)+1))))).IsValIter it d (i+1) es.size ep:=
  ⟨_,Heap.get?_update_self _ ho (Obj.isFreed_of_fields (Obj.data_mapFields hd _)),(Obj.cls_mapFields ..).trans hc,by rw[Obj.data_mapFields hd];simp[rawInt]⟩
 refine wpAny_bind (wpAny_holding (wpAny_bind (wpAny_isOneOf_valiter (s:={s with heap:=s.heap.update it (Obj.mapFields (·.setIfInBounds 1 (rawInt ((i:Int)+1))))}) ht.typeIs ?_)));refine wpAny_bind (wpAny_isOneOf_valiter (s:={s with heap:=s.heap.update it (Obj.mapFields (·.setIfInBounds 1 (rawInt ((i:Int)+1))))}) ht.typeIs ?_);show wpAny _ _ (pure es[i].val) _ _ _;exact wpAny_pure (wpAny_pure ⟨_,rfl,wpAny_pure (hQ _ ht (Heap.SameBut.update ..))⟩)
theorem G8(hh:A.handled=none)(hit:s.heap.IsValIter it d i es.size ep)(IK:s.heap.get? d=some od)(IL:od.data= .dict es ep)(hi:es.size≤i)
  (hQ:∀h',Heap.ExtBut it s.heap h'→Q none {s with heap:=h'}):wpAny (model prog w) A (pyNext (.ref it)) Q E s:=by
 obtain⟨o,ho,hc,hd⟩:=id hit;have T:=hit.typeIs;have CC:Builtin.Dict_items.ownsTuple "dict_valueiterator"=false:=Zy;unfold pyNext;refine wpAny_bind (wpAny_attempt (wpAny_callSpecial?_slot (name:=Str.ofString "__next__") T F.slot_dict_valueiterator_next (wpAny_call_entry F.slot_dict_valueiterator_next T F.entry_dict_valueiterator_next ?_ (F.args_dict_valueiterator_next_1 _))));refine wpAny_bind (wpAny_pure (wpAny_bind (wpAny_bind ?_)));first|refine wpAny_bind (wpAny_typeNameOfWhole_valiter T (wpAny_pure ?_))|refine wpAny_bind (wpAny_typeNameOf_valiter T (wpAny_pure ?_))
 refine wpAny_bind (wpAny_fieldsOf ho hd ?_);simp only[CC,Bool.false_eq_true,if_false];show wpAny _ _ (if (Value.ref d==Value.none)=true then _ else _) _ _ s;rw[Zh (show ¬((Value.ref d==Value.none)=true)from Bool.false_ne_true)];refine wpAny_bind (wpAny_pure (wpAny_bind (wpAny_dictEntries IK IL ?_)));rw[if_neg Zr];refine wpAny_bind (wpAny_pure (wpAny_bind (wpAny_dictEpoch IK IL ?_)));rw[if_neg Zr];refine wpAny_pure ?_;simp only[show ¬((i:Int)<0)from by omega,if_false,Int.toNat_natCast,Array.getElem?_eq_none hi];refine wpAny_bind ?_;first|refine wpAny_bind (wpAny_typeNameOfWhole_valiter T (wpAny_pure ?_))|refine wpAny_bind (wpAny_typeNameOf_valiter T (wpAny_pure ?_))
 show wpAny _ _ (setField (.ref it) 0 .none>>=_) _ _ s;refine wpAny_bind (wpAny_setField ho hd Zr ?_);show wpAny _ _ (newExc (.type "StopIteration") []>>=_) _ _ _;refine wpAny_bind ?_;simp only[newExc,newTuple];refine wpAny_bind (wpAny_newObj_type ?_ (by size_fits));refine wpAny_bind (m:=firstArgMember _ _) (wpAny_of_eq (a:=Value.none) (by first|rfl|(simp only[firstArgMember];rfl)) ?_);refine wpAny_newObj_type ?_ (by size_fits);simp only[raiseNew];refine wpAny_bind (wpAny_handled ?_);rw[show A.in1.handled=none from hh];refine wpAny_bind (wpAny_pure (wpAny_throw ?_));refine wpAny_bind (wpAny_isInstance (T:="StopIteration") (b:=true) ⟨_,Heap.get?_push_size _ rfl,rfl⟩ isSubtype_stop ?_);exact wpAny_pure (hQ _ (((Heap.SameBut.update ..).extBut.push _).push _))
end
theorem vJ{α β:Type}{F:α→β→Prop}:∀{l:List α}{m:List β}{i:Nat}{a:α},Paired F l m→l[i]?=some a→∃b,m[i]?=some b∧F a b
 | _,_,_,_, .nil,e=>by simp at e
 | _,_,0,_, .cons r _,e=>by simp at e;subst e;exact⟨_,rfl,r⟩
 | _,_,i+1,_, .cons _ t,e=>by
  obtain⟨b,h,f⟩:=vJ (i:=i) t (by simpa using e);exact⟨b,by simpa using h,f⟩
def RJ(d:Addr)(o:Obj)(kvs:List (List Key×V)):It:=
 ⟨fun i H=>H d=some (.r9 o (.dT kvs))∧i<kvs.length,fun i H x H'=>H'=H∧∃p,kvs[i]?=some p∧x=p.2,fun i H=>H d=some (.r9 o (.dT kvs))∧kvs.length≤i⟩
theorem BB{P:Program}{w:World}{H:Hp}{h:Heap}{d:Addr}{o:Obj}{kvs:List (List Key×V)}{es:Array DictEntry}{ep:Nat}(ok:lg P w H h)(e:H d=some (.r9 o (.dT kvs)))(hd:o.data= .dict es ep):
  h.get? d=some o∧es.size=kvs.length∧∀i (hi:i<es.size) p,kvs[i]?=some p→RelV p.2 es[i].val:=by
 obtain⟨q1,_,_,xs,r,o',O_,Pa,z1,z2,z3,z4,_⟩:=ok d _ e;rw[q1]at z1;cases z1;rw[hd]at z3;cases z3;have hs:=size_of_entries z4;have hl:=Paired.length r;refine⟨q1,by rw[hs,hl],fun i hi p hp=>?_⟩;obtain⟨x,hx,rx⟩:=vJ r hp;have e1:=entry_at z4 i;rw[hx,Array.getElem?_eq_getElem hi]at e1;have:es[i]=entryOfKey (tupleKind (cZ P w)) x:=Zp e1;rw[this];exact rx.2.2
theorem turn_val{P:Program}{w:World}{K:Frag}{tg:Expr}{it d:Addr}{o:Obj}{kvs:List (List Key×V)}{es:Array DictEntry}{ep:Nat}(hd:o.data= .dict es ep):Turn P w K tg (RJ d o kvs) [it] it (fun i h=>h.IsValIter it d i es.size ep) where
 mem:=ZA
 obj:=fun i h st b hb=>by
  have e:b=it:=by simpa using hb
  subst e;obtain⟨o,e,c,d⟩:=st;exact⟨o,e,fun v z=>by rw[d]at z;cases z⟩
 keep:=fun i h h' st k=>let ⟨o,ho,r⟩:=st;⟨o,k it (ZA) o ho,r⟩
 item:=by
  intro X hP hw hK hc i pins s σ H E I hf st hg;subst hP hw hK;obtain⟨hg,hi⟩:=hg;obtain⟨f0,f1,f2,f3,f4,f5⟩:=hf it (ZA);obtain⟨g1,g2,g3⟩:=BB I.bX hg hd;have Bg:i<es.size:=Zx;refine EI st g1 hd Bg fun h' aU sb=>?_
  have I1:Inv X pins σ H {s with heap:=h'}:=I.turned (t':=s.toks) (fun b o hb e=>(sb.2 b hb).trans e) f0 f1 f3 f4 f5;obtain⟨oi,q1,q2,q3⟩:=id aU;exact⟨_,rfl,yi (s:={s with heap:=h'}) q1 q2 q3 (Zy) ⟨_,H,I1,g3 i Bg kvs[i] (by simp[hi]),⟨rfl,kvs[i],by simp[hi],rfl⟩,aU,fun b hb=>(hf b hb).1⟩⟩
 done:=by
  intro X hP hw hK hc i pins s σ H E I hf st hg;subst hP hw hK;obtain⟨hg,hi⟩:=hg;obtain⟨f0,f1,f2,f3,f4,f5⟩:=hf it (ZA);obtain⟨g1,g2,g3⟩:=BB I.bX hg hd;exact G8 (I.ok.hd hc) st g1 hd Zt fun h' eb=>⟨rfl,I.turned (t':=s.toks) (fun b o hb e=>eb b o hb e) f0 f1 f3 f4 f5⟩
 self:=fun _ _ _ _ _ st h=>wpAny_pyIter_valiter st h
section
variable{prog:Program}{w:World}{A:Around}{E:Value→Shared→Prop}{s:Shared}
theorem CD(d:Addr)(hd:(d==sysModules)=false):MeetsIn prog w (Builtin.«dict.values» ⟨[.ref d],[]⟩) (fun _ R s=>s.TypeIs (.ref d) "dict"∧
   R (.ok (.ret (.ref s.heap.objs.size))) {s with heap:=s.heap.push {cls:= .type "dict_values",data:= .fields #[.ref d]}}):=
 .of_wp fun A R s ⟨ht,h⟩=>by
  refine wpAny_bind ?_;unfold Builtin.Dict.noArgs;refine wpAny_bind (wpAny_notOrdered_dict ht ?_);show wpAny _ _ (pure d) _ _ s;refine wpAny_pure ?_;show wpAny _ _ (Builtin.Dict.showsAll d>>=_) _ _ s;unfold Builtin.Dict.showsAll;rw[Zh (by rw[hd];exact Bool.false_ne_true)];exact wpAny_bind (wpAny_pure (wpAny_bind (wpAny_newObj_type (wpAny_pure ⟨_,rfl,h⟩))))
theorem CH{v d:Addr}{od:Obj}{es:Array DictEntry}{ep:Nat}{Q:Value→Shared→Prop}(hv:s.heap.IsValuesView v d)(IK:s.heap.get? d=some od)(IL:od.data= .dict es ep)
  (hQ:Q (.ref s.heap.objs.size) {s with heap:=s.heap.push {cls:= .type "dict_valueiterator",data:= .fields #[.ref d, .int 0 0, .int es.size 0, .int ep 0]}}):wpAny (model prog w) A (pyIter (.ref v)) Q E s:=by
 obtain⟨ov,Wr,Yu,Ws⟩:=id hv;refine wpAny_pyIter_slot hv.typeIs F.slot_dict_values_iter (wpAny_call_entry F.slot_dict_values_iter hv.typeIs F.entry_dict_values_iter ?_ (F.args_dict_values_iter_1 _));unfold Builtin.«dict_values.__iter__»;refine wpAny_bind (wpAny_pure (wpAny_bind ?_));unfold Builtin.Dict_items.dictOf;refine wpAny_bind (wpAny_field Wr Ws (x:= .ref d) rfl (wpAny_pure (wpAny_bind ?_)));unfold Builtin.Dict_items.newIterator;refine wpAny_bind (wpAny_dictEntries IK IL (wpAny_bind (wpAny_dictEpoch IK IL ?_)));have CC:Builtin.Dict_items.ownsTuple "dict_valueiterator"=false:=Zy;simp only[CC,Bool.false_eq_true,if_false];refine wpAny_newObj_type (wpAny_pure ⟨_,rfl,"dict_valueiterator",_,⟨_,Heap.get?_push_size _ rfl,rfl⟩,F.slot_dict_valueiterator_next.lookup,?_⟩);simpa[rawInt]using hQ
end
def N4(eW:Hp)(tl:TE):TI:=fun σ H R=>tl σ H fun x H1=>∃d kvs,x= .ref d∧H1 d=some (.dT kvs)∧∀o,NF eW d→R (RJ d o kvs) (upd H1 d (.r9 o (.dT kvs)))
theorem G9{X:Cx}(eW:Hp){tg o:Expr}{tl:TE}{apos eF:Pos}(hl:PE X o tl)(ot:attributeBase o "values" X.env (eval o X.env)=eval o X.env:=by rfl)(ow:(apos.endLine==eF.line)=true:=by rfl)(hH:X.eW=eW:=by rfl):
  PI X tg (.Call (.Attribute o "values" apos) [] [] eF) (N4 eW tl):=by
 subst hH;intro pins s σ H R I h;refine wpAny_Call_method0_late ot ow (cK (hl pins s σ H _ I h) fun v s1 ⟨x,H1,I1,r1,q1⟩=>?_);obtain⟨d,kvs,e,hd,q⟩:=q1;subst e;cases r1;obtain⟨z1,z2,xs,r,o,es,ep,g1,g2,g3,g4,g5⟩:=I1.bX d _ hd;have nf:NF X.eW d:=fun o v e=>by
  have:=I1.base.n9 d o v e;rw[hd]at this;cases this
 refine⟨"dict",_,F.plainAttrs_dict,F.slot_dict_values,F.type_dict_values,⟨o,g1,g2.1⟩,fun b hb=>?_,Calls.callWith_builtin rfl (PySem.evalArgs_none ?_)⟩
 ·cases hb;exact⟨o,g1,g2.2.1⟩
 refine call_meetsIn F.slot_dict_values ⟨o,g1,g2.1⟩ F.entry_dict_values (F.args_dict_values_1 _) (CD d z2) ⟨⟨o,g1,g2.1⟩,?_⟩;have Wt:=Heap.get?_push_of_some {cls:= .type "dict_values",data:= .fields #[.ref d]} g1;refine CH (s:={s1 with heap:=s1.heap.push {cls:= .type "dict_values",data:= .fields #[.ref d]}}) ⟨_,Heap.get?_push_size _ rfl,rfl,rfl⟩ Wt g3 ?_;have Iz:Inv X pins σ (upd H1 d (.r9 o (.dT kvs))) s1:=I1.swap hd (fun _ z=>nomatch z) (fun _ z=>nomatch z) (fun _ z=>nomatch z) nf ⟨g1,z1,z2,xs,KT.keeps r (fun c ys ec=>by rw[ao (iV ec hd (fun z=>nomatch z))];exact ec),o,es,ep,g1,g2,g3,g4,g5⟩;have I2:=Iz.kept (t':=s1.toks) fun b o e=>Heap.get?_push_of_some {cls:= .type "dict_values",data:= .fields #[.ref d]} e
 refine⟨_,[_],_,_,_,rfl,I2.kept (t':=s1.toks) fun b o e=>Zi e,turn_val (o:=o) (kvs:=kvs) g3,⟨_,Heap.get?_push_size _ rfl,rfl,rfl⟩,fun b hb=>?_,q o nf⟩;have e:b=(s1.heap.push {cls:= .type "dict_values",data:= .fields #[.ref d]}).objs.size:=by simpa using hb
 subst e;exact I2.uy (Nat.le_refl _) (I2.bX.fresh (Nat.le_refl _))
structure Ag(n:Nat)(lt:Nat→Nat→Bool):Prop where
 tr:∀i j k,i<n→j<n→k<n→lt i j=true→lt j k=true→lt i k=true
 as:∀i j,i<n→j<n→lt i j=true→lt j i=false
 RK:∀i j,i<n→j<n→i≠j→lt i j=true∨lt j i=true
def xX(n:Nat)(p:Array Nat):Prop:=p.toList.Perm (List.range n)
abbrev gd(p:Array Nat)(k:Nat):Nat:=p.getD k 0
theorem EJ(p:Array Nat)(k:Nat):gd p k=(p[k]?).getD 0:=by unfold gd;rw[Array.getD_eq_getD_getElem?]
theorem xX.size{n:Nat}{p:Array Nat}(h:xX n p):p.size=n:=by have:=h.length_eq;simpa using this
def Sd(lt:Nat→Nat→Bool)(p:Array Nat)(m:Nat):Prop:=∀i j,i<j→j<m→lt (gd p i) (gd p j)=true
section
variable{n:Nat}{lt:Nat→Nat→Bool}(L:Ag n lt)
include L
omit L in
omit L in
omit L in
end
def yH:Bool→Keyed→Array Keyed→Nat→Nat→Nat→StateT SortSt Sem (Option Nat):=sortPriv%PySem.Builtin.gallop
def Kz:Array Keyed→Array Keyed→StateT SortSt Sem (Array Keyed):=sortPriv%PySem.Builtin.mergeLo
def KA:Array Keyed→Array Keyed→StateT SortSt Sem (Array Keyed):=sortPriv%PySem.Builtin.mergeHi
def Ah(l:Bool)(key:Keyed)(xs:Array Keyed)(b i:Nat):StateT SortSt Sem (Option Bool):=do
 let x←elem' xs (b+i)
 if l then lt' x key else return (←lt' key x).map (!·)
theorem G_(l:Bool)(key:Keyed)(xs:Array Keyed)(b n h:Nat):yH l key xs b n h=(do
 let mut u:=0
 let mut v:=1
 let mut lo:=0
 let mut hi:=0
 let some r←Ah l key xs b h|return none
 if r then
  let mx:=n-h
  for _ in [0:n] do
   if v≥mx then break
   let some z←Ah l key xs b (h+v)|return none
   if !z then break
   u:=v
   v:=2*v+1
  lo:=h+u+1
  hi:=h+min v mx
 else
  let mx:=h+1
  for _ in [0:n] do
   if v≥mx then break
   let some z←Ah l key xs b (h-v)|return none
   if z then break
   u:=v
   v:=2*v+1
  lo:=h+1-min v mx
  hi:=h-u
 for _ in [0:n] do
  if lo≥hi then break
  let m:=lo+(hi-lo)/2
  let some z←Ah l key xs b m|return none
  if z then lo:=m+1 else hi:=m
 return some hi):=rfl
section
variable{prog:Program}{w:World}{A:Around}{E:Value→Shared→Prop}{s:Shared}
structure EK(prog:Program)(w:World)(A:Around)(s:Shared)(X:List Keyed)(κ:SortKind)(lt:Keyed→Keyed→Bool):Prop where
 run:∀x∈X,∀y∈X,∀C:Bool→Shared→Prop,C (lt x y) s→wpAny (model prog w) A (keyLt' κ x.1 y.1) C (fun _ _=>False) s
 tr:∀x∈X,∀y∈X,∀z∈X,lt x y=true→lt y z=true→lt x z=true
 as:∀x∈X,∀y∈X,lt x y=true→lt y x=false
 RK:∀x∈X,∀y∈X,x≠y→lt x y=true∨lt y x=true
 nd:X.Nodup
variable{X:List Keyed}{κ:SortKind}{lt:Keyed→Keyed→Bool}(C:EK prog w A s X κ lt)
include C
theorem EK.no{x y:Keyed}(h1:x∈X)(h2:y∈X)(hn:x≠y)(h:lt x y=false):lt y x=true:=(C.RK x h1 y h2 hn).resolve_left (by rw[h];simp)
theorem EK.ask{st:SortSt}{x y:Keyed}{Q:Option Bool→SortSt→Prop}(hk:kindOf st=κ)(h1:x∈X)(h2:y∈X)(h:Q (some (lt x y)) st):wpS (model prog w) A E s (lt' x y) Q st:=by
 rw[lt'_eq];refine wpS_bind (wpS_get ?_);rw[hk];refine wpS_bind (wpS_lift (wpAny_attempt (wpAny_mono (C.run x h1 y h2 (fun b s'=>b=lt x y∧s'=s) ⟨rfl,rfl⟩) ?_ fun _ _ e=>e.elim)));rintro b s' ⟨rfl,rfl⟩;exact⟨rfl,wpS_pure h⟩
omit C in
theorem e8{st:SortSt}{xs:Array Keyed}{i:Nat}{x:Keyed}{Q:Keyed→SortSt→Prop}(e:xs[i]?=some x)(h:Q x st):wpS (model prog w) A E s (elem' xs i) Q st:=by
 rw[elem'_eq,e];exact wpS_pure h
def kZ(lt:Keyed→Keyed→Bool)(l:Bool)(key x:Keyed):Bool:=if l then lt x key else !lt key x
theorem so{st:SortSt}{l:Bool}{key x:Keyed}{xs:Array Keyed}{b i:Nat}{Q:Option Bool→SortSt→Prop}(hk:kindOf st=κ)(h1:key∈X)(h2:x∈X)(e:xs[b+i]?=some x)(h:Q (some (kZ lt l key x)) st):wpS (model prog w) A E s (Ah l key xs b i) Q st:=by
 unfold Ah;refine wpS_bind (e8 e ?_);cases l with
 |true=>exact C.ask hk h2 h1 h
 |false=>exact wpS_bind (C.ask hk h1 h2 (wpS_pure h))
theorem qu{st:SortSt}{l:Bool}{key:Keyed}{xs:Array Keyed}{b n h:Nat}{Q:Option Nat→SortSt→Prop}(g:Nat→Keyed)(hk:kindOf st=κ)(h1:key∈X)(hg:∀i,i<n→xs[b+i]?=some (g i)∧g i∈X)(Rh:∀i j,i<j→j<n→lt (g i) (g j)=true)(hh:h<n)
  (q:∀k,k≤n→(∀i,i<k→kZ lt l key (g i)=true)→(∀i,k≤i→i<n→kZ lt l key (g i)=false)→Q (some k) st):wpS (model prog w) A E s (yH l key xs b n h) Q st:=by
 have dn:∀i j,i≤j→j<n→kZ lt l key (g j)=true→kZ lt l key (g i)=true:=fun i j ur hj hb=>by
  by_cases e:i=j
  ·rw[e];exact hb
  have hl:=Rh i j Zu hj;unfold kZ at hb⊢;cases l with
  |true=>exact C.tr _ (hg i Zu).2 _ (hg j hj).2 _ h1 hl hb
  |false=>
   simp only[Bool.false_eq_true,if_false,Bool.not_eq_true']at hb⊢;cases e2:lt key (g i)with
   |false=>rfl
   |true=>rw[C.tr _ h1 _ (hg i Zu).2 _ (hg j hj).2 e2 hl]at hb;cases hb
 have up:∀i j,i≤j→j<n→kZ lt l key (g i)=false→kZ lt l key (g j)=false:=fun i j ur hj hb=>by
  cases e:kZ lt l key (g j)with
  |false=>rfl
  |true=>rw[dn i j ur hj e]at hb;cases hb
 have bin:∀lo hi,lo≤hi→hi≤n→(∀i,i<lo→kZ lt l key (g i)=true)→(∀i,hi≤i→i<n→kZ lt l key (g i)=false)→wpS (model prog w) A E s (do
   let r←forIn [0:n] ((none,lo,hi):Option (Option Nat)×Nat×Nat) fun _ __s=>
    if __s.2.1≥__s.2.2 then pure (ForInStep.done (none,__s.2.1,__s.2.2))
    else do
     let __x←Ah l key xs b (__s.2.1+(__s.2.2-__s.2.1)/2)
     match __x with
     |some z=>if z=true then pure (ForInStep.yield (none,__s.2.1+(__s.2.2-__s.2.1)/2+1,__s.2.2))else pure (ForInStep.yield (none,__s.2.1,__s.2.1+(__s.2.2-__s.2.1)/2))
     | _=>pure (ForInStep.done (some none,__s.2.1,__s.2.2))
   match r.1 with
   |some r=>pure r
   |none=>pure (some r.2.2)) Q st:=fun lo hi h2 h3 h4 h5=>by
  refine wpS_bind (wpS_mono (wpS_forRange (I:=fun x c aU=>aU=st∧∃lo hi,c=(none,lo,hi)∧lo≤hi∧hi≤n∧(∀i,i<lo→kZ lt l key (g i)=true)∧(∀i,hi≤i→i<n→kZ lt l key (g i)=false)∧hi-lo+x≤n) (Q:=fun c aU=>aU=st∧∃k,c.1=none∧c.2.2=k∧k≤n∧(∀i,i<k→kZ lt l key (g i)=true)∧(∀i,k≤i→i<n→kZ lt l key (g i)=false)) ?_ ?_ ⟨rfl,lo,hi,rfl,h2,h3,h4,h5,by lia⟩) ?_)
  ·rintro x c aU _ hx ⟨rfl,lo,hi,rfl,a1,a2,a3,a4,a5⟩;dsimp only;by_cases Ul:lo≥hi
   ·rw[Zk Ul];have:lo=hi:=by lia
    subst this;exact wpS_pure ⟨rfl,lo,rfl,rfl,a2,a3,a4⟩
   ·rw[Zh Ul];have hm:lo+(hi-lo)/2<n:=by lia
    obtain⟨g1,g2⟩:=hg _ hm;refine wpS_bind (so C hk h1 g2 g1 ?_);dsimp only;cases e:kZ lt l key (g (lo+(hi-lo)/2))with
    |true=>
     simp only[if_true];exact wpS_pure ⟨rfl,_,hi,rfl,by lia,a2,fun i Bg=>dn i _ (by lia) hm e,a4,by lia⟩
    |false=>
     simp only[Bool.false_eq_true,if_false];exact wpS_pure ⟨rfl,lo,_,rfl,by lia,by lia,a3,fun i Bg n6=>up _ i Bg n6 e,by lia⟩
  ·rintro c aU ⟨rfl,lo,hi,rfl,a1,a2,a3,a4,a5⟩;have:lo=hi:=by lia
   subst this;exact⟨rfl,lo,rfl,rfl,a2,a3,a4⟩
  ·rintro⟨c1,c2,c3⟩ aU ⟨rfl,k,e1,e2,a2,a3,a4⟩;dsimp only at e1 e2⊢;subst e1 e2;exact wpS_pure (q _ a2 a3 a4)
 rw[G_];obtain⟨Wu,Wv⟩:=hg h hh;refine wpS_bind (so C hk h1 Wv Wu ?_);dsimp only;cases e:kZ lt l key (g h)with
 |true=>
  simp only[if_true];refine wpS_bind (wpS_mono (wpS_forRange (I:=fun x c aU=>aU=st∧∃u v,c=(none,u,v)∧u<v∧h+u<n∧kZ lt l key (g (h+u))=true∧x<v) (Q:=fun c aU=>aU=st∧∃u v,c=(none,u,v)∧u<v∧h+u<n∧kZ lt l key (g (h+u))=true∧(n-h≤v∨(h+v<n∧kZ lt l key (g (h+v))=false))) ?_ ?_ ⟨rfl,0,1,rfl,by lia,by lia,e,by lia⟩) ?_)
  ·rintro x c aU _ hx ⟨rfl,u,v,rfl,a1,a2,a3,a4⟩;dsimp only;by_cases hv:v≥n-h
   ·rw[Zk hv];exact wpS_pure ⟨rfl,u,v,rfl,a1,a2,a3, .inl hv⟩
   ·rw[Zh hv];obtain⟨g1,g2⟩:=hg (h+v) (by lia);refine wpS_bind (so C hk h1 g2 g1 ?_);dsimp only;cases e2:kZ lt l key (g (h+v))with
    |false=>
     simp only[Bool.not_false,if_true];exact wpS_pure ⟨rfl,u,v,rfl,a1,a2,a3, .inr ⟨by lia,e2⟩⟩
    |true=>
     simp only[Bool.not_true,Bool.false_eq_true,if_false];exact wpS_pure ⟨rfl,v,2*v+1,rfl,by lia,by lia,e2,by lia⟩
  ·rintro c aU ⟨rfl,u,v,rfl,a1,a2,a3,a4⟩;exact⟨rfl,u,v,rfl,a1,a2,a3, .inl Zu⟩
  ·rintro c aU ⟨rfl,u,v,rfl,a1,a2,a3,a4⟩;dsimp only;refine Eq.mp (by kernel_rfl) (bin (h+u+1) (h+min v (n-h)) (by lia) (by lia) (fun i hi=>dn i (h+u) (by lia) a2 a3) fun i hi n6=>?_);rcases a4 with a4|⟨a4,a5⟩
   ·lia
   ·exact up (h+v) i Zu n6 a5
 |false=>
  simp only[Bool.false_eq_true,if_false];refine wpS_bind (wpS_mono (wpS_forRange (I:=fun x c aU=>aU=st∧∃u v,c=(none,u,v)∧u<v∧u≤h∧kZ lt l key (g (h-u))=false∧x<v) (Q:=fun c aU=>aU=st∧∃u v,c=(none,u,v)∧u<v∧u≤h∧kZ lt l key (g (h-u))=false∧(h+1≤v∨(v≤h∧kZ lt l key (g (h-v))=true))) ?_ ?_ ⟨rfl,0,1,rfl,by lia,by lia,e,by lia⟩) ?_)
  ·rintro x c aU _ hx ⟨rfl,u,v,rfl,a1,a2,a3,a4⟩;dsimp only;by_cases hv:v≥h+1
   ·rw[Zk hv];exact wpS_pure ⟨rfl,u,v,rfl,a1,a2,a3, .inl hv⟩
   ·rw[Zh hv];obtain⟨g1,g2⟩:=hg (h-v) (by lia);refine wpS_bind (so C hk h1 g2 g1 ?_);dsimp only;cases e2:kZ lt l key (g (h-v))with
    |true=>
     simp only[if_true];exact wpS_pure ⟨rfl,u,v,rfl,a1,a2,a3, .inr ⟨by lia,e2⟩⟩
    |false=>
     simp only[Bool.false_eq_true,if_false];exact wpS_pure ⟨rfl,v,2*v+1,rfl,by lia,by lia,e2,by lia⟩
  ·rintro c aU ⟨rfl,u,v,rfl,a1,a2,a3,a4⟩;exact⟨rfl,u,v,rfl,a1,a2,a3, .inl Zu⟩
  ·rintro c aU ⟨rfl,u,v,rfl,a1,a2,a3,a4⟩;dsimp only;refine Eq.mp (by kernel_rfl) (bin (h+1-min v (h+1)) (h-u) (by lia) (by lia) (fun i hi=>?_) fun i hi n6=>up (h-u) i Zu n6 a3);rcases a4 with a4|⟨a4,a5⟩
   ·lia
   ·exact dn i (h-v) (by lia) (by lia) a5
end
def setG(g:Nat):StateT SortSt Sem Unit:=modify fun st=>SortSt.mk' (kindOf st) (arrOf st) (pendingOf st) g (failedOf st)
def FW(a b out:Array Keyed)(i j:Nat):Array Keyed:=out++a.extract i a.size++b.extract j b.size
def L4(a b out:Array Keyed)(i j:Nat):Array Keyed:=out++b.extract j b.size++a.extract i a.size
abbrev S1:=Option (Array Keyed)×Array Keyed×Nat×Nat×Nat×Nat
abbrev S2:=Option (Array Keyed)×Array Keyed×Nat×Nat×Nat×Nat×Nat
abbrev S3:=Option (Array Keyed)×Array Keyed×Nat×Nat×Nat
def lo1(a b:Array Keyed)(mg:Nat)(c:S1):StateT SortSt Sem (ForInStep S1):=do
 let y←elem' b c.2.2.2.1
 let x←elem' a c.2.2.1
 let z←lt' y x
 match z with
 |some bw=>
  if bw=true then do
   let y←elem' b c.2.2.2.1
   if (c.2.2.2.1+1==b.size)=true then pure (.done (some (FW a b (c.2.1.push y) c.2.2.1 (c.2.2.2.1+1)),c.2.1.push y,c.2.2.1,c.2.2.2.1+1,0,c.2.2.2.2.2+1))
   else if c.2.2.2.2.2+1≥mg then pure (.done (none,c.2.1.push y,c.2.2.1,c.2.2.2.1+1,0,c.2.2.2.2.2+1))
   else pure (.yield (none,c.2.1.push y,c.2.2.1,c.2.2.2.1+1,0,c.2.2.2.2.2+1))
  else do
   let x←elem' a c.2.2.1
   if (c.2.2.1+1+1==a.size)=true then pure (.done (some (L4 a b (c.2.1.push x) (c.2.2.1+1) c.2.2.2.1),c.2.1.push x,c.2.2.1+1,c.2.2.2.1,c.2.2.2.2.1+1,0))
   else if c.2.2.2.2.1+1≥mg then pure (.done (none,c.2.1.push x,c.2.2.1+1,c.2.2.2.1,c.2.2.2.2.1+1,0))
   else pure (.yield (none,c.2.1.push x,c.2.2.1+1,c.2.2.2.1,c.2.2.2.2.1+1,0))
 | _=>pure (.done (some (FW a b c.2.1 c.2.2.1 c.2.2.2.1),c.2.1,c.2.2.1,c.2.2.2.1,c.2.2.2.2.1,c.2.2.2.2.2))
def PB(a b o:Array Keyed)(i j mg k l:Nat):StateT SortSt Sem (ForInStep S2):=do
 let x←elem' a i
 if (i+1+1==a.size)=true then pure (.done (some (L4 a b (o.push x) (i+1) j),o.push x,i+1,j,mg,k,l))
 else if (decide (k<7)&&decide (l<7))=true then pure (.done (none,o.push x,i+1,j,mg,k,l))
 else pure (.yield (none,o.push x,i+1,j,mg,k,l))
def RL(a b o:Array Keyed)(i j mg k bc:Nat):StateT SortSt Sem (ForInStep S2):=do
 let x←elem' a i
 let z←yH true x b j (b.size-j) 0
 match z with
 |some l=>if l>0 then(if (j+l==b.size)=true then pure (.done (some (FW a b (o++b.extract j (j+l)) i (j+l)),o++b.extract j (j+l),i,j+l,mg,k,l))else PB a b (o++b.extract j (j+l)) i (j+l) mg k l)else PB a b o i j mg k l
 | _=>pure (.done (some (FW a b o i j),o,i,j,mg,k,bc))
def PD(a b o:Array Keyed)(i j mg k bc:Nat):StateT SortSt Sem (ForInStep S2):=do
 let y←elem' b j
 if (j+1==b.size)=true then pure (.done (some (FW a b (o.push y) i (j+1)),o.push y,i,j+1,mg,k,bc))else RL a b (o.push y) i (j+1) mg k bc
def PF(a b o:Array Keyed)(i j mg ac bc:Nat):StateT SortSt Sem (ForInStep S2):=do
 setG mg
 let y←elem' b j
 let z←yH false y a i (a.size-i) 0
 match z with
 |some k=>if k>0 then(if (i+k+1==a.size)=true then pure (.done (some (L4 a b (o++a.extract i (i+k)) (i+k) j),o++a.extract i (i+k),i+k,j,mg,k,bc))else if (i+k==a.size)=true then pure (.done (some (FW a b (o++a.extract i (i+k)) (i+k) j),o++a.extract i (i+k),i+k,j,mg,k,bc))else PD a b (o++a.extract i (i+k)) (i+k) j mg k bc)else PD a b o i j mg k bc
 | _=>pure (.done (some (FW a b o i j),o,i,j,mg,ac,bc))
def RM(a b:Array Keyed)(c:S2):StateT SortSt Sem (ForInStep S2):=if c.2.2.2.2.1>1 then PF a b c.2.1 c.2.2.1 c.2.2.2.1 (c.2.2.2.2.1-1) c.2.2.2.2.2.1 c.2.2.2.2.2.2 else PF a b c.2.1 c.2.2.1 c.2.2.2.1 c.2.2.2.2.1 c.2.2.2.2.2.1 c.2.2.2.2.2.2
def RN(a b:Array Keyed)(c:S3):StateT SortSt Sem (ForInStep S3):=do
 let t←forIn [0:a.size+b.size] ((none,c.2.1,c.2.2.1,c.2.2.2.1,0,0):S1) (fun _=>lo1 a b c.2.2.2.2)
 match t.1 with
 |some r=>pure (.done (some r,t.2.1,t.2.2.1,t.2.2.2.1,c.2.2.2.2))
 |none=>do
  liftM (rule "list.sort.gallop")
  let u←forIn [0:a.size+b.size] ((none,t.2.1,t.2.2.1,t.2.2.2.1,c.2.2.2.2+1,t.2.2.2.2.1,t.2.2.2.2.2):S2) (fun _=>RM a b)
  match u.1 with
  |some r=>pure (.done (some r,u.2.1,u.2.2.1,u.2.2.2.1,u.2.2.2.2.1))
  |none=>do
   setG (u.2.2.2.2.1+1)
   pure (.yield (none,u.2.1,u.2.2.1,u.2.2.2.1,u.2.2.2.2.1+1))
theorem Ha(a b:Array Keyed):Kz a b=(do
 liftM (rule "list.sort.merge-lo")
 let y←elem' b 0
 if (1==b.size)=true then pure (FW a b #[y] 0 1)
 else if (0+1==a.size)=true then pure (L4 a b #[y] 0 1)
 else do
  let g←get
  let t←forIn [0:a.size+b.size] ((none,#[y],0,1,gallopOf g):S3) (fun _=>RN a b)
  match t.1 with
  |some r=>pure r
  |none=>unsupported "internal:list.sort.merge-bound"):=by kernel_rfl
def FX(a b o:Array Keyed)(i j:Nat):Array Keyed:=a.extract 0 i++b.extract 0 j++o.reverse
def L5(a b o:Array Keyed)(i j:Nat):Array Keyed:=b.extract 0 j++a.extract 0 i++o.reverse
abbrev T1:=Option (Array Keyed)×Nat×Nat×Array Keyed×Nat×Nat
abbrev T2:=Option (Array Keyed)×Nat×Nat×Array Keyed×Nat×Nat×Nat
abbrev T3:=Option (Array Keyed)×Nat×Nat×Array Keyed×Nat
def RO(a b:Array Keyed)(mg:Nat)(c:T1):StateT SortSt Sem (ForInStep T1):=do
 let y←elem' b (c.2.2.1-1)
 let x←elem' a (c.2.1-1)
 let z←lt' y x
 match z with
 |some aw=>
  if aw=true then do
   let x←elem' a (c.2.1-1)
   if (c.2.1-1==0)=true then pure (.done (some (FX a b (c.2.2.2.1.push x) (c.2.1-1) c.2.2.1),c.2.1-1,c.2.2.1,c.2.2.2.1.push x,c.2.2.2.2.1+1,0))
   else if c.2.2.2.2.1+1≥mg then pure (.done (none,c.2.1-1,c.2.2.1,c.2.2.2.1.push x,c.2.2.2.2.1+1,0))
   else pure (.yield (none,c.2.1-1,c.2.2.1,c.2.2.2.1.push x,c.2.2.2.2.1+1,0))
  else do
   let y←elem' b (c.2.2.1-1)
   if (c.2.2.1-1==1)=true then pure (.done (some (L5 a b (c.2.2.2.1.push y) c.2.1 (c.2.2.1-1)),c.2.1,c.2.2.1-1,c.2.2.2.1.push y,0,c.2.2.2.2.2+1))
   else if c.2.2.2.2.2+1≥mg then pure (.done (none,c.2.1,c.2.2.1-1,c.2.2.2.1.push y,0,c.2.2.2.2.2+1))
   else pure (.yield (none,c.2.1,c.2.2.1-1,c.2.2.2.1.push y,0,c.2.2.2.2.2+1))
 | _=>pure (.done (some (FX a b c.2.2.2.1 c.2.1 c.2.2.1),c.2.1,c.2.2.1,c.2.2.2.1,c.2.2.2.2.1,c.2.2.2.2.2))
def PH(a b o:Array Keyed)(i j mg k l:Nat):StateT SortSt Sem (ForInStep T2):=do
 let x←elem' a (i-1)
 if (i-1==0)=true then pure (.done (some (FX a b (o.push x) (i-1) j),i-1,j,o.push x,mg,k,l))
 else if (decide (k<7)&&decide (l<7))=true then pure (.done (none,i-1,j,o.push x,mg,k,l))
 else pure (.yield (none,i-1,j,o.push x,mg,k,l))
def RP(a b o:Array Keyed)(i j mg k bc:Nat):StateT SortSt Sem (ForInStep T2):=do
 let x←elem' a (i-1)
 let z←yH true x b 0 j (j-1)
 match z with
 |some t=>if j-t>0 then(if (t==1)=true then pure (.done (some (L5 a b (o++(b.extract t j).reverse) i t),i,t,o++(b.extract t j).reverse,mg,k,j-t))else if (t==0)=true then pure (.done (some (FX a b (o++(b.extract t j).reverse) i t),i,t,o++(b.extract t j).reverse,mg,k,j-t))else PH a b (o++(b.extract t j).reverse) i t mg k (j-t))else PH a b o i j mg k (j-t)
 | _=>pure (.done (some (FX a b o i j),i,j,o,mg,k,bc))
def PK(a b o:Array Keyed)(i j mg k bc:Nat):StateT SortSt Sem (ForInStep T2):=do
 let y←elem' b (j-1)
 if (j-1==1)=true then pure (.done (some (L5 a b (o.push y) i (j-1)),i,j-1,o.push y,mg,k,bc))else RP a b (o.push y) i (j-1) mg k bc
def FY(a b o:Array Keyed)(i j mg ac bc:Nat):StateT SortSt Sem (ForInStep T2):=do
 setG mg
 let y←elem' b (j-1)
 let z←yH false y a 0 i (i-1)
 match z with
 |some t=>if i-t>0 then(if (t==0)=true then pure (.done (some (FX a b (o++(a.extract t i).reverse) t j),t,j,o++(a.extract t i).reverse,mg,i-t,bc))else PK a b (o++(a.extract t i).reverse) t j mg (i-t) bc)else PK a b o i j mg (i-t) bc
 | _=>pure (.done (some (FX a b o i j),i,j,o,mg,ac,bc))
def RQ(a b:Array Keyed)(c:T2):StateT SortSt Sem (ForInStep T2):=if c.2.2.2.2.1>1 then FY a b c.2.2.2.1 c.2.1 c.2.2.1 (c.2.2.2.2.1-1) c.2.2.2.2.2.1 c.2.2.2.2.2.2 else FY a b c.2.2.2.1 c.2.1 c.2.2.1 c.2.2.2.2.1 c.2.2.2.2.2.1 c.2.2.2.2.2.2
def RR(a b:Array Keyed)(c:T3):StateT SortSt Sem (ForInStep T3):=do
 let t←forIn [0:a.size+b.size] ((none,c.2.1,c.2.2.1,c.2.2.2.1,0,0):T1) (fun _=>RO a b c.2.2.2.2)
 match t.1 with
 |some r=>pure (.done (some r,t.2.1,t.2.2.1,t.2.2.2.1,c.2.2.2.2))
 |none=>do
  liftM (rule "list.sort.gallop")
  let u←forIn [0:a.size+b.size] ((none,t.2.1,t.2.2.1,t.2.2.2.1,c.2.2.2.2+1,t.2.2.2.2.1,t.2.2.2.2.2):T2) (fun _=>RQ a b)
  match u.1 with
  |some r=>pure (.done (some r,u.2.1,u.2.2.1,u.2.2.2.1,u.2.2.2.2.1))
  |none=>do
   setG (u.2.2.2.2.1+1)
   pure (.yield (none,u.2.1,u.2.2.1,u.2.2.2.1,u.2.2.2.2.1+1))
theorem Hb(a b:Array Keyed):KA a b=(do
 liftM (rule "list.sort.merge-hi")
 let x←elem' a (a.size-1)
 if (a.size-1==0)=true then pure (FX a b #[x] (a.size-1) b.size)
 else if (b.size==1)=true then pure (L5 a b #[x] (a.size-1) b.size)
 else do
  let g←get
  let t←forIn [0:a.size+b.size] ((none,a.size-1,b.size,#[x],gallopOf g):T3) (fun _=>RR a b)
  match t.1 with
  |some r=>pure r
  |none=>unsupported "internal:list.sort.merge-bound"):=by kernel_rfl
theorem lD{α:Type}{l:List α}{i:Nat}{x:α}:x∈l.drop i↔∃t:Nat,l[i+t]?=some x:=by
 rw[List.mem_iff_getElem?];simp only[List.getElem?_drop]
theorem tm{α:Type}{l:List α}{i k:Nat}{x:α}:x∈(l.drop i).take k↔∃t:Nat,t<k∧l[i+t]?=some x:=by
 rw[List.mem_iff_getElem?];constructor
 ·rintro⟨t,ht⟩;rw[List.getElem?_take]at ht;split at ht
  ·rw[List.getElem?_drop]at ht;exact⟨t,by assumption,ht⟩
  ·cases ht
 ·rintro⟨t,h1,h2⟩;exact⟨t,by rw[List.getElem?_take,Zk h1,List.getElem?_drop];exact h2⟩
theorem oM{α:Type}{l:List α}{i:Nat}{x:α}(h:l[i]?=some x):l.drop i=x::l.drop (i+1):=by
 obtain⟨h1,h2⟩:=Y7 h;rw[List.drop_eq_getElem_cons h1,h2]
theorem oN{α:Type}(l:List α)(i k:Nat):l.drop i=(l.drop i).take k++l.drop (i+k):=by
 rw[←List.drop_drop,List.take_append_drop]
abbrev Pw(lt:Keyed→Keyed→Bool)(l:List Keyed):Prop:=l.Pairwise fun x y=>lt x y=true
theorem Pw.at{lt:Keyed→Keyed→Bool}{l:List Keyed}(h:Pw lt l){i j:Nat}{x y:Keyed}(ur:i<j)(hx:l[i]?=some x)(hy:l[j]?=some y):lt x y=true:=by
 obtain⟨h1,e1⟩:=Y7 hx;obtain⟨h2,e2⟩:=Y7 hy;have:=List.pairwise_iff_getElem.mp h i j h1 h2 ur;rw[e1,e2]at this;exact this
section
variable{X:List Keyed}{lt:Keyed→Keyed→Bool}{P Q:List Keyed}
structure MC(X:List Keyed)(lt:Keyed→Keyed→Bool)(P Q:List Keyed):Prop where
 sa:Pw lt P
 sb:Pw lt Q
 ia:∀x∈P,x∈X
 ib:∀x∈Q,x∈X
 ne:∀x∈P,∀y∈Q,x≠y
 fst:∀x∈P,∀y,Q[0]?=some y→lt y x=true
 lst:∀y∈Q,∀x,P[P.length-1]?=some x→lt y x=true
structure ML(lt:Keyed→Keyed→Bool)(P Q O:List Keyed)(i j:Nat):Prop where
 hi:i≤P.length
 hj:j≤Q.length
 sq:Pw lt O
 low:∀x∈O,∀y,y∈P.drop i∨y∈Q.drop j→lt x y=true
 Hd:(O++(P.drop i++Q.drop j)).Perm (P++Q)
def MG(lt:Keyed→Keyed→Bool)(P Q R:List Keyed):Prop:=R.Perm (P++Q)∧Pw lt R
theorem ML.a{O:List Keyed}{i j k:Nat}(M:MC X lt P Q)(m:ML lt P Q O i j)(hk:i+k≤P.length)(h:∀x∈(P.drop i).take k,∀y∈Q.drop j,lt x y=true):ML lt P Q (O++(P.drop i).take k) (i+k) j:=by
 have sp:=oN P i k;have sd:Pw lt (P.drop i):=M.sa.sublist (List.drop_sublist _ _);rw[sp]at sd;obtain⟨s1,s2,s3⟩:=List.pairwise_append.mp sd;refine⟨hk,m.hj,List.pairwise_append.mpr ⟨m.sq,s1,fun x hx y hy=>m.low x hx y (.inl (List.mem_of_mem_take hy))⟩,fun x hx y hy=>?_,?_⟩
 ·rcases List.mem_append.mp hx with hx|hx
  ·exact m.low x hx y (hy.imp (fun z=>by rw[sp];exact List.mem_append_right _ z) id)
  ·rcases hy with hy|hy
   ·exact s3 x hx y hy
   ·exact h x hx y hy
 ·have:=m.Hd;rw[sp]at this;rw[List.append_assoc,←List.append_assoc ((P.drop i).take k)];exact this
theorem ML.b{O:List Keyed}{i j k:Nat}(M:MC X lt P Q)(m:ML lt P Q O i j)(hk:j+k≤Q.length)(h:∀y∈(Q.drop j).take k,∀x∈P.drop i,lt y x=true):ML lt P Q (O++(Q.drop j).take k) i (j+k):=by
 have sp:=oN Q j k;have sd:Pw lt (Q.drop j):=M.sb.sublist (List.drop_sublist _ _);rw[sp]at sd;obtain⟨s1,s2,s3⟩:=List.pairwise_append.mp sd;refine⟨m.hi,hk,List.pairwise_append.mpr ⟨m.sq,s1,fun x hx y hy=>m.low x hx y (.inr (List.mem_of_mem_take hy))⟩,fun x hx y hy=>?_,?_⟩
 ·rcases List.mem_append.mp hx with hx|hx
  ·exact m.low x hx y (hy.imp id (fun z=>by rw[sp];exact List.mem_append_right _ z))
  ·rcases hy with hy|hy
   ·exact h x hx y hy
   ·exact s3 x hx y hy
 ·have:=m.Hd;rw[sp]at this;refine List.Perm.trans ?_ this;rw[List.append_assoc];refine List.Perm.append_left O ?_;rw[←List.append_assoc,←List.append_assoc];exact List.Perm.append_right _ List.perm_append_comm
theorem ML.dn{O:List Keyed}{i j:Nat}(M:MC X lt P Q)(m:ML lt P Q O i j)(h:i=P.length∨j=Q.length):MG lt P Q (O++P.drop i++Q.drop j):=by
 refine⟨by rw[List.append_assoc];exact m.Hd,?_⟩;have sa:Pw lt (P.drop i):=M.sa.sublist (List.drop_sublist _ _);have sb:Pw lt (Q.drop j):=M.sb.sublist (List.drop_sublist _ _);rw[List.append_assoc];refine List.pairwise_append.mpr ⟨m.sq,List.pairwise_append.mpr ⟨sa,sb,fun x hx y hy=>?_⟩,fun x hx y hy=>m.low x hx y (List.mem_append.mp hy)⟩;rcases h with h|h
 ·rw[h,List.drop_length]at hx;cases hx
 ·rw[h,List.drop_length]at hy;cases hy
theorem ML.ls{O:List Keyed}{i j:Nat}(M:MC X lt P Q)(m:ML lt P Q O i j)(h:i+1=P.length):MG lt P Q (O++Q.drop j++P.drop i):=by
 have sa:Pw lt (P.drop i):=M.sa.sublist (List.drop_sublist _ _);have sb:Pw lt (Q.drop j):=M.sb.sublist (List.drop_sublist _ _);rw[List.append_assoc];refine⟨(List.Perm.append_left O List.perm_append_comm).trans m.Hd,List.pairwise_append.mpr ⟨m.sq,List.pairwise_append.mpr ⟨sb,sa,fun y hy x hx=>?_⟩,fun x hx y hy=>m.low x hx y (List.mem_append.mp hy).symm⟩⟩;obtain⟨t,ht⟩:=lD.mp hx;have hl:=(Y7 ht).1;exact M.lst y (List.mem_of_mem_drop hy) x (by rw[←ht];congr 1;lia)
end
def Eg(st aU:SortSt):Prop:=kindOf aU=kindOf st∧arrOf aU=arrOf st∧pendingOf aU=pendingOf st∧failedOf aU=failedOf st
theorem Eg.refl(st:SortSt):Eg st st:=⟨rfl,rfl,rfl,rfl⟩
theorem Eg.trans{a b c:SortSt}(h:Eg a b)(k:Eg b c):Eg a c:=⟨k.1.trans h.1,k.2.1.trans h.2.1,k.2.2.1.trans h.2.2.1,k.2.2.2.trans h.2.2.2⟩
section
variable{prog:Program}{w:World}{A:Around}{E:Value→Shared→Prop}{s:Shared}{X:List Keyed}{κ:SortKind}{lt:Keyed→Keyed→Bool}(C:EK prog w A s X κ lt){a b:Array Keyed}(M:MC X lt a.toList b.toList)
theorem sr{st:SortSt}{g:Nat}{Q:Unit→SortSt→Prop}(h:∀aU,Eg st aU→Q () aU):wpS (model prog w) A E s (setG g) Q st:=wpS_modify (h _ ⟨rfl,rfl,rfl,rfl⟩)
theorem yI(o:Array Keyed)(i j:Nat):(FW a b o i j).toList=o.toList++a.toList.drop i++b.toList.drop j:=by
 unfold FW;simp[Array.toList_extract,List.extract_eq_take_drop];rw[List.take_of_length_le Zr,List.take_of_length_le Zr]
theorem BC(o:Array Keyed)(i j:Nat):(L4 a b o i j).toList=o.toList++b.toList.drop j++a.toList.drop i:=by
 unfold L4;simp[Array.toList_extract,List.extract_eq_take_drop];rw[List.take_of_length_le Zr,List.take_of_length_le Zr]
theorem IM(o:Array Keyed)(c:Array Keyed)(i k:Nat):(o++c.extract i (i+k)).toList=o.toList++(c.toList.drop i).take k:=by
 simp[Array.toList_extract,List.extract_eq_take_drop]
theorem F0{l:List Keyed}{i:Nat}{x:Keyed}(h:l[i]?=some x):(l.drop i).take 1=[x]:=by rw[oM h];simp
def BD(lt:Keyed→Keyed→Bool)(a b:Array Keyed)(o:Array Keyed)(i j m:Nat):Prop:=ML lt a.toList b.toList o.toList i j∧i+1<a.size∧j<b.size∧m≤i+j
def P2(lt:Keyed→Keyed→Bool)(a b:Array Keyed)(m:Nat)(st:SortSt)(r:ForInStep S2)(aU:SortSt):Prop:=Eg st aU∧match r with
 | .done c=>(∃x,c.1=some x∧MG lt a.toList b.toList x.toList)∨(c.1=none∧BD lt a b c.2.1 c.2.2.1 c.2.2.2.1 m)
 | .yield c=>c.1=none∧BD lt a b c.2.1 c.2.2.1 c.2.2.2.1 m
include C M
theorem EL{st:SortSt}{o:Array Keyed}{i j mg k l m:Nat}(ml:ML lt a.toList b.toList o.toList i j)(hi:i+1<a.size)(hj:j<b.size)(hm:m≤i+j+1)(h:∀x,a.toList[i]?=some x→∀y∈b.toList.drop j,lt x y=true):wpS (model prog w) A E s (PB a b o i j mg k l) (P2 lt a b m st) st:=by
 unfold PB;have ex:a[i]?=some a[i]:=ZA;have gJ:a.toList[i]?=some a[i]:=by rw[Array.getElem?_toList];exact ex
 refine wpS_bind (e8 ex ?_);have m2:ML lt a.toList b.toList (o.push a[i]).toList (i+1) j:=by
  have:=ml.a M (k:=1) (by simp;lia) (fun x hx y hy=>by
   rw[F0 gJ]at hx;have:x=a[i]:=by simpa using hx
   rw[this];exact h _ gJ y hy)
  rw[F0 gJ]at this;rw[Array.toList_push];exact this
 by_cases e:(i+1+1==a.size)=true
 ·rw[Zk e];refine wpS_pure ⟨.refl _, .inl ⟨_,rfl,?_⟩⟩;rw[BC];exact m2.ls M (by have:=beq_iff_eq.mp e;simp;lia)
 ·rw[Zh e];have e:i+1+1≠a.size:=fun z=>e (beq_iff_eq.mpr z)
  split
  ·exact wpS_pure ⟨.refl _, .inr ⟨rfl,m2,by show i+1+1<a.size;lia,hj,by show m≤i+1+j;lia⟩⟩
  ·exact wpS_pure ⟨.refl _,rfl,m2,by show i+1+1<a.size;lia,hj,by show m≤i+1+j;lia⟩
theorem KC{st:SortSt}{o:Array Keyed}{i j mg k bc m:Nat}(hk:kindOf st=κ)(ml:ML lt a.toList b.toList o.toList i j)(hi:i+1<a.size)(hj:j<b.size)(hm:m≤i+j+1):wpS (model prog w) A E s (RL a b o i j mg k bc) (P2 lt a b m st) st:=by
 unfold RL;have ex:a[i]?=some a[i]:=ZA;have gJ:a.toList[i]?=some a[i]:=by rw[Array.getElem?_toList];exact ex
 have hx:a[i]∈a.toList:=Ze gJ;refine wpS_bind (e8 ex ?_);generalize a[i]=x at ex gJ hx;have gb:∀t,t<b.size-j→b[j+t]?=some (b.getD (j+t) (.none, .none)):=fun t ht=>by simp[show j+t<b.size by lia]
 have rM:∀t,t<b.size-j→b.toList[j+t]?=some (b.getD (j+t) (.none, .none)):=fun t ht=>by rw[Array.getElem?_toList];exact gb t ht
 refine wpS_bind (qu C (fun t=>b.getD (j+t) (.none, .none)) hk (M.ia _ hx) (fun t ht=>⟨gb t ht,M.ib _ (Ze (rM t ht))⟩) (fun t u h1 h2=>M.sb.at (i:=j+t) (j:=j+u) (by lia) (rM t (by lia)) (rM u h2)) (by lia) fun l hl h1 h2=>?_);dsimp only;have low:∀y∈(b.toList.drop j).take l,∀z∈a.toList.drop i,lt y z=true:=fun y hy z hz=>by
  obtain⟨t,ht,et⟩:=tm.mp hy;rw[rM t (by lia)]at et;cases et;have hb:=h1 t ht;simp only[kZ,if_true]at hb;rw[oM gJ]at hz;rcases List.mem_cons.mp hz with rfl|hz
  ·exact hb
  ·obtain⟨u,hu⟩:=lD.mp hz;exact C.tr _ (M.ib _ (Ze (rM t (by lia)))) _ (M.ia _ hx) _ (M.ia _ (Ze hu)) hb (M.sa.at Zu gJ hu)
 have Z9:∀y∈b.toList.drop (j+l),lt x y=true:=fun y hy=>by
  obtain⟨t,ht⟩:=lD.mp hy;have h_:=(Y7 ht).1;have h_:j+l+t<b.size:=by simpa using h_
  have hb:=h2 (l+t) (by lia) (by lia);have e:b.toList[j+(l+t)]?=some y:=by rw[←Nat.add_assoc];exact ht
  rw[rM (l+t) (by lia)]at e;have e:=Zp e;simp only[kZ,if_true]at hb;rw[e]at hb;exact C.no (M.ib _ (Ze ht)) (M.ia _ hx) (fun z=>M.ne _ hx _ (Ze ht) z.symm) hb
 have m2:ML lt a.toList b.toList (o++b.extract j (j+l)).toList i (j+l):=by
  rw[IM];exact ml.b M (by simp;lia) low
 by_cases KD:l>0
 ·rw[Zk KD];by_cases e:(j+l==b.size)=true
  ·rw[Zk e];refine wpS_pure ⟨.refl _, .inl ⟨_,rfl,?_⟩⟩;rw[yI];exact m2.dn M (.inr (by have:=beq_iff_eq.mp e;simpa using this))
  ·rw[Zh e];have e:j+l≠b.size:=fun z=>e (beq_iff_eq.mpr z)
   exact EL C M m2 hi Zu (by lia) fun y hy=>by rw[gJ]at hy;cases hy;exact Z9
 ·rw[Zh KD];have:l=0:=by lia
  subst this;exact EL C M ml hi hj hm fun y hy=>by rw[gJ]at hy;cases hy;exact Z9
theorem EM{st:SortSt}{o:Array Keyed}{i j mg k bc m:Nat}(hk:kindOf st=κ)(ml:ML lt a.toList b.toList o.toList i j)(hi:i+1<a.size)(hj:j<b.size)(hm:m≤i+j+2)(h:∀y,b.toList[j]?=some y→∀x∈a.toList.drop i,lt y x=true):wpS (model prog w) A E s (PD a b o i j mg k bc) (P2 lt a b m st) st:=by
 unfold PD;have ex:b[j]?=some b[j]:=ZA;have gJ:b.toList[j]?=some b[j]:=by rw[Array.getElem?_toList];exact ex
 refine wpS_bind (e8 ex ?_);have m2:ML lt a.toList b.toList (o.push b[j]).toList i (j+1):=by
  have:=ml.b M (k:=1) (by simp;lia) (fun x hx y hy=>by
   rw[F0 gJ]at hx;have:x=b[j]:=by simpa using hx
   rw[this];exact h _ gJ y hy)
  rw[F0 gJ]at this;rw[Array.toList_push];exact this
 by_cases e:(j+1==b.size)=true
 ·rw[Zk e];refine wpS_pure ⟨.refl _, .inl ⟨_,rfl,?_⟩⟩;rw[yI];exact m2.dn M (.inr (by have:=beq_iff_eq.mp e;simpa using this))
 ·rw[Zh e];have e:j+1≠b.size:=fun z=>e (beq_iff_eq.mpr z)
  exact KC C M hk m2 hi Zu (by lia)
theorem EN{st:SortSt}{o:Array Keyed}{i j mg ac bc m:Nat}(hk:kindOf st=κ)(h:BD lt a b o i j m):wpS (model prog w) A E s (PF a b o i j mg ac bc) (P2 lt a b (m+2) st) st:=by
 obtain⟨ml,hi,hj,hm⟩:=h;unfold PF;refine wpS_bind (sr fun Ai eg=>?_);have IP:kindOf Ai=κ:=eg.1.trans hk;have fin:∀{m:Nat}{p:StateT SortSt Sem (ForInStep S2)},wpS (model prog w) A E s p (P2 lt a b m Ai) Ai→wpS (model prog w) A E s p (P2 lt a b m st) Ai:=fun h=>wpS_mono h fun r aU z=>⟨eg.trans z.1,z.2⟩
 refine fin ?_;have ex:b[j]?=some b[j]:=ZA;have gJ:b.toList[j]?=some b[j]:=by rw[Array.getElem?_toList];exact ex
 have hx:b[j]∈b.toList:=Ze gJ;refine wpS_bind (e8 ex ?_);generalize b[j]=y at ex gJ hx;have gb:∀t,t<a.size-i→a[i+t]?=some (a.getD (i+t) (.none, .none)):=fun t ht=>by simp[show i+t<a.size by lia]
 have rM:∀t,t<a.size-i→a.toList[i+t]?=some (a.getD (i+t) (.none, .none)):=fun t ht=>by rw[Array.getElem?_toList];exact gb t ht
 refine wpS_bind (qu C (fun t=>a.getD (i+t) (.none, .none)) IP (M.ib _ hx) (fun t ht=>⟨gb t ht,M.ia _ (Ze (rM t ht))⟩) (fun t u h1 h2=>M.sa.at (i:=i+t) (j:=i+u) (by lia) (rM t (by lia)) (rM u h2)) (by lia) fun k hl h1 h2=>?_);dsimp only;have low:∀x∈(a.toList.drop i).take k,∀z∈b.toList.drop j,lt x z=true:=fun x uv z hz=>by
  obtain⟨t,ht,et⟩:=tm.mp uv;rw[rM t (by lia)]at et;cases et;have i9:=Ze (rM t (by lia));have hb:=h1 t ht;simp only[kZ,Bool.false_eq_true,if_false,Bool.not_eq_true']at hb;have hb:=C.no (M.ib _ hx) (M.ia _ i9) (fun z=>M.ne _ i9 _ hx z.symm) hb;rw[oM gJ]at hz;rcases List.mem_cons.mp hz with rfl|hz
  ·exact hb
  ·obtain⟨u,hu⟩:=lD.mp hz;exact C.tr _ (M.ia _ i9) _ (M.ib _ hx) _ (M.ib _ (Ze hu)) hb (M.sb.at Zu gJ hu)
 have Z9:∀x∈a.toList.drop (i+k),lt y x=true:=fun x uv=>by
  obtain⟨t,ht⟩:=lD.mp uv;have h_:=(Y7 ht).1;have h_:i+k+t<a.size:=by simpa using h_
  have hb:=h2 (k+t) (by lia) (by lia);have e:a.toList[i+(k+t)]?=some x:=by rw[←Nat.add_assoc];exact ht
  rw[rM (k+t) (by lia)]at e;have e:=Zp e;simp only[kZ,Bool.false_eq_true,if_false,Bool.not_eq_false']at hb;rw[e]at hb;exact hb
 have m2:ML lt a.toList b.toList (o++a.extract i (i+k)).toList (i+k) j:=by
  rw[IM];exact ml.a M (by simp;lia) low
 by_cases Z2:k>0
 ·rw[Zk Z2];by_cases e:(i+k+1==a.size)=true
  ·rw[Zk e];refine wpS_pure ⟨.refl _, .inl ⟨_,rfl,?_⟩⟩;rw[BC];exact m2.ls M (by have:=beq_iff_eq.mp e;simpa using this)
  ·rw[Zh e];have e:i+k+1≠a.size:=fun z=>e (beq_iff_eq.mpr z)
   by_cases e2:(i+k==a.size)=true
   ·rw[Zk e2];refine wpS_pure ⟨.refl _, .inl ⟨_,rfl,?_⟩⟩;rw[yI];exact m2.dn M (.inl (by have:=beq_iff_eq.mp e2;simpa using this))
   ·rw[Zh e2];have e2:i+k≠a.size:=fun z=>e2 (beq_iff_eq.mpr z)
    exact EM C M IP m2 Zu hj Zu fun z hz=>by rw[gJ]at hz;cases hz;exact Z9
 ·rw[Zh Z2];have:k=0:=by lia
  subst this;exact EM C M IP ml hi hj Zu fun z hz=>by rw[gJ]at hz;cases hz;exact Z9
theorem KG{st:SortSt}{c:S2}{m:Nat}(hk:kindOf st=κ)(h:BD lt a b c.2.1 c.2.2.1 c.2.2.2.1 m):wpS (model prog w) A E s (RM a b c) (P2 lt a b (m+2) st) st:=by
 unfold RM;split
 ·exact EN C M hk h
 ·exact EN C M hk h
theorem KH{st:SortSt}{c:S1}{mg m:Nat}(hk:kindOf st=κ)(h:BD lt a b c.2.1 c.2.2.1 c.2.2.2.1 m):wpS (model prog w) A E s (lo1 a b mg c) (fun r aU=>aU=st∧match r with
  | .done c=>(∃x,c.1=some x∧MG lt a.toList b.toList x.toList)∨(c.1=none∧BD lt a b c.2.1 c.2.2.1 c.2.2.2.1 (m+1))
  | .yield c=>c.1=none∧BD lt a b c.2.1 c.2.2.1 c.2.2.2.1 (m+1)) st:=by
 obtain⟨r,o,i,j,ac,bc⟩:=c;obtain⟨ml,hi,hj,hm⟩:=h;dsimp only at ml hi hj hm;unfold lo1;dsimp only;have ex:a[i]?=some a[i]:=ZA;have gJ:a.toList[i]?=some a[i]:=by rw[Array.getElem?_toList];exact ex
 have ey:b[j]?=some b[j]:=ZA;have Z':b.toList[j]?=some b[j]:=by rw[Array.getElem?_toList];exact ey
 have hx:a[i]∈a.toList:=Ze gJ;have hy:b[j]∈b.toList:=Ze Z';refine wpS_bind (e8 ey (wpS_bind (e8 ex ?_)));generalize a[i]=x at ex gJ hx;generalize b[j]=y at ey Z' hy;refine wpS_bind (C.ask hk (M.ib _ hy) (M.ia _ hx) ?_);dsimp only;cases e:lt y x with
 |true=>
  rw[if_pos rfl];refine wpS_bind (e8 ey ?_);have m2:ML lt a.toList b.toList (o.push y).toList i (j+1):=by
   have:=ml.b M (k:=1) (by simp;lia) (fun y' N5 z hz=>by
    rw[F0 Z']at N5;have:y'=y:=by simpa using N5
    rw[this];rw[oM gJ]at hz;rcases List.mem_cons.mp hz with rfl|hz
    ·exact e
    ·obtain⟨u,hu⟩:=lD.mp hz;exact C.tr _ (M.ib _ hy) _ (M.ia _ hx) _ (M.ia _ (Ze hu)) e (M.sa.at Zu gJ hu))
   rw[F0 Z']at this;rw[Array.toList_push];exact this
  by_cases e2:(j+1==b.size)=true
  ·rw[Zk e2];refine wpS_pure ⟨rfl, .inl ⟨_,rfl,?_⟩⟩;rw[yI];exact m2.dn M (.inr (by have:=beq_iff_eq.mp e2;simpa using this))
  ·rw[Zh e2];have e2:j+1≠b.size:=fun z=>e2 (beq_iff_eq.mpr z)
   split
   ·exact wpS_pure ⟨rfl, .inr ⟨rfl,m2,hi,by show j+1<b.size;lia,by show m+1≤i+(j+1);lia⟩⟩
   ·exact wpS_pure ⟨rfl,rfl,m2,hi,by show j+1<b.size;lia,by show m+1≤i+(j+1);lia⟩
 |false=>
  rw[if_neg Zr];refine wpS_bind (e8 ex ?_);have e:=C.no (M.ib _ hy) (M.ia _ hx) (fun z=>M.ne _ hx _ hy z.symm) e;have m2:ML lt a.toList b.toList (o.push x).toList (i+1) j:=by
   have:=ml.a M (k:=1) (by simp;lia) (fun x' uv z hz=>by
    rw[F0 gJ]at uv;have:x'=x:=by simpa using uv
    rw[this];rw[oM Z']at hz;rcases List.mem_cons.mp hz with rfl|hz
    ·exact e
    ·obtain⟨u,hu⟩:=lD.mp hz;exact C.tr _ (M.ia _ hx) _ (M.ib _ hy) _ (M.ib _ (Ze hu)) e (M.sb.at Zu Z' hu))
   rw[F0 gJ]at this;rw[Array.toList_push];exact this
  by_cases e2:(i+1+1==a.size)=true
  ·rw[Zk e2];refine wpS_pure ⟨rfl, .inl ⟨_,rfl,?_⟩⟩;rw[BC];exact m2.ls M (by have:=beq_iff_eq.mp e2;simpa using this)
  ·rw[Zh e2];have e2:i+1+1≠a.size:=fun z=>e2 (beq_iff_eq.mpr z)
   split
   ·exact wpS_pure ⟨rfl, .inr ⟨rfl,m2,by show i+1+1<a.size;lia,hj,by show m+1≤i+1+j;lia⟩⟩
   ·exact wpS_pure ⟨rfl,rfl,m2,by show i+1+1<a.size;lia,hj,by show m+1≤i+1+j;lia⟩
theorem KI{st:SortSt}{c:S3}{m:Nat}(hk:kindOf st=κ)(h:BD lt a b c.2.1 c.2.2.1 c.2.2.2.1 m):wpS (model prog w) A E s (RN a b c) (fun r aU=>Eg st aU∧match r with
  | .done c=>∃x,c.1=some x∧MG lt a.toList b.toList x.toList
  | .yield c=>c.1=none∧BD lt a b c.2.1 c.2.2.1 c.2.2.2.1 (m+1)) st:=by
 unfold RN;refine wpS_bind (wpS_mono (wpS_forRange (I:=fun x c aU=>aU=st∧c.1=none∧BD lt a b c.2.1 c.2.2.1 c.2.2.2.1 (m+x)) (Q:=fun c aU=>aU=st∧((∃x,c.1=some x∧MG lt a.toList b.toList x.toList)∨(c.1=none∧BD lt a b c.2.1 c.2.2.1 c.2.2.2.1 (m+1)))) ?_ ?_ ⟨rfl,rfl,h⟩) ?_)
 ·rintro x c aU _ hx ⟨rfl,hc,hI⟩;refine wpS_mono (KH C M hk hI) fun r aU hr=>?_
  obtain⟨rfl,hr⟩:=hr;cases r with
  |done c=>exact⟨rfl,hr.imp id fun z=>⟨z.1,z.2.1,z.2.2.1,z.2.2.2.1,by have:=z.2.2.2.2;lia⟩⟩
  |yield c=>exact⟨rfl,hr.1,hr.2⟩
 ·rintro c aU ⟨rfl,hc,h1,h2,h3,h4⟩
  lia
 rintro t aU ⟨rfl,ht⟩;rcases ht with⟨x,e,hg⟩|⟨e,hI⟩
 ·rw[e];exact wpS_pure ⟨.refl _,x,rfl,hg⟩
 rw[e];dsimp only;refine wpS_bind (wpS_lift (wpAny_rule ⟨rfl,?_⟩));refine wpS_bind (wpS_mono (wpS_forRange (I:=fun x c dQ=>Eg aU dQ∧c.1=none∧BD lt a b c.2.1 c.2.2.1 c.2.2.2.1 (m+1+x)) (Q:=fun c dQ=>Eg aU dQ∧((∃x,c.1=some x∧MG lt a.toList b.toList x.toList)∨(c.1=none∧BD lt a b c.2.1 c.2.2.1 c.2.2.2.1 (m+1)))) ?_ ?_ ⟨.refl _,rfl,hI⟩) ?_)
 ·rintro x c dQ _ hx ⟨eg,hc,hI⟩;refine wpS_mono (KG C M (eg.1.trans hk) hI) fun r DJ hr=>?_
  obtain⟨EO,hr⟩:=hr;cases r with
  |done c=>exact⟨eg.trans EO,hr.imp id fun z=>⟨z.1,z.2.1,z.2.2.1,z.2.2.2.1,by have:=z.2.2.2.2;lia⟩⟩
  |yield c=>exact⟨eg.trans EO,hr.1,hr.2.1,hr.2.2.1,hr.2.2.2.1,by have:=hr.2.2.2.2;lia⟩
 ·rintro c dQ ⟨eg,hc,h1,h2,h3,h4⟩
  lia
 rintro u dQ ⟨eg,hu⟩;rcases hu with⟨x,e,hg⟩|⟨e,hI⟩
 ·rw[e];exact wpS_pure ⟨eg,x,rfl,hg⟩
 rw[e];dsimp only;exact wpS_bind (sr fun DJ RS=>wpS_pure ⟨eg.trans RS,rfl,hI⟩)
theorem KJ{st:SortSt}{Q:Array Keyed→SortSt→Prop}(hk:kindOf st=κ)(ha:0<a.size)(hb:0<b.size)(q:∀r aU,Eg st aU→MG lt a.toList b.toList r.toList→Q r aU):wpS (model prog w) A E s (Kz a b) Q st:=by
 rw[Ha];refine wpS_bind (wpS_lift (wpAny_rule ⟨rfl,?_⟩));have ey:b[0]?=some b[0]:=ZA;have Z':b.toList[0]?=some b[0]:=by rw[Array.getElem?_toList];exact ey
 refine wpS_bind (e8 ey ?_);have m0:ML lt a.toList b.toList [] 0 0:=⟨ZA,ZA, .nil,fun x hx=>(by cases hx),ZA⟩
 have m1:ML lt a.toList b.toList (#[b[0]]:Array Keyed).toList 0 1:=by
  have:=m0.b M (k:=1) (by simp;lia) (fun y hy x hx=>by
   rw[F0 Z']at hy;have:y=b[0]:=by simpa using hy
   rw[this];exact M.fst x (List.mem_of_mem_drop hx) _ Z')
  rw[F0 Z']at this;exact this
 by_cases e:(1==b.size)=true
 ·rw[Zk e];refine wpS_pure (q _ _ (.refl _) ?_);rw[yI];exact m1.dn M (.inr (by have:=beq_iff_eq.mp e;simpa using this))
 rw[Zh e];have e:1≠b.size:=fun z=>e (beq_iff_eq.mpr z)
 by_cases e2:(0+1==a.size)=true
 ·rw[Zk e2];refine wpS_pure (q _ _ (.refl _) ?_);rw[BC];exact m1.ls M (by have:=beq_iff_eq.mp e2;simpa using this)
 rw[Zh e2];have e2:0+1≠a.size:=fun z=>e2 (beq_iff_eq.mpr z)
 refine wpS_bind (wpS_get ?_);refine wpS_bind (wpS_mono (wpS_forRange (I:=fun x c dQ=>Eg st dQ∧c.1=none∧BD lt a b c.2.1 c.2.2.1 c.2.2.2.1 x) (Q:=fun c dQ=>Eg st dQ∧∃x,c.1=some x∧MG lt a.toList b.toList x.toList) ?_ ?_ ⟨.refl _,rfl,m1,by show 0+1<a.size;lia,by show 1<b.size;lia,by show 0≤0+1;lia⟩) ?_)
 ·rintro x c dQ _ hx ⟨eg,hc,hI⟩;refine wpS_mono (KI C M (eg.1.trans hk) hI) fun r DJ hr=>?_
  obtain⟨EO,hr⟩:=hr;cases r with
  |done c=>exact⟨eg.trans EO,hr⟩
  |yield c=>exact⟨eg.trans EO,hr⟩
 ·rintro c dQ ⟨eg,hc,h1,h2,h3,h4⟩
  lia
 ·rintro c dQ ⟨eg,x,e,hg⟩;rw[e];exact wpS_pure (q x dQ eg hg)
end
theorem wZ{α:Type}{l:List α}{i:Nat}{x:α}:x∈l.take i↔∃t:Nat,t<i∧l[t]?=some x:=by
 have:=tm (l:=l) (i:=0) (k:=i) (x:=x);simpa using this
theorem yJ{α:Type}{l:List α}{i t:Nat}{x:α}:x∈(l.take i).drop t↔∃u:Nat,t≤u∧u<i∧l[u]?=some x:=by
 rw[lD];constructor
 ·rintro⟨u,hu⟩;rw[List.getElem?_take]at hu;split at hu
  ·exact⟨t+u,by lia,by assumption,hu⟩
  ·cases hu
 ·rintro⟨u,h1,h2,h3⟩;exact⟨u-t,by rw[List.getElem?_take,Zk Zu,show t+(u-t)=u by lia];exact h3⟩
theorem yK{α:Type}(l:List α){i t:Nat}(h:t≤i):l.take i=l.take t++(l.take i).drop t:=by
 conv=>lhs;rw[←List.take_append_drop t (l.take i)]
 rw[List.take_take,Nat.min_eq_left h]
section
variable{X:List Keyed}{lt:Keyed→Keyed→Bool}{P Q:List Keyed}
structure MH(lt:Keyed→Keyed→Bool)(P Q O:List Keyed)(i j:Nat):Prop where
 hi:i≤P.length
 hj:j≤Q.length
 sq:Pw lt O
 Z9:∀y∈O,∀x,x∈P.take i∨x∈Q.take j→lt x y=true
 Hd:((P.take i++Q.take j)++O).Perm (P++Q)
theorem MH.a{O:List Keyed}{i j t:Nat}(M:MC X lt P Q)(m:MH lt P Q O i j)(ht:t≤i)(h:∀x∈(P.take i).drop t,∀y∈Q.take j,lt y x=true):MH lt P Q ((P.take i).drop t++O) t j:=by
 have sp:=yK P ht;have sd:Pw lt (P.take i):=M.sa.sublist (List.take_sublist _ _);rw[sp]at sd;obtain⟨s1,s2,s3⟩:=List.pairwise_append.mp sd;refine⟨by have:=m.hi;lia,m.hj,List.pairwise_append.mpr ⟨s2,m.sq,fun x hx y hy=>m.Z9 y hy x (.inl (List.mem_of_mem_drop hx))⟩,fun y hy x hx=>?_,?_⟩
 ·rcases List.mem_append.mp hy with hy|hy
  ·rcases hx with hx|hx
   ·exact s3 x hx y hy
   ·exact h y hy x hx
  ·exact m.Z9 y hy x (hx.imp (fun z=>by rw[sp];exact List.mem_append_left _ z) id)
 ·have:=m.Hd;rw[sp]at this;refine List.Perm.trans ?_ this;rw[←List.append_assoc];refine List.Perm.append_right O ?_;rw[List.append_assoc,List.append_assoc];exact List.Perm.append_left _ List.perm_append_comm
theorem MH.b{O:List Keyed}{i j t:Nat}(M:MC X lt P Q)(m:MH lt P Q O i j)(ht:t≤j)(h:∀y∈(Q.take j).drop t,∀x∈P.take i,lt x y=true):MH lt P Q ((Q.take j).drop t++O) i t:=by
 have sp:=yK Q ht;have sd:Pw lt (Q.take j):=M.sb.sublist (List.take_sublist _ _);rw[sp]at sd;obtain⟨s1,s2,s3⟩:=List.pairwise_append.mp sd;refine⟨m.hi,by have:=m.hj;lia,List.pairwise_append.mpr ⟨s2,m.sq,fun x hx y hy=>m.Z9 y hy x (.inr (List.mem_of_mem_drop hx))⟩,fun y hy x hx=>?_,?_⟩
 ·rcases List.mem_append.mp hy with hy|hy
  ·rcases hx with hx|hx
   ·exact h y hy x hx
   ·exact s3 x hx y hy
  ·exact m.Z9 y hy x (hx.imp id (fun z=>by rw[sp];exact List.mem_append_left _ z))
 ·have:=m.Hd;rw[sp]at this;rw[←List.append_assoc,List.append_assoc (P.take i)];exact this
theorem MH.dn{O:List Keyed}{i j:Nat}(M:MC X lt P Q)(m:MH lt P Q O i j)(h:i=0∨j=0):MG lt P Q (P.take i++Q.take j++O):=by
 refine⟨m.Hd,?_⟩;have sa:Pw lt (P.take i):=M.sa.sublist (List.take_sublist _ _);have sb:Pw lt (Q.take j):=M.sb.sublist (List.take_sublist _ _);refine List.pairwise_append.mpr ⟨List.pairwise_append.mpr ⟨sa,sb,fun x hx y hy=>?_⟩,m.sq,fun x hx y hy=>m.Z9 y hy x (List.mem_append.mp hx)⟩;rcases h with h|h
 ·rw[h,List.take_zero]at hx;cases hx
 ·rw[h,List.take_zero]at hy;cases hy
theorem MH.fb{O:List Keyed}{i j:Nat}(M:MC X lt P Q)(m:MH lt P Q O i j)(h:j=1):MG lt P Q (Q.take j++P.take i++O):=by
 have sa:Pw lt (P.take i):=M.sa.sublist (List.take_sublist _ _);have sb:Pw lt (Q.take j):=M.sb.sublist (List.take_sublist _ _);refine⟨(List.Perm.append_right O List.perm_append_comm).trans m.Hd,List.pairwise_append.mpr ⟨List.pairwise_append.mpr ⟨sb,sa,fun y hy x hx=>?_⟩,m.sq,fun x hx y hy=>m.Z9 y hy x (List.mem_append.mp hx).symm⟩⟩;obtain⟨t,h1,h2⟩:=wZ.mp hy;have:t=0:=by lia
 subst this;exact M.fst x (List.mem_of_mem_take hx) y h2
end
section
variable{prog:Program}{w:World}{A:Around}{E:Value→Shared→Prop}{s:Shared}{X:List Keyed}{κ:SortKind}{lt:Keyed→Keyed→Bool}(C:EK prog w A s X κ lt){a b:Array Keyed}(M:MC X lt a.toList b.toList)
theorem yL(o:Array Keyed)(i j:Nat):(FX a b o i j).toList=a.toList.take i++b.toList.take j++o.toList.reverse:=by
 unfold FX;simp[Array.toList_extract,List.extract_eq_take_drop]
theorem BE(o:Array Keyed)(i j:Nat):(L5 a b o i j).toList=b.toList.take j++a.toList.take i++o.toList.reverse:=by
 unfold L5;simp[Array.toList_extract,List.extract_eq_take_drop]
theorem IQ(o:Array Keyed)(c:Array Keyed)(t i:Nat):(o++(c.extract t i).reverse).toList.reverse=(c.toList.take i).drop t++o.toList.reverse:=by
 simp[Array.toList_extract,List.extract_eq_take_drop,List.drop_take]
theorem BF(o:Array Keyed)(x:Keyed):(o.push x).toList.reverse=[x]++o.toList.reverse:=ZA
theorem F1{l:List Keyed}{i:Nat}{x:Keyed}(h0:0<i)(h:l[i-1]?=some x):(l.take i).drop (i-1)=[x]:=by
 have:l.take i=l.take (i-1)++[x]:=by
  conv=>lhs;rw[show i=i-1+1 by lia]
  rw[List.take_succ,h];rfl
 rw[this];have hl:=(Y7 h).1;rw[List.drop_left' (by simp;lia)]
theorem su{l:List Keyed}(C:EK prog w A s X κ lt)(hs:Pw lt l)(n6:∀x∈l,x∈X){i:Nat}{x z:Keyed}(h:l[i-1]?=some x)(hz:z∈l.take i){y:Keyed}(hy:y∈X)(Aj:lt x y=true):lt z y=true:=by
 obtain⟨t,h1,h2⟩:=wZ.mp hz;by_cases e:t=i-1
 ·subst e;rw[h]at h2;cases h2;exact Aj
 ·exact C.tr _ (n6 _ (Ze h2)) _ (n6 _ (Ze h)) _ hy (hs.at Zu h2 h) Aj
def BG(lt:Keyed→Keyed→Bool)(a b:Array Keyed)(o:Array Keyed)(i j m:Nat):Prop:=MH lt a.toList b.toList o.toList.reverse i j∧0<i∧1<j∧m+i+j≤a.size+b.size
def KL(lt:Keyed→Keyed→Bool)(a b:Array Keyed)(m:Nat)(st:SortSt)(r:ForInStep T2)(aU:SortSt):Prop:=Eg st aU∧match r with
 | .done c=>(∃x,c.1=some x∧MG lt a.toList b.toList x.toList)∨(c.1=none∧BG lt a b c.2.2.2.1 c.2.1 c.2.2.1 m)
 | .yield c=>c.1=none∧BG lt a b c.2.2.2.1 c.2.1 c.2.2.1 m
include C M
theorem ER{st:SortSt}{o:Array Keyed}{i j mg k l m:Nat}(ml:MH lt a.toList b.toList o.toList.reverse i j)(hi:0<i)(hj:1<j)(hm:m+i+j≤a.size+b.size+1)(h:∀x,a.toList[i-1]?=some x→∀y∈b.toList.take j,lt y x=true):wpS (model prog w) A E s (PH a b o i j mg k l) (KL lt a b m st) st:=by
 unfold PH;have RT:i≤a.size:=by have:=ml.hi;simpa using this
 have ex:a[i-1]?=some a[i-1]:=ZA;have gJ:a.toList[i-1]?=some a[i-1]:=by rw[Array.getElem?_toList];exact ex
 refine wpS_bind (e8 ex ?_);have m2:MH lt a.toList b.toList (o.push a[i-1]).toList.reverse (i-1) j:=by
  have:=ml.a M (t:=i-1) (by lia) (fun x hx y hy=>by
   rw[F1 hi gJ]at hx;have:x=a[i-1]:=by simpa using hx
   rw[this];exact h _ gJ y hy)
  rw[F1 hi gJ]at this;rw[BF];exact this
 by_cases e:(i-1==0)=true
 ·rw[Zk e];refine wpS_pure ⟨.refl _, .inl ⟨_,rfl,?_⟩⟩;rw[yL];exact m2.dn M (.inl (beq_iff_eq.mp e))
 ·rw[Zh e];have e:i-1≠0:=fun z=>e (beq_iff_eq.mpr z)
  split
  ·exact wpS_pure ⟨.refl _, .inr ⟨rfl,m2,by show 0<i-1;lia,hj,by show m+(i-1)+j≤_;lia⟩⟩
  ·exact wpS_pure ⟨.refl _,rfl,m2,by show 0<i-1;lia,hj,by show m+(i-1)+j≤_;lia⟩
theorem KN{st:SortSt}{o:Array Keyed}{i j mg k bc m:Nat}(hk:kindOf st=κ)(ml:MH lt a.toList b.toList o.toList.reverse i j)(hi:0<i)(hj:1<j)(hm:m+i+j≤a.size+b.size+1):wpS (model prog w) A E s (RP a b o i j mg k bc) (KL lt a b m st) st:=by
 unfold RP;have RT:i≤a.size:=by have:=ml.hi;simpa using this
 have RU:j≤b.size:=by have:=ml.hj;simpa using this
 have ex:a[i-1]?=some a[i-1]:=ZA;have gJ:a.toList[i-1]?=some a[i-1]:=by rw[Array.getElem?_toList];exact ex
 have hx:a[i-1]∈a.toList:=Ze gJ;refine wpS_bind (e8 ex ?_);generalize a[i-1]=x at ex gJ hx;have gb:∀t,t<j→b[0+t]?=some (b.getD t (.none, .none)):=fun t ht=>by simp[show t<b.size by lia]
 have rM:∀t,t<j→b.toList[t]?=some (b.getD t (.none, .none)):=fun t ht=>by rw[Array.getElem?_toList];simpa using gb t ht
 refine wpS_bind (qu C (fun t=>b.getD t (.none, .none)) hk (M.ia _ hx) (fun t ht=>⟨gb t ht,M.ib _ (Ze (rM t ht))⟩) (fun t u h1 h2=>M.sb.at h1 (rM t (by lia)) (rM u h2)) (by lia) fun t hl h1 h2=>?_);dsimp only;have Z9:∀y∈(b.toList.take j).drop t,∀z∈a.toList.take i,lt z y=true:=fun y hy z hz=>by
  obtain⟨u,h3,h4,h5⟩:=yJ.mp hy;have hb:=h2 u h3 h4;rw[rM u h4]at h5;have h5:=Zp h5;simp only[kZ,if_true]at hb;rw[h5]at hb;have RV:=List.mem_of_mem_take (List.mem_of_mem_drop hy);have hb:=C.no (M.ib _ RV) (M.ia _ hx) (fun z=>M.ne _ hx _ RV z.symm) hb;exact su C M.sa M.ia gJ hz (M.ib _ RV) hb
 have low:∀y∈b.toList.take t,lt y x=true:=fun y hy=>by
  obtain⟨u,h3,h4⟩:=wZ.mp hy;have hb:=h1 u h3;rw[rM u Zu]at h4;have h4:=Zp h4;simp only[kZ,if_true]at hb;rw[h4]at hb;exact hb
 have m2:MH lt a.toList b.toList (o++(b.extract t j).reverse).toList.reverse i t:=by
  rw[IQ];exact ml.b M hl Z9
 by_cases KD:j-t>0
 ·rw[Zk KD];by_cases e:(t==1)=true
  ·rw[Zk e];refine wpS_pure ⟨.refl _, .inl ⟨_,rfl,?_⟩⟩;rw[BE];exact m2.fb M (beq_iff_eq.mp e)
  ·rw[Zh e];have e:t≠1:=fun z=>e (beq_iff_eq.mpr z)
   by_cases e2:(t==0)=true
   ·rw[Zk e2];refine wpS_pure ⟨.refl _, .inl ⟨_,rfl,?_⟩⟩;rw[yL];exact m2.dn M (.inr (beq_iff_eq.mp e2))
   ·rw[Zh e2];have e2:t≠0:=fun z=>e2 (beq_iff_eq.mpr z)
    exact ER C M m2 hi Zu (by lia) fun y hy=>by rw[gJ]at hy;cases hy;exact low
 ·rw[Zh KD];have:t=j:=by lia
  subst this;exact ER C M ml hi hj hm fun y hy=>by rw[gJ]at hy;cases hy;exact low
theorem ES{st:SortSt}{o:Array Keyed}{i j mg k bc m:Nat}(hk:kindOf st=κ)(ml:MH lt a.toList b.toList o.toList.reverse i j)(hi:0<i)(hj:1<j)(hm:m+i+j≤a.size+b.size+2)(h:∀y,b.toList[j-1]?=some y→∀x∈a.toList.take i,lt x y=true):wpS (model prog w) A E s (PK a b o i j mg k bc) (KL lt a b m st) st:=by
 unfold PK;have RU:j≤b.size:=by have:=ml.hj;simpa using this
 have ex:b[j-1]?=some b[j-1]:=ZA;have gJ:b.toList[j-1]?=some b[j-1]:=by rw[Array.getElem?_toList];exact ex
 refine wpS_bind (e8 ex ?_);have m2:MH lt a.toList b.toList (o.push b[j-1]).toList.reverse i (j-1):=by
  have:=ml.b M (t:=j-1) (by lia) (fun x hx y hy=>by
   rw[F1 Zu gJ]at hx;have:x=b[j-1]:=by simpa using hx
   rw[this];exact h _ gJ y hy)
  rw[F1 Zu gJ]at this;rw[BF];exact this
 by_cases e:(j-1==1)=true
 ·rw[Zk e];refine wpS_pure ⟨.refl _, .inl ⟨_,rfl,?_⟩⟩;rw[BE];exact m2.fb M (beq_iff_eq.mp e)
 ·rw[Zh e];have e:j-1≠1:=fun z=>e (beq_iff_eq.mpr z)
  exact KN C M hk m2 hi Zu (by lia)
theorem ET{st:SortSt}{o:Array Keyed}{i j mg ac bc m:Nat}(hk:kindOf st=κ)(h:BG lt a b o i j m):wpS (model prog w) A E s (FY a b o i j mg ac bc) (KL lt a b (m+2) st) st:=by
 obtain⟨ml,hi,hj,hm⟩:=h;have RT:i≤a.size:=by have:=ml.hi;simpa using this
 have RU:j≤b.size:=by have:=ml.hj;simpa using this
 unfold FY;refine wpS_bind (sr fun Ai eg=>?_);have IP:kindOf Ai=κ:=eg.1.trans hk;have fin:∀{m:Nat}{p:StateT SortSt Sem (ForInStep T2)},wpS (model prog w) A E s p (KL lt a b m Ai) Ai→wpS (model prog w) A E s p (KL lt a b m st) Ai:=fun h=>wpS_mono h fun r aU z=>⟨eg.trans z.1,z.2⟩
 refine fin ?_;have ex:b[j-1]?=some b[j-1]:=ZA;have gJ:b.toList[j-1]?=some b[j-1]:=by rw[Array.getElem?_toList];exact ex
 have hx:b[j-1]∈b.toList:=Ze gJ;refine wpS_bind (e8 ex ?_);generalize b[j-1]=y at ex gJ hx;have gb:∀t,t<i→a[0+t]?=some (a.getD t (.none, .none)):=fun t ht=>by simp[show t<a.size by lia]
 have rM:∀t,t<i→a.toList[t]?=some (a.getD t (.none, .none)):=fun t ht=>by rw[Array.getElem?_toList];simpa using gb t ht
 refine wpS_bind (qu C (fun t=>a.getD t (.none, .none)) IP (M.ib _ hx) (fun t ht=>⟨gb t ht,M.ia _ (Ze (rM t ht))⟩) (fun t u h1 h2=>M.sa.at h1 (rM t (by lia)) (rM u h2)) (by lia) fun t hl h1 h2=>?_);dsimp only;have Z9:∀x∈(a.toList.take i).drop t,∀z∈b.toList.take j,lt z x=true:=fun x uv z hz=>by
  obtain⟨u,h3,h4,h5⟩:=yJ.mp uv;have hb:=h2 u h3 h4;rw[rM u h4]at h5;have h5:=Zp h5;simp only[kZ,Bool.false_eq_true,if_false,Bool.not_eq_false']at hb;rw[h5]at hb;exact su C M.sb M.ib gJ hz (M.ia _ (List.mem_of_mem_take (List.mem_of_mem_drop uv))) hb
 have low:∀x∈a.toList.take t,lt x y=true:=fun x uv=>by
  obtain⟨u,h3,h4⟩:=wZ.mp uv;have hb:=h1 u h3;rw[rM u Zu]at h4;have h4:=Zp h4;have Iw:=List.mem_of_mem_take uv;simp only[kZ,Bool.false_eq_true,if_false,Bool.not_eq_true']at hb;rw[h4]at hb;exact C.no (M.ib _ hx) (M.ia _ Iw) (fun z=>M.ne _ Iw _ hx z.symm) hb
 have m2:MH lt a.toList b.toList (o++(a.extract t i).reverse).toList.reverse t j:=by
  rw[IQ];exact ml.a M hl Z9
 by_cases Z2:i-t>0
 ·rw[Zk Z2];by_cases e:(t==0)=true
  ·rw[Zk e];refine wpS_pure ⟨.refl _, .inl ⟨_,rfl,?_⟩⟩;rw[yL];exact m2.dn M (.inl (beq_iff_eq.mp e))
  ·rw[Zh e];have e:t≠0:=fun z=>e (beq_iff_eq.mpr z)
   exact ES C M IP m2 Zu hj Zu fun z hz=>by rw[gJ]at hz;cases hz;exact low
 ·rw[Zh Z2];have:t=i:=by lia
  subst this;exact ES C M IP ml hi hj Zu fun z hz=>by rw[gJ]at hz;cases hz;exact low
theorem KO{st:SortSt}{c:T2}{m:Nat}(hk:kindOf st=κ)(h:BG lt a b c.2.2.2.1 c.2.1 c.2.2.1 m):wpS (model prog w) A E s (RQ a b c) (KL lt a b (m+2) st) st:=by
 unfold RQ;split
 ·exact ET C M hk h
 ·exact ET C M hk h
theorem KP{st:SortSt}{c:T1}{mg m:Nat}(hk:kindOf st=κ)(h:BG lt a b c.2.2.2.1 c.2.1 c.2.2.1 m):wpS (model prog w) A E s (RO a b mg c) (fun r aU=>aU=st∧match r with
  | .done c=>(∃x,c.1=some x∧MG lt a.toList b.toList x.toList)∨(c.1=none∧BG lt a b c.2.2.2.1 c.2.1 c.2.2.1 (m+1))
  | .yield c=>c.1=none∧BG lt a b c.2.2.2.1 c.2.1 c.2.2.1 (m+1)) st:=by
 obtain⟨r,i,j,o,ac,bc⟩:=c;obtain⟨ml,hi,hj,hm⟩:=h;dsimp only at ml hi hj hm;have RT:i≤a.size:=by have:=ml.hi;simpa using this
 have RU:j≤b.size:=by have:=ml.hj;simpa using this
 unfold RO;dsimp only;have ex:a[i-1]?=some a[i-1]:=ZA;have gJ:a.toList[i-1]?=some a[i-1]:=by rw[Array.getElem?_toList];exact ex
 have ey:b[j-1]?=some b[j-1]:=ZA;have Z':b.toList[j-1]?=some b[j-1]:=by rw[Array.getElem?_toList];exact ey
 have hx:a[i-1]∈a.toList:=Ze gJ;have hy:b[j-1]∈b.toList:=Ze Z';refine wpS_bind (e8 ey (wpS_bind (e8 ex ?_)));generalize a[i-1]=x at ex gJ hx;generalize b[j-1]=y at ey Z' hy;refine wpS_bind (C.ask hk (M.ib _ hy) (M.ia _ hx) ?_);dsimp only;cases e:lt y x with
 |true=>
  rw[if_pos rfl];refine wpS_bind (e8 ex ?_);have m2:MH lt a.toList b.toList (o.push x).toList.reverse (i-1) j:=by
   have:=ml.a M (t:=i-1) (by lia) (fun x' uv z hz=>by
    rw[F1 hi gJ]at uv;have:x'=x:=by simpa using uv
    rw[this];exact su C M.sb M.ib Z' hz (M.ia _ hx) e)
   rw[F1 hi gJ]at this;rw[BF];exact this
  by_cases e2:(i-1==0)=true
  ·rw[Zk e2];refine wpS_pure ⟨rfl, .inl ⟨_,rfl,?_⟩⟩;rw[yL];exact m2.dn M (.inl (beq_iff_eq.mp e2))
  ·rw[Zh e2];have e2:i-1≠0:=fun z=>e2 (beq_iff_eq.mpr z)
   split
   ·exact wpS_pure ⟨rfl, .inr ⟨rfl,m2,by show 0<i-1;lia,hj,by show m+1+(i-1)+j≤_;lia⟩⟩
   ·exact wpS_pure ⟨rfl,rfl,m2,by show 0<i-1;lia,hj,by show m+1+(i-1)+j≤_;lia⟩
 |false=>
  rw[if_neg Zr];refine wpS_bind (e8 ey ?_);have e:=C.no (M.ib _ hy) (M.ia _ hx) (fun z=>M.ne _ hx _ hy z.symm) e;have m2:MH lt a.toList b.toList (o.push y).toList.reverse i (j-1):=by
   have:=ml.b M (t:=j-1) (by lia) (fun y' N5 z hz=>by
    rw[F1 Zu Z']at N5;have:y'=y:=by simpa using N5
    rw[this];exact su C M.sa M.ia gJ hz (M.ib _ hy) e)
   rw[F1 Zu Z']at this;rw[BF];exact this
  by_cases e2:(j-1==1)=true
  ·rw[Zk e2];refine wpS_pure ⟨rfl, .inl ⟨_,rfl,?_⟩⟩;rw[BE];exact m2.fb M (beq_iff_eq.mp e2)
  ·rw[Zh e2];have e2:j-1≠1:=fun z=>e2 (beq_iff_eq.mpr z)
   split
   ·exact wpS_pure ⟨rfl, .inr ⟨rfl,m2,hi,by show 1<j-1;lia,by show m+1+i+(j-1)≤_;lia⟩⟩
   ·exact wpS_pure ⟨rfl,rfl,m2,hi,by show 1<j-1;lia,by show m+1+i+(j-1)≤_;lia⟩
theorem KR{st:SortSt}{c:T3}{m:Nat}(hk:kindOf st=κ)(h:BG lt a b c.2.2.2.1 c.2.1 c.2.2.1 m):wpS (model prog w) A E s (RR a b c) (fun r aU=>Eg st aU∧match r with
  | .done c=>∃x,c.1=some x∧MG lt a.toList b.toList x.toList
  | .yield c=>c.1=none∧BG lt a b c.2.2.2.1 c.2.1 c.2.2.1 (m+1)) st:=by
 unfold RR;refine wpS_bind (wpS_mono (wpS_forRange (I:=fun x c aU=>aU=st∧c.1=none∧BG lt a b c.2.2.2.1 c.2.1 c.2.2.1 (m+x)) (Q:=fun c aU=>aU=st∧((∃x,c.1=some x∧MG lt a.toList b.toList x.toList)∨(c.1=none∧BG lt a b c.2.2.2.1 c.2.1 c.2.2.1 (m+1)))) ?_ ?_ ⟨rfl,rfl,h⟩) ?_)
 ·rintro x c aU _ hx ⟨rfl,hc,hI⟩;refine wpS_mono (KP C M hk hI) fun r aU hr=>?_
  obtain⟨rfl,hr⟩:=hr;cases r with
  |done c=>exact⟨rfl,hr.imp id fun z=>⟨z.1,z.2.1,z.2.2.1,z.2.2.2.1,by have:=z.2.2.2.2;lia⟩⟩
  |yield c=>exact⟨rfl,hr.1,hr.2⟩
 ·rintro c aU ⟨rfl,hc,h1,h2,h3,h4⟩
  lia
 rintro t aU ⟨rfl,ht⟩;rcases ht with⟨x,e,hg⟩|⟨e,hI⟩
 ·rw[e];exact wpS_pure ⟨.refl _,x,rfl,hg⟩
 rw[e];dsimp only;refine wpS_bind (wpS_lift (wpAny_rule ⟨rfl,?_⟩));refine wpS_bind (wpS_mono (wpS_forRange (I:=fun x c dQ=>Eg aU dQ∧c.1=none∧BG lt a b c.2.2.2.1 c.2.1 c.2.2.1 (m+1+x)) (Q:=fun c dQ=>Eg aU dQ∧((∃x,c.1=some x∧MG lt a.toList b.toList x.toList)∨(c.1=none∧BG lt a b c.2.2.2.1 c.2.1 c.2.2.1 (m+1)))) ?_ ?_ ⟨.refl _,rfl,hI⟩) ?_)
 ·rintro x c dQ _ hx ⟨eg,hc,hI⟩;refine wpS_mono (KO C M (eg.1.trans hk) hI) fun r DJ hr=>?_
  obtain⟨EO,hr⟩:=hr;cases r with
  |done c=>exact⟨eg.trans EO,hr.imp id fun z=>⟨z.1,z.2.1,z.2.2.1,z.2.2.2.1,by have:=z.2.2.2.2;lia⟩⟩
  |yield c=>exact⟨eg.trans EO,hr.1,hr.2.1,hr.2.2.1,hr.2.2.2.1,by have:=hr.2.2.2.2;lia⟩
 ·rintro c dQ ⟨eg,hc,h1,h2,h3,h4⟩
  lia
 rintro u dQ ⟨eg,hu⟩;rcases hu with⟨x,e,hg⟩|⟨e,hI⟩
 ·rw[e];exact wpS_pure ⟨eg,x,rfl,hg⟩
 rw[e];dsimp only;exact wpS_bind (sr fun DJ RS=>wpS_pure ⟨eg.trans RS,rfl,hI⟩)
theorem KS{st:SortSt}{Q:Array Keyed→SortSt→Prop}(hk:kindOf st=κ)(ha:0<a.size)(hb:0<b.size)(q:∀r aU,Eg st aU→MG lt a.toList b.toList r.toList→Q r aU):wpS (model prog w) A E s (KA a b) Q st:=by
 rw[Hb];refine wpS_bind (wpS_lift (wpAny_rule ⟨rfl,?_⟩));have ex:a[a.size-1]?=some a[a.size-1]:=ZA;have gJ:a.toList[a.size-1]?=some a[a.size-1]:=by rw[Array.getElem?_toList];exact ex
 refine wpS_bind (e8 ex ?_);have m0:MH lt a.toList b.toList [] a.size b.size:=⟨ZA,ZA, .nil,fun x hx=>(by cases hx),by rw[List.take_of_length_le Zr,List.take_of_length_le Zr];simp⟩
 have m1:MH lt a.toList b.toList (#[a[a.size-1]]:Array Keyed).toList.reverse (a.size-1) b.size:=by
  have:=m0.a M (t:=a.size-1) (by lia) (fun x hx y hy=>by
   rw[F1 ha gJ]at hx;have:x=a[a.size-1]:=by simpa using hx
   rw[this];exact M.lst y (List.mem_of_mem_take hy) _ (by simpa using gJ))
  rw[F1 ha gJ]at this;simpa using this
 by_cases e:(a.size-1==0)=true
 ·rw[Zk e];refine wpS_pure (q _ _ (.refl _) ?_);rw[yL];exact m1.dn M (.inl (beq_iff_eq.mp e))
 rw[Zh e];have e:a.size-1≠0:=fun z=>e (beq_iff_eq.mpr z)
 by_cases e2:(b.size==1)=true
 ·rw[Zk e2];refine wpS_pure (q _ _ (.refl _) ?_);rw[BE];exact m1.fb M (beq_iff_eq.mp e2)
 rw[Zh e2];have e2:b.size≠1:=fun z=>e2 (beq_iff_eq.mpr z)
 refine wpS_bind (wpS_get ?_);refine wpS_bind (wpS_mono (wpS_forRange (I:=fun x c dQ=>Eg st dQ∧c.1=none∧BG lt a b c.2.2.2.1 c.2.1 c.2.2.1 x) (Q:=fun c dQ=>Eg st dQ∧∃x,c.1=some x∧MG lt a.toList b.toList x.toList) ?_ ?_ ⟨.refl _,rfl,m1,by show 0<a.size-1;lia,by show 1<b.size;lia,by show 0+(a.size-1)+b.size≤_;lia⟩) ?_)
 ·rintro x c dQ _ hx ⟨eg,hc,hI⟩;refine wpS_mono (KR C M (eg.1.trans hk) hI) fun r DJ hr=>?_
  obtain⟨EO,hr⟩:=hr;cases r with
  |done c=>exact⟨eg.trans EO,hr⟩
  |yield c=>exact⟨eg.trans EO,hr⟩
 ·rintro c dQ ⟨eg,hc,h1,h2,h3,h4⟩
  lia
 ·rintro c dQ ⟨eg,x,e,hg⟩;rw[e];exact wpS_pure (q x dQ eg hg)
end
def PL(lo i n:Nat):StateT SortSt Sem AscSt:=forIn [i:n] ((none,i):AscSt) fun _ c=>do
 let z←ltAt' (lo+c.2) (lo+c.2-1)
 match z with
 |some v=>if v=true then pure (.done (none,c.2))else pure (.yield (none,c.2+1))
 | _=>pure (.done (some none,c.2))
def PM(lo i n:Nat):StateT SortSt Sem (Option Nat):=do
 reverseSlice' lo (lo+i)
 let t←PL lo i n
 match t.1 with
 |some r=>pure r
 |none=>pure (some t.2)
def RW(lo i n:Nat):StateT SortSt Sem DescSt:=forIn [i:n] ((none,i,0):DescSt) fun _ c=>do
 let z←ltAt' (lo+c.2.1) (lo+c.2.1-1)
 match z with
 |some v=>
  if v=true then
   if c.2.2>0 then do
    reverseSlice' (lo+c.2.1-(c.2.2+1)) (lo+c.2.1)
    pure (.yield (none,c.2.1+1,0))
   else pure (.yield (none,c.2.1+1,0))
  else do
   let z←ltAt' (lo+c.2.1-1) (lo+c.2.1)
   match z with
   |some v=>if v=true then pure (.done (none,c.2.1,c.2.2))else pure (.yield (none,c.2.1+1,c.2.2+1))
   | _=>pure (.done (some none,c.2.1,c.2.2))
 | _=>pure (.done (some none,c.2.1,c.2.2))
def RX(lo i n:Nat):StateT SortSt Sem (Option Nat):=do
 liftM (rule "list.sort.descending-run")
 let t←RW lo (i+1) n
 match t.1 with
 |some r=>pure r
 |none=>
  if t.2.2>0 then do
   reverseSlice' (lo+t.2.1-(t.2.2+1)) (lo+t.2.1)
   PM lo t.2.1 n
  else PM lo t.2.1 n
theorem KU(lo n:Nat):countRun' lo n=(do
 let t←PL lo 1 n
 match t.1 with
 |some r=>pure r
 |none=>
  if (t.2==n)=true then pure (some t.2)
  else if t.2>1 then do
   let z←ltAt' lo (lo+t.2-1)
   match z with
   |some v=>if v=true then pure (some t.2)else do
     reverseSlice' lo (lo+t.2)
     RX lo t.2 n
   | _=>pure none
  else RX lo t.2 n):=by kernel_rfl
def Um(lo k:Nat):StateT SortSt Sem (Option Bool×Nat×Nat):=forIn [0:k] ((none,0,k):Option Bool×Nat×Nat) fun _ c=>
 if c.2.1≥c.2.2 then pure (.done (none,c.2.1,c.2.2))
 else do
  let z←ltAt' (lo+k) (lo+(c.2.1+c.2.2)/2)
  match z with
  |some v=>if v=true then pure (.yield (none,c.2.1,(c.2.1+c.2.2)/2))else pure (.yield (none,(c.2.1+c.2.2)/2+1,c.2.2))
  | _=>pure (.done (some false,c.2.1,c.2.2))
theorem KW(lo n ok:Nat):binarySort' lo n ok=(do
 let t←forIn [max ok 1:n] ((none,()):Option Bool×Unit) fun k _=>do
  let t←Um lo k
  match t.1 with
  |some r=>pure (.done (some r,()))
  |none=>do
   moveDown' (lo+k) (lo+t.2.1)
   pure (.yield (none,()))
 match t.1 with
 |some r=>pure r
 |none=>pure true):=by kernel_rfl
def Dt(j:Nat)(m:Array Keyed)(st:SortSt):SortSt:=setArr st (m.toList.zipIdx.foldl (fun c q=>c.setIfInBounds (j+q.2) q.1) (arrOf st))
theorem KY(i:Nat):mergeAt' i=(do
 let g←get
 let (some (p,m,v),some (q,n,_)):=((pendingOf g)[i]?,(pendingOf g)[i+1]?)|unsupported "internal:list.sort.pending"
 set (setPending g (((pendingOf g).setIfInBounds i (p,m+n,v)).eraseIdxIfInBounds (i+1)))
 let some k←yH false (←elem' (arrOf g) q) (arrOf g) p m 0|return false
 if m-k==0 then return true
 let some n←yH true (←elem' (arrOf g) (p+k+(m-k)-1)) (arrOf g) q n (n-1)|return false
 if n==0 then return true
 let r←if m-k≤n then Kz ((arrOf g).extract (p+k) q) ((arrOf g).extract q (q+n))else KA ((arrOf g).extract (p+k) q) ((arrOf g).extract q (q+n))
 modify fun st=>Dt (p+k) r st
 return (failedOf (←get)).isNone):=by kernel_rfl
def RY(n w:Nat):StateT SortSt Sem (Option Unit×Unit):=forIn [0:n] ((none,()):Option Unit×Unit) fun _ _=>do
 let g←get
 match (if (pendingOf g).size>1 then(pendingOf g)[(pendingOf g).size-2]? else none)with
 |some (_,_,v)=>
  if v≤w then pure (.done (none,()))
  else do
   let z←mergeAt' ((pendingOf g).size-2)
   if (!z)=true then pure (.done (some (),()))else pure (.yield (none,()))
 | _=>pure (.done (none,()))
def Uo(w:Nat)(st:SortSt):SortSt:=setPending st ((pendingOf st).modify ((pendingOf st).size-1) fun(p,l,_)=>(p,l,w))
def PN(lo n:Nat)(st:SortSt):SortSt:=setPending st ((pendingOf st).push (lo,n,0))
def PQ(N lo n:Nat):StateT SortSt Sem (ForInStep (Option Unit×Nat)):=do
 let g←get
 match (pendingOf g).back? with
 |some (p,l,_)=>do
  let t←RY N (power' N (2*p+l) (2*p+l+l+n) N)
  match t.1 with
  |some r=>pure (.done (some r,lo))
  |none=>do
   modify (Uo (power' N (2*p+l) (2*p+l+l+n) N))
   modify (PN lo n)
   pure (.yield (none,lo+n))
 | _=>do
  modify (PN lo n)
  pure (.yield (none,lo+n))
def RZ(N:Nat):StateT SortSt Sem (Option Unit×Unit):=forIn [0:N] ((none,()):Option Unit×Unit) fun _ _=>do
 let g←get
 if (pendingOf g).size≤1 then pure (.done (none,()))
 else do
  let z←mergeAt' (if (if (pendingOf g).size-2>0 then((pendingOf g)[(pendingOf g).size-2-1]?).map (·.2.1)else none).any (·<((pendingOf g)[(pendingOf g).size-2+1]?.elim 0 (·.2.1)))then(pendingOf g).size-2-1 else(pendingOf g).size-2)
  if (!z)=true then pure (.done (some (),()))else pure (.yield (none,()))
theorem He:sortRuns'=(do
 let g←get
 let t←forIn [0:(arrOf g).size] ((none,0):Option Unit×Nat) fun _ c=>
  if c.2≥(arrOf g).size then pure (.done (none,c.2))
  else do
   let z←countRun' c.2 ((arrOf g).size-c.2)
   match z with
   |some n=>
    if n<minRun' (arrOf g).size (arrOf g).size 0 then do
     liftM (rule "list.sort.binary-insertion")
     let z←binarySort' c.2 (min ((arrOf g).size-c.2) (minRun' (arrOf g).size (arrOf g).size 0)) n
     if (!z)=true then pure (.done (some (),c.2))else PQ (arrOf g).size c.2 (min ((arrOf g).size-c.2) (minRun' (arrOf g).size (arrOf g).size 0))
    else PQ (arrOf g).size c.2 n
   | _=>pure (.done (some (),c.2))
 match t.1 with
 |some r=>pure r
 |none=>do
  let u←RZ (arrOf g).size
  match u.1 with
  |some r=>pure r
  |none=>pure ()):=by kernel_rfl
abbrev gg(xs:Array Keyed)(k:Nat):Keyed:=xs.getD k (.none, .none)
theorem oO(xs:Array Keyed)(k:Nat):gg xs k=(xs[k]?).getD (.none, .none):=by unfold gg;rw[Array.getD_eq_getD_getElem?]
theorem kT{xs:Array Keyed}{k:Nat}(h:k<xs.size):xs[k]?=some (gg xs k):=by simp[h]
def Sw(lt:Keyed→Keyed→Bool)(xs:Array Keyed)(a b:Nat):Prop:=∀i j,a≤i→i<j→j<b→lt (gg xs i) (gg xs j)=true
def Dw(lt:Keyed→Keyed→Bool)(xs:Array Keyed)(a b:Nat):Prop:=∀i j,a≤i→i<j→j<b→lt (gg xs j) (gg xs i)=true
theorem Sw.congr{lt:Keyed→Keyed→Bool}{xs ys:Array Keyed}{a b:Nat}(h:Sw lt xs a b)(e:∀t,a≤t→t<b→gg ys t=gg xs t):Sw lt ys a b:=fun i j h1 h2 h3=>by rw[e i h1 Zu,e j Zu h3];exact h i j h1 h2 h3
structure SB(X:List Keyed)(κ:SortKind)(st:SortSt):Prop where
 pm:(arrOf st).toList.Perm X
 kd:kindOf st=κ
 fl:failedOf st=none
theorem Hf{σ:Type}{M:Model}{A:Around}{E:Value→Shared→Prop}{s:Shared}{x:σ}{Q:PUnit→σ→Prop}{st:σ}(h:Q ⟨⟩ x):wpS M A E s (set x:StateT σ Sem PUnit) Q st:=by
 unfold wpS;rw[StateT.run_set];exact wpAny_pure ⟨rfl,h⟩
section
variable{prog:Program}{w:World}{A:Around}{E:Value→Shared→Prop}{s:Shared}{X:List Keyed}{κ:SortKind}{lt:Keyed→Keyed→Bool}
theorem SB.size{st:SortSt}(b:SB X κ st):(arrOf st).size=X.length:=by have:=b.pm.length_eq;simpa using this
theorem SB.mem{st:SortSt}(b:SB X κ st){k:Nat}(h:k<X.length):gg (arrOf st) k∈X:=by
 have:=kT (xs:=arrOf st) (k:=k) (by rw[b.size];exact h);rw[←Array.getElem?_toList]at this;exact b.pm.mem_iff.mp (Ze this)
theorem SB.inj{st:SortSt}(C:EK prog w A s X κ lt)(b:SB X κ st){i j:Nat}(hi:i<X.length)(hj:j<X.length)(h:i≠j):gg (arrOf st) i≠gg (arrOf st) j:=fun e=>by
 have h1:=kT (xs:=arrOf st) (k:=i) (by rw[b.size];exact hi);have h2:=kT (xs:=arrOf st) (k:=j) (by rw[b.size];exact hj);rw[←Array.getElem?_toList]at h1 h2;have nd:(arrOf st).toList.Nodup:=b.pm.nodup_iff.mpr C.nd;exact h ((List.getElem?_inj (Y7 h1).1 nd).mp (by rw[h1,h2,e]))
theorem SB.set{st:SortSt}{xs:Array Keyed}(b:SB X κ st)(h:xs.Perm (arrOf st)):SB X κ (setArr st xs):=⟨(Array.perm_iff_toList_perm.mp h).trans b.pm,b.kd,b.fl⟩
variable(C:EK prog w A s X κ lt)
include C
theorem yM{st:SortSt}{i j:Nat}{Q:Option Bool→SortSt→Prop}(b:SB X κ st)(hi:i<X.length)(hj:j<X.length)(h:Q (some (lt (gg (arrOf st) i) (gg (arrOf st) j))) st):wpS (model prog w) A E s (ltAt' i j) Q st:=by
 rw[ltAt'_eq];refine wpS_bind (wpS_get ?_);show wpS _ _ _ _ (do let x←elem' (arrOf st) i;let y←elem' (arrOf st) j;lt' x y) Q st;exact wpS_bind (e8 (kT (by rw[b.size];exact hi)) (wpS_bind (e8 (kT (by rw[b.size];exact hj)) (C.ask b.kd (b.mem hi) (b.mem hj) h))))
theorem SB.no{st:SortSt}(b:SB X κ st){i j:Nat}(hi:i<X.length)(hj:j<X.length)(h:i≠j)(e:lt (gg (arrOf st) i) (gg (arrOf st) j)=false):lt (gg (arrOf st) j) (gg (arrOf st) i)=true:=C.no (b.mem hi) (b.mem hj) (b.inj C hi hj h) e
theorem Sw.next{st:SortSt}(b:SB X κ st){lo n:Nat}(h1:1≤n)(hn:lo+n<X.length)(h:Sw lt (arrOf st) lo (lo+n))(e:lt (gg (arrOf st) (lo+n)) (gg (arrOf st) (lo+n-1))=false):Sw lt (arrOf st) lo (lo+(n+1)):=fun i j hi ur hj=>by
 have hl:=b.no C (i:=lo+n) (j:=lo+n-1) hn Zu (by lia) e;by_cases ej:j=lo+n
 ·subst ej;by_cases ei:i=lo+n-1
  ·subst ei;exact hl
  ·exact C.tr _ (b.mem Zu) _ (b.mem Zu) _ (b.mem hn) (h i (lo+n-1) hi Zu (by lia)) hl
 ·exact h i j hi ur Zu
theorem EU{st:SortSt}{lo i n:Nat}{Q:AscSt→SortSt→Prop}(b:SB X κ st)(hn:lo+n≤X.length)(h1:1≤i)(n6:i≤n)(hs:Sw lt (arrOf st) lo (lo+i))(q:∀m,i≤m→m≤n→Sw lt (arrOf st) lo (lo+m)→(m=n∨lt (gg (arrOf st) (lo+m)) (gg (arrOf st) (lo+m-1))=true)→Q (none,m) st):wpS (model prog w) A E s (PL lo i n) Q st:=by
 unfold PL;refine wpS_forRange (I:=fun x c aU=>aU=st∧c=(none,x)∧Sw lt (arrOf st) lo (lo+x)) ?_ ?_ ⟨rfl,rfl,hs⟩
 ·rintro x c aU k8 hx ⟨rfl,rfl,mQ⟩;refine wpS_bind (yM C b (by show lo+x<_;lia) (by show lo+x-1<_;lia) ?_);dsimp only;cases e:lt (gg (arrOf aU) (lo+x)) (gg (arrOf aU) (lo+x-1))with
  |true=>
   rw[if_pos rfl];exact wpS_pure (q x k8 Zu mQ (.inr e))
  |false=>
   rw[if_neg Zr];exact wpS_pure ⟨rfl,rfl,Sw.next C b (by lia) (by lia) mQ e⟩
 ·rintro c aU ⟨rfl,rfl,mQ⟩;rw[show max i n=n by lia]at mQ⊢;exact q n n6 (Nat.le_refl _) mQ (.inl rfl)
omit C in
theorem Ak{xs:Array Keyed}{i j:Nat}(hj:j≤xs.size)(k:Nat):gg (mirror xs i j ((j-i)/2)) k=if i≤k∧k<j then gg xs (i+j-1-k)else gg xs k:=by
 rw[oO,getElem?_mirror_all hj];split<;>rw[oO]
theorem KZ{st:SortSt}{lo i n:Nat}{Q:Option Nat→SortSt→Prop}(b:SB X κ st)(hn:lo+n≤X.length)(h1:1≤i)(n6:i≤n)(hs:Dw lt (arrOf st) lo (lo+i))(q:∀m aU,SB X κ aU→pendingOf aU=pendingOf st→(∀t,t<lo→gg (arrOf aU) t=gg (arrOf st) t)→1≤m→m≤n→Sw lt (arrOf aU) lo (lo+m)→Q (some m) aU):wpS (model prog w) A E s (PM lo i n) Q st:=by
 unfold PM;refine wpS_bind ?_;rw[reverseSlice'_eq];refine wpS_modify ?_;have hsz:lo+i≤(arrOf st).size:=by rw[b.size];lia
 have b':SB X κ (setArr st (mirror (arrOf st) lo (lo+i) ((lo+i-lo)/2))):=b.set (mirror_perm _ _ _ _);refine wpS_bind (EU C b' hn h1 n6 (fun x y hx Aj hy=>?_) fun m a1 a2 a3 _=>wpS_pure (q m _ b' rfl (fun t ht=>?_) (by lia) a2 a3))
 ·show lt (gg (mirror (arrOf st) lo (lo+i) ((lo+i-lo)/2)) x) (gg (mirror (arrOf st) lo (lo+i) ((lo+i-lo)/2)) y)=true;rw[Ak hsz,Ak hsz,Zk Zu,Zk Zu];exact hs _ _ (by lia) (by lia) (by lia)
 ·show gg (mirror (arrOf st) lo (lo+i) ((lo+i-lo)/2)) t=_;rw[Ak hsz,Zh Zu]
theorem K0{st:SortSt}{lo i n:Nat}{Q:DescSt→SortSt→Prop}(b:SB X κ st)(hn:lo+n≤X.length)(h1:1≤i)(n6:i≤n)(hs:Dw lt (arrOf st) lo (lo+i))(q:∀m,i≤m→m≤n→Dw lt (arrOf st) lo (lo+m)→Q (none,m,0) st):wpS (model prog w) A E s (RW lo i n) Q st:=by
 unfold RW;refine wpS_forRange (I:=fun x c aU=>aU=st∧c=(none,x,0)∧Dw lt (arrOf st) lo (lo+x)) ?_ ?_ ⟨rfl,rfl,hs⟩
 ·rintro x c aU k8 hx ⟨rfl,rfl,mQ⟩;refine wpS_bind (yM C b (by show lo+x<_;lia) (by show lo+x-1<_;lia) ?_);dsimp only;cases e:lt (gg (arrOf aU) (lo+x)) (gg (arrOf aU) (lo+x-1))with
  |true=>
   rw[if_pos rfl,Zh Zu];refine wpS_pure ⟨rfl,rfl,fun y z hy Ww hz=>?_⟩;by_cases ez:z=lo+x
   ·subst ez;by_cases ey:y=lo+x-1
    ·subst ey;exact e
    ·exact C.tr _ (b.mem Zu) _ (b.mem Zu) _ (b.mem Zu) e (mQ y (lo+x-1) hy Zu (by lia))
   ·exact mQ y z hy Ww Zu
  |false=>
   rw[if_neg Zr];have e':=b.no C (i:=lo+x) (j:=lo+x-1) (by lia) (by lia) (by lia) e;refine wpS_bind (yM C b (by lia) (by lia) ?_);rw[e'];dsimp only;rw[if_pos rfl];exact wpS_pure (q x k8 Zu mQ)
 ·rintro c aU ⟨rfl,rfl,mQ⟩;rw[show max i n=n by lia]at mQ⊢;exact q n n6 (Nat.le_refl _) mQ
theorem N6{st:SortSt}{lo n:Nat}{Q:Option Nat→SortSt→Prop}(b:SB X κ st)(hn:lo+n≤X.length)(h1:1≤n)(q:∀m aU,SB X κ aU→pendingOf aU=pendingOf st→(∀t,t<lo→gg (arrOf aU) t=gg (arrOf st) t)→1≤m→m≤n→Sw lt (arrOf aU) lo (lo+m)→Q (some m) aU):wpS (model prog w) A E s (countRun' lo n) Q st:=by
 rw[KU];refine wpS_bind (EU C b hn (Nat.le_refl _) h1 (fun i j a b c=>by lia) fun m a1 a2 a3 a4=>?_);dsimp only;by_cases e:(m==n)=true
 ·rw[Zk e];exact wpS_pure (q m st b rfl (fun _ _=>rfl) a1 a2 a3)
 ·rw[Zh e];have e:m≠n:=fun z=>e (beq_iff_eq.mpr z)
  by_cases e2:m>1
  ·rw[Zk e2];refine wpS_bind (yM C b (by lia) (by lia) ?_);rw[a3 lo (lo+m-1) (Nat.le_refl _) (by lia) (by lia)];dsimp only;rw[if_pos rfl];exact wpS_pure (q m st b rfl (fun _ _=>rfl) a1 a2 a3)
  ·rw[Zh e2];have:m=1:=by lia
   subst this;unfold RX;refine wpS_bind (wpS_lift (wpAny_rule ⟨rfl,?_⟩));refine wpS_bind (K0 C b hn Zu (by lia) (fun i j hi ur hj=>?_) fun m c1 c2 c3=>?_)
   ·have hi:i=lo:=by lia
    have hj:j=lo+1:=by lia
    subst hi hj;exact a4.resolve_left e
   ·dsimp only;rw[Zh Zu];exact KZ C b hn Zu c2 c3 q
omit C in
theorem K1{xs:Array Keyed}{src d:Nat}(hs:src<xs.size)(hd:d≤src)(k:Nat):gg (bubble xs src d) k=if k=src-d then gg xs src else if src-d<k∧k≤src then gg xs (k-1)else gg xs k:=by
 rw[oO,getElem?_bubble hs d hd];by_cases h1:k=src-d
 ·rw[Zk h1,Zk h1,oO]
 ·rw[Zh h1,Zh h1];by_cases h2:src-d<k∧k≤src
  ·rw[Zk h2,Zk h2,oO]
  ·rw[Zh h2,Zh h2,oO]
theorem N7{st:SortSt}{lo n ok:Nat}{Q:Bool→SortSt→Prop}(b:SB X κ st)(hn:lo+n≤X.length)(h1:1≤ok)(bX:ok≤n)(hs:Sw lt (arrOf st) lo (lo+ok))(q:∀aU,SB X κ aU→pendingOf aU=pendingOf st→(∀t,t<lo→gg (arrOf aU) t=gg (arrOf st) t)→Sw lt (arrOf aU) lo (lo+n)→Q true aU):wpS (model prog w) A E s (binarySort' lo n ok) Q st:=by
 rw[KW];refine wpS_bind (wpS_mono (wpS_forRange (I:=fun k c aU=>c=(none,())∧SB X κ aU∧pendingOf aU=pendingOf st∧(∀t,t<lo→gg (arrOf aU) t=gg (arrOf st) t)∧Sw lt (arrOf aU) lo (lo+k)) (Q:=fun c aU=>c=(none,())∧SB X κ aU∧pendingOf aU=pendingOf st∧(∀t,t<lo→gg (arrOf aU) t=gg (arrOf st) t)∧Sw lt (arrOf aU) lo (lo+n)) ?_ ?_ ⟨rfl,b,rfl,fun _ _=>rfl,by rw[show max ok 1=ok by lia];exact hs⟩) ?_)
 ·rintro k c aU IP hk ⟨rfl,b',hp,hf,mQ⟩;unfold Um;refine wpS_bind (wpS_mono (wpS_forRange (I:=fun x c dQ=>dQ=aU∧∃l r,c=(none,l,r)∧l≤r∧r≤k∧(∀i,i<l→lt (gg (arrOf aU) (lo+i)) (gg (arrOf aU) (lo+k))=true)∧(∀i,r≤i→i<k→lt (gg (arrOf aU) (lo+k)) (gg (arrOf aU) (lo+i))=true)∧r-l+x≤k) (Q:=fun c dQ=>dQ=aU∧∃l r,c=(none,l,r)∧l≤k∧(∀i,i<l→lt (gg (arrOf aU) (lo+i)) (gg (arrOf aU) (lo+k))=true)∧(∀i,l≤i→i<k→lt (gg (arrOf aU) (lo+k)) (gg (arrOf aU) (lo+i))=true)) ?_ ?_ ⟨rfl,0,k,rfl,by lia,by lia,fun i hi=>by lia,fun i h1 h2=>by lia,by lia⟩) ?_)
  ·rintro x c dQ _ hx ⟨rfl,l,r,rfl,a1,a2,a3,a4,a5⟩;dsimp only;by_cases Up:l≥r
   ·rw[Zk Up];exact wpS_pure ⟨rfl,l,r,rfl,by lia,a3,fun i h1 h2=>a4 i Zu h2⟩
   ·rw[Zh Up];refine wpS_bind (yM C b' Zu (by lia) ?_);dsimp only;cases e:lt (gg (arrOf dQ) (lo+k)) (gg (arrOf dQ) (lo+(l+r)/2))with
    |true=>
     rw[if_pos rfl];refine wpS_pure ⟨rfl,l,(l+r)/2,rfl,by lia,by lia,a3,fun i h1 h2=>?_,by lia⟩;by_cases ei:i=(l+r)/2
     ·subst ei;exact e
     ·exact C.tr _ (b'.mem Zu) _ (b'.mem Zu) _ (b'.mem Zu) e (mQ (lo+(l+r)/2) (lo+i) (by lia) (by lia) (by lia))
    |false=>
     rw[if_neg Zr];have e':=b'.no C (i:=lo+k) (j:=lo+(l+r)/2) (by lia) (by lia) (by lia) e;refine wpS_pure ⟨rfl,(l+r)/2+1,r,rfl,by lia,a2,fun i h1=>?_,a4,by lia⟩;by_cases ei:i=(l+r)/2
     ·subst ei;exact e'
     ·exact C.tr _ (b'.mem Zu) _ (b'.mem Zu) _ (b'.mem Zu) (mQ (lo+i) (lo+(l+r)/2) (by lia) (by lia) (by lia)) e'
  ·rintro c dQ ⟨rfl,l,r,rfl,a1,a2,a3,a4,a5⟩;exact⟨rfl,l,r,rfl,by lia,a3,fun i h1 h2=>a4 i Zu h2⟩
  rintro c dQ ⟨rfl,l,r,rfl,a1,a2,a3⟩;dsimp only;refine wpS_bind ?_;rw[moveDown'_eq];refine wpS_modify (wpS_pure ?_);have hsz:lo+k<(arrOf dQ).size:=by rw[b'.size];lia
  have gb:=fun t=>K1 (xs:=arrOf dQ) hsz (d:=lo+k-(lo+l)) (by lia) t
  have es:lo+k-(lo+k-(lo+l))=lo+l:=by lia
  rw[es]at gb;refine⟨rfl,b'.set (bubble_perm _ _ _),hp,fun t ht=>?_,fun i j hi ur hj=>?_⟩
  ·show gg (bubble (arrOf dQ) (lo+k) (lo+k-(lo+l))) t=_;rw[gb,Zh Zu,Zh Zu];exact hf t ht
  ·show lt (gg (bubble (arrOf dQ) (lo+k) (lo+k-(lo+l))) i) (gg (bubble (arrOf dQ) (lo+k) (lo+k-(lo+l))) j)=true;rw[gb,gb];have Wx:∀t,lo≤t→t<lo+l→lt (gg (arrOf dQ) t) (gg (arrOf dQ) (lo+k))=true:=fun t h1 h2=>by have:=a2 (t-lo) (by lia);rw[show lo+(t-lo)=t by lia]at this;exact this
   have Wz:∀t,lo+l≤t→t<lo+k→lt (gg (arrOf dQ) (lo+k)) (gg (arrOf dQ) t)=true:=fun t h1 h2=>by have:=a3 (t-lo) (by lia) (by lia);rw[show lo+(t-lo)=t by lia]at this;exact this
   by_cases e1:i=lo+l
   ·rw[Zk e1,Zh Zu,Zk Zu];exact Wz _ (by lia) (by lia)
   ·rw[Zh e1];by_cases e2:lo+l<i∧i≤lo+k
    ·rw[Zk e2,Zh Zu,Zk Zu];exact mQ _ _ (by lia) (by lia) (by lia)
    ·rw[Zh e2];by_cases e3:j=lo+l
     ·rw[Zk e3];exact Wx _ (by lia) (by lia)
     ·rw[Zh e3];by_cases e4:lo+l<j∧j≤lo+k
      ·rw[Zk e4];exact mQ _ _ (by lia) (by lia) (by lia)
      ·rw[Zh e4];exact mQ _ _ (by lia) (by lia) (by lia)
 ·rintro c aU ⟨rfl,b',hp,hf,mQ⟩;rw[show max (max ok 1) n=n by lia]at mQ;exact⟨rfl,b',hp,hf,mQ⟩
 ·rintro c aU ⟨rfl,b',hp,hf,mQ⟩;exact wpS_pure (q aU b' hp hf mQ)
end
theorem K2(ys:List Keyed)(j:Nat):∀(k:Nat)(xs:Array Keyed),j+k+ys.length≤xs.size→∀t:Nat,((ys.zipIdx k).foldl (fun c q=>c.setIfInBounds (j+q.2) q.1) xs)[t]?=if j+k≤t∧t<j+k+ys.length then ys[t-(j+k)]? else xs[t]?:=by
 induction ys with
 |nil=>
  intro k xs h t;rw[Zh (fun z=>by have z1:=z.1;have z2:=z.2;simp only[List.length_nil]at z2;lia)];rfl
 |cons y ys ih=>
  intro k xs h t;rw[List.zipIdx_cons,List.foldl_cons,ih (k+1) _ (by simp at h⊢;lia) t];simp only[List.length_cons]at h⊢;by_cases h1:j+(k+1)≤t∧t<j+(k+1)+ys.length
  ·rw[Zk h1,Zk Zu,show t-(j+k)=(t-(j+(k+1)))+1 by lia];rfl
  ·rw[Zh h1,Array.getElem?_setIfInBounds];by_cases h2:j+k=t
   ·subst h2;rw[if_pos rfl,Zk Zu,Zk Zu];simp
   ·rw[Zh h2,Zh Zu]
theorem EV(ys:List Keyed)(j:Nat)(xs:Array Keyed)(h:j+ys.length≤xs.size):(ys.zipIdx.foldl (fun c q=>c.setIfInBounds (j+q.2) q.1) xs).toList=xs.toList.take j++ys++xs.toList.drop (j+ys.length):=by
 apply List.ext_getElem?;intro t;rw[Array.getElem?_toList,K2 ys j 0 xs Zu t,Nat.add_zero];by_cases h1:t<j
 ·rw[Zh Zu,List.append_assoc,List.getElem?_append_left (by simp;lia),List.getElem?_take,Zk h1,Array.getElem?_toList]
 ·by_cases h2:t<j+ys.length
  ·rw[Zk Zu,List.append_assoc,List.getElem?_append_right (by simp;lia),List.getElem?_append_left (by simp;lia)]
   congr 1
   simp
   lia
  ·rw[Zh Zu,List.getElem?_append_right (by simp;lia),List.getElem?_drop,Array.getElem?_toList]
   congr 1
   simp
   lia
section
variable{prog:Program}{w:World}{A:Around}{E:Value→Shared→Prop}{s:Shared}{X:List Keyed}{κ:SortKind}{lt:Keyed→Keyed→Bool}
theorem Sw.pw{xs:Array Keyed}{p m:Nat}(h:Sw lt xs p (p+m)):Pw lt ((xs.toList.drop p).take m):=by
 refine List.pairwise_iff_getElem.mpr ?_;intro i j hi hj ur;have Du:j<m∧p+j<xs.size:=by simp at hj;lia
 have e1:((xs.toList.drop p).take m)[i]=gg xs (p+i):=by
  have:((xs.toList.drop p).take m)[i]?=some (gg xs (p+i)):=by rw[List.getElem?_take,Zk Zu,List.getElem?_drop,Array.getElem?_toList];exact kT Zu
  exact(Y7 this).2
 have e2:((xs.toList.drop p).take m)[j]=gg xs (p+j):=by
  have:((xs.toList.drop p).take m)[j]?=some (gg xs (p+j)):=by rw[List.getElem?_take,Zk Zu,List.getElem?_drop,Array.getElem?_toList];exact kT Zu
  exact(Y7 this).2
 rw[e1,e2];exact h _ _ (by lia) (by lia) (by lia)
theorem EW{xs:Array Keyed}{p m t:Nat}(h:t<m)(hs:p+m≤xs.size):((xs.toList.drop p).take m)[t]?=some (gg xs (p+t)):=by
 rw[List.getElem?_take,Zk h,List.getElem?_drop,Array.getElem?_toList];exact kT Zu
variable(C:EK prog w A s X κ lt)
include C
theorem N8{st:SortSt}{i p m v n u:Nat}{Q:Bool→SortSt→Prop}(b:SB X κ st)(e1:(pendingOf st)[i]?=some (p,m,v))(e2:(pendingOf st)[i+1]?=some (p+m,n,u))(hm:1≤m)(hn:1≤n)(hX:p+m+n≤X.length)(s1:Sw lt (arrOf st) p (p+m))(s2:Sw lt (arrOf st) (p+m) (p+m+n))
  (q:∀aU,SB X κ aU→pendingOf aU=((pendingOf st).setIfInBounds i (p,m+n,v)).eraseIdxIfInBounds (i+1)→(∀t,t<p∨p+m+n≤t→gg (arrOf aU) t=gg (arrOf st) t)→Sw lt (arrOf aU) p (p+m+n)→Q true aU):wpS (model prog w) A E s (mergeAt' i) Q st:=by
 rw[KY];refine wpS_bind (wpS_get ?_);rw[e1,e2];dsimp only;refine wpS_bind (Hf ?_);have hsz:=b.size;refine wpS_bind (e8 (kT (xs:=arrOf st) (k:=p+m) (by lia)) ?_);have mem:∀t,t<X.length→gg (arrOf st) t∈X:=fun t h=>b.mem h
 generalize K3:setPending st (((pendingOf st).setIfInBounds i (p,m+n,v)).eraseIdxIfInBounds (i+1))=Ai;have Al:arrOf Ai=arrOf st:=by rw[←K3]
 have b1:SB X κ Ai:=by rw[←K3];exact⟨b.pm,b.kd,b.fl⟩
 have L6:pendingOf Ai=((pendingOf st).setIfInBounds i (p,m+n,v)).eraseIdxIfInBounds (i+1):=by rw[←K3]
 refine wpS_bind (qu C (fun t=>gg (arrOf st) (p+t)) b1.kd (mem _ (by lia)) (fun t ht=>⟨kT Zu,mem _ (by lia)⟩) (fun x y h1 h2=>s1 _ _ (by lia) (by lia) (by lia)) (by lia) fun k hk g1 g2=>?_);dsimp only;have N9:∀t,t<k→lt (gg (arrOf st) (p+t)) (gg (arrOf st) (p+m))=true:=fun t ht=>by
  have:=g1 t ht;simp only[kZ,Bool.false_eq_true,if_false,Bool.not_eq_true']at this;exact b.no C (by lia) (by lia) (by lia) this
 have Uq:∀t,k≤t→t<m→lt (gg (arrOf st) (p+m)) (gg (arrOf st) (p+t))=true:=fun t h1 h2=>by
  have:=g2 t h1 h2;simp only[kZ,Bool.false_eq_true,if_false,Bool.not_eq_false']at this;exact this
 have tr:=fun{x y z:Nat}(hx:x<X.length)(hy:y<X.length)(hz:z<X.length)=>C.tr _ (mem x hx) _ (mem y hy) _ (mem z hz)
 by_cases ek:(m-k==0)=true
 ·rw[Zk ek];have:k=m:=by have:=beq_iff_eq.mp ek;lia
  subst this;refine wpS_pure (q Ai b1 L6 (fun _ _=>by rw[Al]) ?_);rw[Al];intro x y hx Aj hy;by_cases h1:y<p+k
  ·exact s1 x y hx Aj h1
  ·by_cases h2:p+k≤x
   ·exact s2 x y h2 Aj hy
   ·have h3:=N9 (x-p) (by lia);rw[show p+(x-p)=x by lia]at h3;by_cases h4:y=p+k
    ·rw[h4];exact h3
    ·exact tr Zu (by lia) (by lia) h3 (s2 (p+k) y Zu (by lia) hy)
 rw[Zh ek];have ek:k<m:=by
  have:m-k≠0:=fun z=>ek (beq_iff_eq.mpr z)
  lia
 refine wpS_bind (e8 (kT (xs:=arrOf st) (k:=p+k+(m-k)-1) (by lia)) ?_);rw[show p+k+(m-k)-1=p+m-1 by lia];refine wpS_bind (qu C (fun t=>gg (arrOf st) (p+m+t)) b1.kd (mem _ (by lia)) (fun t ht=>⟨kT Zu,mem _ (by lia)⟩) (fun x y h1 h2=>s2 _ _ (by lia) (by lia) (by lia)) (by lia) fun l hl g3 g4=>?_);dsimp only;have R0:∀t,t<l→lt (gg (arrOf st) (p+m+t)) (gg (arrOf st) (p+m-1))=true:=fun t ht=>by
  have:=g3 t ht;simp only[kZ,if_true]at this;exact this
 have Ur:∀t,l≤t→t<n→lt (gg (arrOf st) (p+m-1)) (gg (arrOf st) (p+m+t))=true:=fun t h1 h2=>by
  have:=g4 t h1 h2;simp only[kZ,if_true]at this;exact b.no C (by lia) (by lia) (by lia) this
 have KD:0<l:=by
  rcases Nat.lt_or_ge 0 l with h|h
  ·exact h
  ·have h1:=Ur 0 (by lia) (by lia);have h2:=Uq (m-1) (by lia) (by lia);rw[show p+(m-1)=p+m-1 by lia]at h2;rw[Nat.add_zero]at h1;have:=C.as _ (mem _ (by lia)) _ (mem _ (by lia)) h1;rw[h2]at this;cases this
 rw[Zh (by simp;lia)];have ex:((arrOf st).extract (p+k) (p+m)).toList=((arrOf st).toList.drop (p+k)).take (m-k):=by
  simp[Array.toList_extract,List.extract_eq_take_drop]
  congr 1
  lia
 have ey:((arrOf st).extract (p+m) (p+m+l)).toList=((arrOf st).toList.drop (p+m)).take l:=by
  simp[Array.toList_extract,List.extract_eq_take_drop]
 have Us:∀t,t<m-k→(((arrOf st).toList.drop (p+k)).take (m-k))[t]?=some (gg (arrOf st) (p+k+t)):=fun t ht=>EW ht Zu
 have Ut:∀t,t<l→(((arrOf st).toList.drop (p+m)).take l)[t]?=some (gg (arrOf st) (p+m+t)):=fun t ht=>EW ht Zu
 have lx:(((arrOf st).toList.drop (p+k)).take (m-k)).length=m-k:=by simp;lia
 have ly:(((arrOf st).toList.drop (p+m)).take l).length=l:=by simp;lia
 have PR:∀x∈((arrOf st).toList.drop (p+k)).take (m-k),∃t,t<m-k∧x=gg (arrOf st) (p+k+t):=fun x hx=>by
  obtain⟨t,ht⟩:=List.mem_iff_getElem?.mp hx;have h_:=(Y7 ht).1;rw[lx]at h_;rw[Us t h_]at ht;exact⟨t,h_,(Zp ht).symm⟩
 have PU:∀x∈((arrOf st).toList.drop (p+m)).take l,∃t,t<l∧x=gg (arrOf st) (p+m+t):=fun x hx=>by
  obtain⟨t,ht⟩:=List.mem_iff_getElem?.mp hx;have h_:=(Y7 ht).1;rw[ly]at h_;rw[Ut t h_]at ht;exact⟨t,h_,(Zp ht).symm⟩
 have MM:MC X lt ((arrOf st).extract (p+k) (p+m)).toList ((arrOf st).extract (p+m) (p+m+l)).toList:=by
  rw[ex,ey];refine⟨Sw.pw fun x y h1 h2 h3=>s1 x y Zu h2 Zu,Sw.pw fun x y h1 h2 h3=>s2 x y h1 h2 Zu,fun x hx=>?_,fun x hx=>?_,fun x hx y hy=>?_,fun x hx y hy=>?_,fun y hy x hx=>?_⟩
  ·obtain⟨t,ht,rfl⟩:=PR x hx;exact mem _ (by lia)
  ·obtain⟨t,ht,rfl⟩:=PU x hx;exact mem _ (by lia)
  ·obtain⟨t,ht,rfl⟩:=PR x hx;obtain⟨u,hu,rfl⟩:=PU y hy;exact b.inj C (by lia) (by lia) (by lia)
  ·obtain⟨t,ht,rfl⟩:=PR x hx;rw[Ut 0 KD]at hy;cases hy;have:=Uq (k+t) (by lia) (by lia);rw[←Nat.add_assoc]at this;exact this
  ·obtain⟨t,ht,rfl⟩:=PU y hy;rw[lx,Us _ (by lia)]at hx;cases hx;rw[show p+k+(m-k-1)=p+m-1 by lia];exact R0 t ht
 have fin:∀r dQ,Eg Ai dQ→MG lt ((arrOf st).extract (p+k) (p+m)).toList ((arrOf st).extract (p+m) (p+m+l)).toList r.toList→wpS (model prog w) A E s (do
   modify fun st=>Dt (p+k) r st
   return (failedOf (←get)).isNone) Q dQ:=fun r dQ eg mg=>by
  refine wpS_bind (wpS_modify (wpS_bind (wpS_get (wpS_pure ?_))));have L7:arrOf dQ=arrOf st:=eg.2.1.trans Al;have PV:failedOf dQ=none:=eg.2.2.2.trans b1.fl;rw[ex,ey]at mg;have L_:r.toList.length=m-k+l:=by have:=mg.1.length_eq;rw[List.length_append,lx,ly]at this;exact this
  have el:(arrOf (Dt (p+k) r dQ)).toList=(arrOf st).toList.take (p+k)++r.toList++(arrOf st).toList.drop (p+m+l):=by
   show(r.toList.zipIdx.foldl (fun c q=>c.setIfInBounds (p+k+q.2) q.1) (arrOf dQ)).toList=_;rw[EV _ _ _ (by rw[L7,L_];lia),L7,L_,show p+k+(m-k+l)=p+m+l by lia]
  have WA:(arrOf st).toList=(arrOf st).toList.take (p+k)++(((arrOf st).toList.drop (p+k)).take (m-k)++((arrOf st).toList.drop (p+m)).take l)++(arrOf st).toList.drop (p+m+l):=by
   have h1:=oN (arrOf st).toList (p+k) (m-k);have h2:=oN (arrOf st).toList (p+m) l;rw[show p+k+(m-k)=p+m by lia]at h1
   conv=>lhs;rw[←List.take_append_drop (p+k) (arrOf st).toList,h1,h2]
   simp only[List.append_assoc]
  have R1:∀t,gg (arrOf (Dt (p+k) r dQ)) t=((arrOf (Dt (p+k) r dQ)).toList[t]?).getD (.none, .none):=fun t=>by rw[oO,Array.getElem?_toList]
  have g0:∀t,gg (arrOf st) t=((arrOf st).toList[t]?).getD (.none, .none):=fun t=>by rw[oO,Array.getElem?_toList]
  have K4:∀t,t<p+k→gg (arrOf (Dt (p+k) r dQ)) t=gg (arrOf st) t:=fun t ht=>by
   rw[R1,g0,el,List.append_assoc,List.getElem?_append_left (by simp;lia),List.getElem?_take,Zk ht]
  have EX:∀t,p+m+l≤t→gg (arrOf (Dt (p+k) r dQ)) t=gg (arrOf st) t:=fun t ht=>by
   have h_:((arrOf st).toList.take (p+k)++r.toList).length=p+m+l:=by
    rw[List.length_append,L_,List.length_take,Array.length_toList]
    lia
   rw[R1,g0,el,List.getElem?_append_right Zu,List.getElem?_drop,h_]
   congr 2
   lia
  have R3:∀t,p+k≤t→t<p+m+l→r.toList[t-(p+k)]?=some (gg (arrOf (Dt (p+k) r dQ)) t):=fun t h1 h2=>by
   rw[R1,el,List.append_assoc,List.getElem?_append_right (by simp;lia),List.getElem?_append_left (by rw[List.length_take,Array.length_toList];lia)];rw[show(List.take (p+k) (arrOf st).toList).length=p+k by simp;lia];rw[List.getElem?_eq_getElem Zu];rfl
  have cont:∀t,p+k≤t→t<p+m+l→∃u,p+k≤u∧u<p+m+l∧gg (arrOf (Dt (p+k) r dQ)) t=gg (arrOf st) u:=fun t h1 h2=>by
   have:=mg.1.mem_iff.mp (Ze (R3 t h1 h2));rcases List.mem_append.mp this with z|z
   ·obtain⟨u,hu,e⟩:=PR _ z;exact⟨p+k+u,by lia,by lia,e⟩
   ·obtain⟨u,hu,e⟩:=PU _ z;exact⟨p+m+u,by lia,by lia,e⟩
  have hb:SB X κ (Dt (p+k) r dQ):=by
   refine⟨?_,eg.1.trans b1.kd,PV⟩;rw[el];refine List.Perm.trans ?_ b.pm
   conv=>rhs;rw[WA]
   exact(List.Perm.append_left _ mg.1).append_right _
  have MP:(failedOf (Dt (p+k) r dQ)).isNone=true:=by rw[show failedOf (Dt (p+k) r dQ)=failedOf dQ from rfl,PV];rfl
  rw[MP];refine q _ hb (eg.2.2.1.trans L6) (fun t ht=>?_) fun x y hx Aj hy=>?_
  ·rcases ht with ht|ht
   ·exact K4 t (by lia)
   ·exact EX t (by lia)
  ·
   have A1:∀t u,p≤t→t<p+k→p+k≤u→u<p+m+n→lt (gg (arrOf st) t) (gg (arrOf st) u)=true:=fun t u h1 h2 h3 h4=>by
    by_cases h5:u<p+m
    ·exact s1 t u h1 Zu h5
    ·have h6:=N9 (t-p) (by lia);rw[show p+(t-p)=t by lia]at h6;by_cases h7:u=p+m
     ·rw[h7];exact h6
     ·exact tr Zu (by lia) (by lia) h6 (s2 (p+m) u Zu (by lia) h4)
   have A2:∀t u,p+k≤t→t<p+m+l→p+m+l≤u→u<p+m+n→lt (gg (arrOf st) t) (gg (arrOf st) u)=true:=fun t u h1 h2 h3 h4=>by
    by_cases h5:p+m≤t
    ·exact s2 t u h5 Zu h4
    ·have h6:=Ur (u-(p+m)) (by lia) (by lia);rw[show p+m+(u-(p+m))=u by lia]at h6;by_cases h7:t=p+m-1
     ·rw[h7];exact h6
     ·exact tr Zu (by lia) (by lia) (s1 t (p+m-1) (by lia) (by lia) (by lia)) h6
   by_cases h1:x<p+k
   ·rw[K4 x h1];by_cases h2:y<p+k
    ·rw[K4 y h2];exact s1 x y hx Aj Zu
    ·by_cases h3:y<p+m+l
     ·obtain⟨u,u1,u2,u3⟩:=cont y Zu h3;rw[u3];exact A1 x u hx h1 u1 Zu
     ·rw[EX y Zu];exact A1 x y hx h1 Zu hy
   ·by_cases h3:x<p+m+l
    ·by_cases h4:y<p+m+l
     ·exact mg.2.at (i:=x-(p+k)) (j:=y-(p+k)) (by lia) (R3 x (by lia) h3) (R3 y Zu h4)
     ·rw[EX y Zu];obtain⟨u,u1,u2,u3⟩:=cont x (by lia) h3;rw[u3];exact A2 u y u1 u2 Zu hy
    ·rw[EX x (by lia),EX y Zu];exact s2 x y Zu Aj hy
 have sx:0<((arrOf st).extract (p+k) (p+m)).size:=by simp;lia
 have sy:0<((arrOf st).extract (p+m) (p+m+l)).size:=by simp;lia
 by_cases Uu:m-k≤l
 ·rw[Zk Uu];exact wpS_bind (KJ C MM b1.kd sx sy fin)
 ·rw[Zh Uu];exact wpS_bind (KS C MM b1.kd sx sy fin)
end
abbrev Rn:=Nat×Nat×Nat
def Ch:List Rn→Nat→Nat→Prop
 |[],s,e=>s=e
 |q::r,s,e=>q.1=s∧1≤q.2.1∧Ch r (s+q.2.1) e
theorem Ch.all:∀{l:List Rn}{s e:Nat},Ch l s e→s+l.length≤e∧∀q∈l,s≤q.1∧q.1+q.2.1≤e
 |[],s,e,h=>⟨by have:s=e:=h;simp;lia,fun q hq=>by cases hq⟩
 |q::r,s,e,⟨h1,h2,h3⟩=>by
  obtain⟨a1,a2⟩:=Ch.all h3;refine⟨by simp;lia,fun x hx=>?_⟩;rcases List.mem_cons.mp hx with rfl|hx
  ·lia
  ·have:=a2 x hx;lia
theorem Ch.split:∀{l r:List Rn}{s e:Nat},Ch (l++r) s e↔∃m,Ch l s m∧Ch r m e
 |[],r,s,e=>⟨fun h=>⟨s,rfl,h⟩,fun⟨m,h1,h2⟩=>by have:s=m:=h1;rw[this];exact h2⟩
 |q::l,r,s,e=>by
  constructor
  ·rintro⟨h1,h2,h3⟩;obtain⟨m,a1,a2⟩:=Ch.split.mp h3;exact⟨m,⟨h1,h2,a1⟩,a2⟩
  ·rintro⟨m,⟨h1,h2,a1⟩,a2⟩;exact⟨h1,h2,Ch.split.mpr ⟨m,a1,a2⟩⟩
theorem Ch.mod{f:Rn→Rn}(hf:∀q,(f q).1=q.1∧(f q).2.1=q.2.1):∀{l:List Rn}{j s e:Nat},Ch l s e→Ch (l.modify j f) s e
 |[],j,s,e,h=>by simpa using h
 |q::r,0,s,e,h=>by
  rw[List.modify_zero_cons];obtain⟨h1,h2,h3⟩:=h;refine⟨by rw[(hf q).1];exact h1,by rw[(hf q).2];exact h2,by rw[(hf q).2];exact h3⟩
 |q::r,j+1,s,e,h=>by
  rw[List.modify_succ_cons];exact⟨h.1,h.2.1,Ch.mod hf h.2.2⟩
theorem BH{f:Rn→Rn}:∀{l:List Rn}{j:Nat}{q:Rn},q∈l.modify j f→q∈l∨∃x∈l,q=f x
 |[],j,q,h=>by simp at h
 |x::r,0,q,h=>by
  rw[List.modify_zero_cons]at h;rcases List.mem_cons.mp h with h|h
  ·exact .inr ⟨x,ZA,h⟩
  ·exact .inl (List.mem_cons_of_mem _ h)
 |x::r,j+1,q,h=>by
  rw[List.modify_succ_cons]at h;rcases List.mem_cons.mp h with h|h
  ·exact .inl (by rw[h];simp)
  ·rcases BH h with h|⟨y,h1,h2⟩
   ·exact .inl (List.mem_cons_of_mem _ h)
   ·exact .inr ⟨y,List.mem_cons_of_mem _ h1,h2⟩
structure RI(X:List Keyed)(κ:SortKind)(lt:Keyed→Keyed→Bool)(st:SortSt)(lo n:Nat):Prop where
 b:SB X κ st
 ch:Ch (pendingOf st).toList 0 lo
 sw:∀q∈(pendingOf st).toList,Sw lt (arrOf st) q.1 (q.1+q.2.1)
 tl:Sw lt (arrOf st) lo (lo+n)
section
variable{prog:Program}{w:World}{A:Around}{E:Value→Shared→Prop}{s:Shared}{X:List Keyed}{κ:SortKind}{lt:Keyed→Keyed→Bool}(C:EK prog w A s X κ lt)
include C
theorem IS{st:SortSt}{lo n i:Nat}{Q:Bool→SortSt→Prop}(r:RI X κ lt st lo n)(LY:lo≤X.length)(hi:i+1<(pendingOf st).size)(q:∀aU,RI X κ lt aU lo n→(pendingOf aU).size+1=(pendingOf st).size→Q true aU):wpS (model prog w) A E s (mergeAt' i) Q st:=by
 have hl:(pendingOf st).toList.length=(pendingOf st).size:=ZA;obtain⟨P1,x,y,P2,e,el⟩:∃P1 x y P2,(pendingOf st).toList=P1++x::y::P2∧P1.length=i:=by
  refine⟨(pendingOf st).toList.take i,(pendingOf st).toList[i],(pendingOf st).toList[i+1],(pendingOf st).toList.drop (i+2),?_,by simp;lia⟩
  conv=>lhs;rw[←List.take_append_drop i (pendingOf st).toList]
  rw[List.drop_eq_getElem_cons Zu,List.drop_eq_getElem_cons Zu]
 obtain⟨p,m,v⟩:=x;obtain⟨p2,k,u⟩:=y;have ch:=r.ch;rw[e]at ch;obtain⟨mid,c1,c2⟩:=Ch.split.mp ch;obtain⟨d1,d2,d3,d4,d5⟩:=c2;dsimp only at d1 d2 d3 d4 d5;subst d1 d3;have a1:=c1.all;have a2:=d5.all;have i1:(pendingOf st)[i]?=some (p,m,v):=by rw[←Array.getElem?_toList,e,List.getElem?_append_right Zu,el];simp
 have i2:(pendingOf st)[i+1]?=some (p+m,k,u):=by rw[←Array.getElem?_toList,e,List.getElem?_append_right Zu,el];simp
 have w1:=r.sw (p,m,v) (by rw[e];simp);have w2:=r.sw (p+m,k,u) (by rw[e];simp);refine N8 C r.b i1 i2 d2 d4 Zu w1 w2 fun aU b' hp K5 Rr=>?_
 have ep:(pendingOf aU).toList=P1++(p,m+k,v)::P2:=by
  rw[hp];simp only[Array.toList_eraseIdxIfInBounds,Array.toList_setIfInBounds];rw[e,List.set_append_right _ _ (by lia),el,Nat.sub_self,List.set_cons_zero,List.eraseIdx_append_of_length_le Zu,el,show i+1-i=1 by lia];rfl
 refine q aU ⟨b',?_,fun z hz=>?_,r.tl.congr fun t h1 h2=>K5 t (.inr Zu)⟩ ?_
 ·rw[ep];refine Ch.split.mpr ⟨p,c1,rfl,by show 1≤m+k;lia,?_⟩;show Ch P2 (p+(m+k)) lo;rw[←Nat.add_assoc];exact d5
 ·rw[ep]at hz;rcases List.mem_append.mp hz with hz|hz
  ·have h1:=a1.2 z hz;exact(r.sw z (by rw[e];simp[hz])).congr fun t _ h2=>K5 t (.inl Zu)
  ·rcases List.mem_cons.mp hz with rfl|hz
   ·show Sw lt (arrOf aU) p (p+(m+k));rw[←Nat.add_assoc];exact Rr
   ·have h1:=a2.2 z hz;exact(r.sw z (by rw[e];simp[hz])).congr fun t h2 _=>K5 t (.inr Zu)
 ·have h1:=congrArg List.length ep;have h2:=congrArg List.length e;simp at h1 h2
  lia
theorem K6{st:SortSt}{lo n N w':Nat}{Q:Option Unit×Unit→SortSt→Prop}(r:RI X κ lt st lo n)(LY:lo≤X.length)(q:∀aU,RI X κ lt aU lo n→Q (none,()) aU):wpS (model prog w) A E s (RY N w') Q st:=by
 unfold RY;refine wpS_forRange (I:=fun _ c aU=>c=(none,())∧RI X κ lt aU lo n) ?_ (fun c aU h=>by rw[h.1];exact q aU h.2) ⟨rfl,r⟩;rintro x c aU _ _ ⟨rfl,r'⟩;refine wpS_bind (wpS_get ?_);by_cases hs:(pendingOf aU).size>1
 ·rw[Zk hs];have e:(pendingOf aU)[(pendingOf aU).size-2]?=some (pendingOf aU)[(pendingOf aU).size-2]:=ZA;rw[e];generalize (pendingOf aU)[(pendingOf aU).size-2]=z;obtain⟨z1,z2,z3⟩:=z;dsimp only;split
  ·exact wpS_pure (q aU r')
  ·refine wpS_bind (IS C r' LY Zu fun dQ r2 _=>?_);rw[if_neg Zr];exact wpS_pure ⟨rfl,r2⟩
 ·rw[Zh hs];exact wpS_pure (q aU r')
theorem EY{st:SortSt}{lo n N:Nat}{Q:ForInStep (Option Unit×Nat)→SortSt→Prop}(r:RI X κ lt st lo n)(h1:1≤n)(LY:lo+n≤X.length)(q:∀aU,RI X κ lt aU (lo+n) 0→Q (.yield (none,lo+n)) aU):wpS (model prog w) A E s (PQ N lo n) Q st:=by
 have push:∀aU,RI X κ lt aU lo n→RI X κ lt (PN lo n aU) (lo+n) 0:=fun aU r'=>by
  have ep:(pendingOf (PN lo n aU)).toList=(pendingOf aU).toList++[(lo,n,0)]:=by
   show((pendingOf aU).push (lo,n,0)).toList=_;simp
  refine⟨⟨r'.b.pm,r'.b.kd,r'.b.fl⟩,?_,fun z hz=>?_,fun i j a b c=>by lia⟩
  ·rw[ep];exact Ch.split.mpr ⟨lo,r'.ch,rfl,h1,rfl⟩
  ·rw[ep]at hz;rcases List.mem_append.mp hz with hz|hz
   ·exact r'.sw z hz
   ·have:z=(lo,n,0):=by simpa using hz
    subst this;exact r'.tl
 unfold PQ;refine wpS_bind (wpS_get ?_);cases e:(pendingOf st).back? with
 |none=>exact wpS_bind (wpS_modify (wpS_pure (q _ (push _ r))))
 |some z=>
  obtain⟨z1,z2,z3⟩:=z;dsimp only;refine wpS_bind (K6 C r Zu fun dQ r2=>?_);dsimp only;refine wpS_bind (wpS_modify (wpS_bind (wpS_modify (wpS_pure (q _ (push _ ?_))))));have ep:(pendingOf (Uo (power' N (2*z1+z2) (2*z1+z2+z2+n) N) dQ)).toList=(pendingOf dQ).toList.modify ((pendingOf dQ).size-1) fun(p,l,_)=>(p,l,power' N (2*z1+z2) (2*z1+z2+z2+n) N):=by
   show((pendingOf dQ).modify _ _).toList=_;simp
  refine⟨⟨r2.b.pm,r2.b.kd,r2.b.fl⟩,?_,fun z hz=>?_,r2.tl⟩
  ·rw[ep];refine Ch.mod ?_ r2.ch;exact fun _=>⟨rfl,rfl⟩
  ·rw[ep]at hz;rcases BH hz with hz|⟨x,h1,h2⟩
   ·exact r2.sw z hz
   ·rw[h2];exact r2.sw x h1
theorem K7{st:SortSt}{N:Nat}{Q:Option Unit×Unit→SortSt→Prop}(hN:N=X.length)(h0:0<N)(r:RI X κ lt st N 0)(q:∀aU,SB X κ aU→Sw lt (arrOf aU) 0 N→Q (none,()) aU):wpS (model prog w) A E s (RZ N) Q st:=by
 have one:∀aU,RI X κ lt aU N 0→(pendingOf aU).size≤1→Q (none,()) aU:=fun aU r' hs=>by
  have ch:=r'.ch;have sw:=r'.sw;cases e:(pendingOf aU).toList with
  |nil=>rw[e]at ch;have:0=N:=ch;lia
  |cons x l=>
   have hl:l=[]:=by
    have:=congrArg List.length e;simp at this;exact List.length_eq_zero_iff.mp Zu
   subst hl;rw[e]at ch sw;obtain⟨c1,c2,c3⟩:=ch;have c3:0+x.2.1=N:=c3;have:=sw x (ZA);rw[c1,c3]at this;exact q aU r'.b this
 unfold RZ;refine wpS_forRange (I:=fun x c aU=>c=(none,())∧RI X κ lt aU N 0∧((pendingOf aU).size+x≤N∨(pendingOf aU).size≤1)) ?_ ?_ ⟨rfl,r, .inl ?_⟩
 ·rintro x c aU _ hx ⟨rfl,r',hs⟩;refine wpS_bind (wpS_get ?_);by_cases h1:(pendingOf aU).size≤1
  ·rw[Zk h1];exact wpS_pure (one aU r' h1)
  ·rw[Zh h1];refine wpS_bind (IS C r' Zu ?_ fun dQ r2 JT=>?_)
   ·have key:∀c:Bool,(if c=true then(pendingOf aU).size-2-1 else(pendingOf aU).size-2)+1<(pendingOf aU).size:=fun c=>by cases c<;>simp<;>lia
    exact key _
   ·rw[if_neg Zr];exact wpS_pure ⟨rfl,r2,by lia⟩
 ·rintro c aU ⟨rfl,r',hs⟩;exact one aU r' (by rcases hs with hs|hs<;>lia)
 ·have:=r.ch.all.1;simp at this
  lia
theorem K8{st:SortSt}{Q:Unit→SortSt→Prop}(h0:0<X.length)(b:SB X κ st)(hp:pendingOf st=#[])(q:∀aU,SB X κ aU→Sw lt (arrOf aU) 0 X.length→Q () aU):wpS (model prog w) A E s sortRuns' Q st:=by
 rw[He];refine wpS_bind (wpS_get ?_);rw[b.size];refine wpS_bind (wpS_mono (wpS_forRange (I:=fun x c aU=>∃lo,c=(none,lo)∧RI X κ lt aU lo 0∧lo≤X.length∧x≤lo) (Q:=fun c aU=>c.1=none∧RI X κ lt aU X.length 0) ?_ ?_ ⟨0,rfl,⟨b,by rw[hp];rfl,(fun q hq=>by rw[hp]at hq;cases hq),fun i j a b c=>by lia⟩,by lia,by lia⟩) ?_)
 ·rintro x c aU _ hx ⟨lo,rfl,r,LY,R4⟩;dsimp only;by_cases h1:lo≥X.length
  ·rw[Zk h1];have:lo=X.length:=by lia
   subst this;exact wpS_pure ⟨rfl,r⟩
  ·rw[Zh h1];refine wpS_bind (N6 C r.b Zu (by lia) fun m dQ b2 Cf PV m1 m2 PX=>?_);dsimp only;have r2:RI X κ lt dQ lo m:=⟨b2,by rw[Cf];exact r.ch,fun z hz=>by
    rw[Cf]at hz;have:=r.ch.all.2 z hz;exact(r.sw z hz).congr fun t _ h2=>PV t (by lia),PX⟩
   by_cases h2:m<minRun' X.length X.length 0
   ·rw[Zk h2];refine wpS_bind (wpS_lift (wpAny_rule ⟨rfl,?_⟩));refine wpS_bind (N7 C b2 (n:=min (X.length-lo) (minRun' X.length X.length 0)) (by lia) m1 Zu PX fun DJ b3 Uv WB WC=>?_);rw[if_neg Zr];refine EY C ⟨b3,by rw[Uv,Cf];exact r.ch,fun z hz=>?_,WC⟩ Zu (by lia) fun Po r4=>⟨_,rfl,r4,by lia,by lia⟩
    rw[Uv]at hz;have:=r2.ch.all.2 z hz;exact(r2.sw z hz).congr fun t _ h2=>WB t (by lia)
   ·rw[Zh h2];exact EY C r2 m1 Zu fun Po r4=>⟨_,rfl,r4,by lia,by lia⟩
 ·rintro c aU ⟨lo,rfl,r,LY,R4⟩;have:lo=X.length:=by lia
  subst this;exact⟨rfl,r⟩
 ·rintro⟨c1,c2⟩ aU ⟨e,r⟩;dsimp only at e⊢;subst e;exact wpS_bind (K7 C rfl h0 r fun dQ b2 PX=>wpS_pure (q dQ b2 PX))
end
open Classical in
noncomputable def EZ(X:List Keyed)(x:Keyed):Nat:=if h:∃i:Nat,X[i]?=some x then Classical.choose h else 0
theorem nj{X:List Keyed}{x:Keyed}(h:x∈X):X[EZ X x]?=some x:=by
 have h':∃i:Nat,X[i]?=some x:=List.mem_iff_getElem?.mp h;unfold EZ;rw[dif_pos h'];exact Classical.choose_spec h'
theorem K9{X:List Keyed}(nd:X.Nodup){i:Nat}{x:Keyed}(h:X[i]?=some x):EZ X x=i:=by
 have:=nj (Ze h);exact(List.getElem?_inj (Y7 this).1 nd).mp (this.trans h.symm)
theorem nk{X:List Keyed}{x:Keyed}(h:x∈X):EZ X x<X.length:=(Y7 (nj h)).1
section
variable{prog:Program}{w:World}{A:Around}{E:Value→Shared→Prop}{s:Shared}{X:List Keyed}{κ:SortKind}{lt:Nat→Nat→Bool}
theorem Hg{st:SortSt}{Q:Unit→SortSt→Prop}(nd:X.Nodup)(h0:0<X.length)(L:Ag X.length lt)(ha:(arrOf st).toList=X)(hk:kindOf st=κ)(hp:pendingOf st=#[])(hf:failedOf st=none)
  (hc:∀i j x y,X[i]?=some x→X[j]?=some y→∀C:Bool→Shared→Prop,C (lt i j) s→wpAny (model prog w) A (keyLt' κ x.1 y.1) C (fun _ _=>False) s)
  (q:∀p aU,xX X.length p→Sd lt p X.length→(arrOf aU).toList=p.toList.map (fun i=>X.getD i (.none, .none))→failedOf aU=none→Q () aU):wpS (model prog w) A E s sortRuns' Q st:=by
 have C:EK prog w A s X κ fun x y=>lt (EZ X x) (EZ X y):=by
  refine⟨fun x hx y hy=>hc _ _ x y (nj hx) (nj hy),fun x hx y hy z hz=>L.tr _ _ _ (nk hx) (nk hy) (nk hz),fun x hx y hy=>L.as _ _ (nk hx) (nk hy),fun x hx y hy hn=>L.RK _ _ (nk hx) (nk hy) fun e=>hn ?_,nd⟩;have h1:=nj hx;rw[e,nj hy]at h1;exact(Zp h1).symm
 refine K8 C h0 ⟨by rw[ha],hk,hf⟩ hp fun aU b sw=>?_
 have mem:∀x∈(arrOf aU).toList,x∈X:=fun x hx=>b.pm.mem_iff.mp hx
 refine q ((arrOf aU).map (EZ X)) aU ?_ (fun i j ur hj=>?_) ?_ b.fl
 ·unfold xX;rw[Array.toList_map];have h1:=b.pm.map (EZ X);have h2:X.map (EZ X)=List.range X.length:=by
   apply List.ext_getElem
   ·simp
   ·intro i h1 h2;simp only[List.getElem_map,List.getElem_range];exact K9 nd (by simp at h1;simp[h1])
  rw[h2]at h1;exact h1
 ·have:=sw i j (Nat.zero_le _) ur hj;have g:∀k,k<X.length→gd ((arrOf aU).map (EZ X)) k=EZ X (gg (arrOf aU) k):=fun k hk=>by
   have Ey:k<(arrOf aU).size:=by rw[b.size];exact hk
   rw[EJ,oO];simp[Ey]
  rw[g i Zu,g j hj];exact this
 ·rw[Array.toList_map,List.map_map]
  conv=>lhs;rw[←List.map_id (arrOf aU).toList]
  apply List.map_congr_left;intro x hx;have:=nj (mem x hx);simp[List.getD_eq_getElem?_getD,this]
theorem BI{ks vs:List Value}(hl:ks.length=vs.length)(h0:0<vs.length)(L:Ag vs.length lt)(nd:ks.Nodup)
  (hc:∀i j,i<vs.length→j<vs.length→∀C:Bool→Shared→Prop,C (lt i j) s→wpAny (model prog w) A (keyLt' κ (ks.getD i .none) (ks.getD j .none)) C (fun _ _=>False) s):
  wpAny (model prog w) A ((sortRuns').run (SortSt.mk' κ (ks.toArray.zip vs.toArray) #[] 7 none)) (fun r s'=>∃p:Array Nat,s'=s∧xX vs.length p∧Sd lt p vs.length∧arrOf r.2=p.map (kas_item (ks.toArray.zip vs.toArray))∧failedOf r.2=none) E s:=by
 have hz:(ks.zip vs).length=vs.length:=by rw[List.length_zip];lia
 have ea:(ks.toArray.zip vs.toArray).toList=ks.zip vs:=ZA;have WD:(ks.zip vs).Nodup:=by
  refine List.pairwise_iff_getElem.mpr fun i j hi hj ur e=>?_
  rw[List.getElem_zip,List.getElem_zip]at e;have:=(List.getElem_inj nd).mp (Prod.mk.inj e).1
  lia
 have run:=Hg (prog:=prog) (w:=w) (A:=A) (E:=E) (s:=s) (X:=ks.zip vs) (κ:=κ) (lt:=lt) (st:=SortSt.mk' κ (ks.toArray.zip vs.toArray) #[] 7 none) (Q:=fun _ aU=>∃p:Array Nat,xX vs.length p∧Sd lt p vs.length∧arrOf aU=p.map (kas_item (ks.toArray.zip vs.toArray))∧failedOf aU=none) WD Zu (by rw[hz];exact L) ea rfl rfl rfl (fun i j x y hx hy C h=>?_) fun p aU h1 h2 h3 h4=>⟨p,by rw[←hz];exact h1,by rw[←hz];exact h2,?_,h4⟩
 ·unfold wpS at run;refine wpAny_mono run (fun r s' ⟨h1,p,h2⟩=>⟨p,h1,h2⟩) fun _ _ e=>e
 ·obtain⟨x1,x2⟩:=x;obtain⟨y1,y2⟩:=y;have hi:=(Y7 hx).1;have hj:=(Y7 hy).1;rw[hz]at hi hj;obtain⟨e1,_⟩:=List.getElem?_zip_eq_some.mp hx;obtain⟨e2,_⟩:=List.getElem?_zip_eq_some.mp hy;have:=hc i j hi hj C h;simpa[List.getD_eq_getElem?_getD,e1,e2]using this
 ·apply Array.toList_inj.mp;rw[h3,Array.toList_map];apply List.map_congr_left;intro i _;unfold kas_item;rw[Array.getD_eq_getD_getElem?,←Array.getElem?_toList,ea,List.getD_eq_getElem?_getD]
end
def Kp(a:Addr)(h h':Heap):Prop:=∀b o,b≠a→h.get? b=some o→h'.get? b=some o
section
variable{prog:Program}{w:World}{A:Around}{E:Value→Shared→Prop}{s:Shared}
theorem CI{a:Addr}{vs:List Value}{n:Nat}{κ:SortKind}{lt:Nat→Nat→Bool}{P:PySem.Fin→Shared→Prop}(ho:s.heap.get? a=some (seqObj "list" vs.toArray n))(h2:2≤vs.length)(E2:vs.length<10000)(N_:vs.Nodup)(L:Ag vs.length lt)
  (hk:∀s',Kp a s.heap s'.heap→∀Q':SortKind→Shared→Prop,Q' κ s'→wpAny (model prog w) A (keyKind' vs.toArray) Q' (fun _ _=>False) s')
  (hc:∀i j,i<vs.length→j<vs.length→∀s',Kp a s.heap s'.heap→∀C:Bool→Shared→Prop,C (lt i j) s'→wpAny (model prog w) A (keyLt' κ (vs.getD i .none) (vs.getD j .none)) C (fun _ _=>False) s')
  (h:∀p h' c,xX vs.length p→Sd lt p vs.length→Kp a s.heap h'→h'.get? a=some (seqObj "list" (List.toArray (p.toList.map fun i=>vs.getD i Value.none)) c)→P (.done (.ret .none)) {s with heap:=h'}):
  wpAny (model prog w) A (Builtin.«list.sort» ⟨[.ref a],[]⟩) P E s:=by
 have s1:=Heap.SameBut.update s.heap a (Obj.mapSeq fun _=>(#[]:Array Value));obtain⟨e1,Hh⟩:∃e1,(s.heap.update a (Obj.mapSeq fun _=>(#[]:Array Value))).get? a=some (seqObj "list" #[] e1):=⟨_,get?_update_seq ho fun _=>#[]⟩
 rw[list_sort_plain];refine wpAny_bind (listItems_at ho rfl (wpAny_bind (listUpdate_at ho rfl ?_ (by rw[List.size_toArray,sizeLine_eq];omega) (Nat.zero_le _))));refine wpAny_bind (seqEpoch_at Hh rfl (wpAny_bind (wpAny_newTuple (wpAny_bind (wpAny_newList (wpAny_holding ?_) (Nat.zero_le _))) (by show vs.length≤_;rw[sizeLine_eq];omega))));generalize hh:(((s.heap.update a (Obj.mapSeq fun _=>(#[]:Array Value))).push {cls:= .type "tuple",data:= .seq vs.toArray 0}).push {cls:= .type "list",data:= .seq #[] 0})=h3;have k3:Kp a s.heap h3:=fun b o hb e=>by
  rw[←hh];exact Zi (Zi ((s1.2 b hb).trans e))
 have K_:h3.get? a=some (seqObj "list" #[] e1):=by
  rw[←hh];exact Zi (Zi Hh)
 show wpAny (model prog w) A _ P E {s with heap:=h3};dsimp only;have xV:¬vs.toArray.size<2:=by rw[List.size_toArray];omega
 rw[Zh xV,Zh xV];refine wpAny_bind (wpAny_mono (hk {s with heap:=h3} k3 (fun PY s'=>PY=κ∧s'={s with heap:=h3}) ⟨rfl,rfl⟩) ?_ fun _ _ x=>x.elim);rintro _ _ ⟨rfl,rfl⟩;refine wpAny_bind (wpAny_mono (BI (lt:=lt) rfl (Zx) L N_ fun i j hi hj C hC=>hc i j hi hj {s with heap:=h3} k3 C hC) ?_ fun _ _ e=>e);rintro⟨⟨⟩,aU⟩ s' ⟨p,rfl,hp,hs,R5,hf⟩;dsimp only;rw[kat_snds rfl R5];have hsz:(List.toArray (p.toList.map fun i=>vs.getD i Value.none)).size=vs.length:=by rw[List.size_toArray,List.length_map,Array.length_toList,hp.size]
 have s2:=Heap.SameBut.update h3 a (Obj.mapSeq fun _=>List.toArray (p.toList.map fun i=>vs.getD i Value.none));obtain⟨c2,wu⟩:∃c2,(h3.update a (Obj.mapSeq fun _=>List.toArray (p.toList.map fun i=>vs.getD i Value.none))).get? a=some (seqObj "list" (List.toArray (p.toList.map fun i=>vs.getD i Value.none)) c2):=⟨_,get?_update_seq K_ fun _=>List.toArray (p.toList.map fun i=>vs.getD i Value.none)⟩
 refine wpAny_bind (seqEpoch_at (s:={s with heap:=h3}) K_ rfl (wpAny_bind (listUpdate_at (s:={s with heap:=h3}) K_ rfl ?_ (Nat.zero_le _) (Nat.le_trans (Nat.le_of_eq hsz) (by rw[sizeLine_eq];omega)))));rw[hf];simp only[bne_self_eq_false,Bool.false_eq_true,if_false];exact wpAny_pure (h p _ c2 hp hs (fun b o hb e=>(s2.2 b hb).trans (k3 b o hb e)) wu)
theorem yN{a:Addr}{vs:List Value}{n:Nat}{P:PySem.Fin→Shared→Prop}(ho:s.heap.get? a=some (seqObj "list" vs.toArray n))(h2:vs.length<2)
  (h:∀h' c,Kp a s.heap h'→h'.get? a=some (seqObj "list" vs.toArray c)→P (.done (.ret .none)) {s with heap:=h'}):
  wpAny (model prog w) A (Builtin.«list.sort» ⟨[.ref a],[]⟩) P E s:=by
 have s1:=Heap.SameBut.update s.heap a (Obj.mapSeq fun _=>(#[]:Array Value));obtain⟨e1,Hh⟩:∃e1,(s.heap.update a (Obj.mapSeq fun _=>(#[]:Array Value))).get? a=some (seqObj "list" #[] e1):=⟨_,get?_update_seq ho fun _=>#[]⟩
 rw[list_sort_plain];refine wpAny_bind (listItems_at ho rfl (wpAny_bind (listUpdate_at ho rfl ?_ (by rw[List.size_toArray,sizeLine_eq];omega) (Nat.zero_le _))));refine wpAny_bind (seqEpoch_at Hh rfl (wpAny_bind (wpAny_newTuple (wpAny_bind (wpAny_newList (wpAny_holding ?_) (Nat.zero_le _))) (by show vs.length≤_;rw[sizeLine_eq];omega))));generalize hh:(((s.heap.update a (Obj.mapSeq fun _=>(#[]:Array Value))).push {cls:= .type "tuple",data:= .seq vs.toArray 0}).push {cls:= .type "list",data:= .seq #[] 0})=h3;have k3:Kp a s.heap h3:=fun b o hb e=>by
  rw[←hh];exact Zi (Zi ((s1.2 b hb).trans e))
 have K_:h3.get? a=some (seqObj "list" #[] e1):=by
  rw[←hh];exact Zi (Zi Hh)
 show wpAny (model prog w) A _ P E {s with heap:=h3};dsimp only;have xV:vs.toArray.size<2:=by rw[List.size_toArray];omega
 rw[Zk xV,Zk xV];refine wpAny_bind (wpAny_pure (wpAny_bind (wpAny_pure ?_)));dsimp only;have R6:(arrOf (SortSt.mk' general' (vs.toArray.zip vs.toArray) #[] 7 none)).map (·.2)=vs.toArray:=by
  show(vs.toArray.zip vs.toArray).map (·.2)=vs.toArray;apply Array.toList_inj.mp;rw[Array.toList_map,Array.toList_zip];exact List.map_snd_zip (Nat.le_refl _)
 have s2:=Heap.SameBut.update h3 a (Obj.mapSeq fun _=>vs.toArray);obtain⟨c2,wu⟩:∃c2,(h3.update a (Obj.mapSeq fun _=>vs.toArray)).get? a=some (seqObj "list" vs.toArray c2):=⟨_,get?_update_seq K_ fun _=>vs.toArray⟩
 rw[R6];refine wpAny_bind (seqEpoch_at (s:={s with heap:=h3}) K_ rfl (wpAny_bind (listUpdate_at (s:={s with heap:=h3}) K_ rfl ?_ (Nat.zero_le _) (by rw[List.size_toArray,sizeLine_eq];omega))));simp only[bne_self_eq_false,Bool.false_eq_true,if_false];exact wpAny_pure (h _ c2 (fun b o hb e=>(s2.2 b hb).trans (k3 b o hb e)) wu)
theorem Am{l:Addr}{vs:List Value}{κ:SortKind}{lt:Nat→Nat→Bool}{Q:Value→Shared→Prop}(hl:s.heap.IsList l vs.toArray)(E2:vs.length<10000)(N_:vs.Nodup)(L:Ag vs.length lt)
  (hk:2≤vs.length→∀s',(∀b o,s.heap.get? b=some o→s'.heap.get? b=some o)→∀Q':SortKind→Shared→Prop,Q' κ s'→wpAny (model prog w) A.in1.in1 (keyKind' vs.toArray) Q' (fun _ _=>False) s')
  (hc:∀i j,i<vs.length→j<vs.length→∀s',(∀b o,s.heap.get? b=some o→s'.heap.get? b=some o)→∀C:Bool→Shared→Prop,C (lt i j) s'→wpAny (model prog w) A.in1.in1 (keyLt' κ (vs.getD i .none) (vs.getD j .none)) C (fun _ _=>False) s')
  (h:∀p h' D c,xX vs.length p→Sd lt p vs.length→(∀b o,s.heap.get? b=some o→h'.get? b=some o)→s.heap.objs.size≤D→h'.get? D=some (seqObj "list" (List.toArray (p.toList.map fun i=>vs.getD i Value.none)) c)→Q (.ref D) {s with heap:=h'}):
  wpAny (model prog w) A (call (.builtin "sorted") [.ref l]) Q E s:=by
 refine Calls.call_function_entry kind_sorted plain_sorted entry_sorted (args_sorted1 _) ?_;unfold Builtin.«sorted»;refine wpAny_bind (m:=checkCount "sorted" 1 1 _) (wpAny_pure (wpAny_bind (collect_list hl (wpAny_bind (wpAny_newList ?_ (by rw[sizeLine_eq];omega))) (by rw[sizeLine_eq];omega))));generalize hh:((s.heap.push (seqObj "list" #[] 0)).update s.heap.objs.size (Obj.mapSeq (·++vs.toArray)))=h1;have hsz:h1.objs.size=s.heap.objs.size+1:=by rw[←hh,Heap.size_update,size_push']
 have keep:∀b o,s.heap.get? b=some o→(h1.push (seqObj "list" vs.toArray 0)).get? b=some o:=fun b o q=>by
  have h_:b<s.heap.objs.size:=Heap.lt_size q;rw[Heap.get?_push_ne _ _ _ (by rw[hsz];exact Nat.ne_of_lt (Nat.lt_succ_of_lt h_)),←hh,Heap.get?_update_ne _ _ _ _ (Nat.ne_of_lt h_),Heap.get?_push_ne _ _ _ (Nat.ne_of_lt h_)];exact q
 have Ia:(h1.push (seqObj "list" vs.toArray 0)).get? h1.objs.size=some (seqObj "list" vs.toArray 0):=Heap.get?_push_size _ rfl;have IU:∀h',Kp h1.objs.size (h1.push (seqObj "list" vs.toArray 0)) h'→∀b o,s.heap.get? b=some o→h'.get? b=some o:=fun h' k b o q=>k b o (by have:=Heap.lt_size q;rw[hsz];exact Nat.ne_of_lt (Nat.lt_succ_of_lt this)) (keep b o q)
 show wpAny _ _ _ _ _ {s with heap:=h1.push (seqObj "list" vs.toArray 0)};refine wpAny_bind (wpAny_holding (wpAny_call_entry slot_list_sort ⟨_,Ia,rfl⟩ entry_list_sort ?_ (args_list_sort _)));by_cases h2:2≤vs.length
 ·refine CI (s:={s with heap:=h1.push (seqObj "list" vs.toArray 0)}) (lt:=lt) Ia h2 E2 N_ L (fun s' k Q' q=>hk h2 s' (IU _ k) Q' q) (fun i j hi hj s' k C q=>hc i j hi hj s' (IU _ k) C q) fun p h' c hp hs k e=>?_
  exact⟨_,rfl,wpAny_pure ⟨_,rfl,h p h' _ c hp hs (IU _ k) (by rw[show({s with heap:=h1}:Shared).heap.objs.size=h1.objs.size from rfl,hsz];exact Nat.le_succ _) e⟩⟩
 ·refine yN (s:={s with heap:=h1.push (seqObj "list" vs.toArray 0)}) Ia Zt fun h' c k e=>?_
  have hp:xX vs.length (List.toArray (List.range vs.length)):=by unfold xX;simp
  refine⟨_,rfl,wpAny_pure ⟨_,rfl,h _ h' _ c hp (fun i j ur hj=>Zx) (IU _ k) (by rw[show({s with heap:=h1}:Shared).heap.objs.size=h1.objs.size from rfl,hsz];exact Nat.le_succ _) ?_⟩⟩;rw[e]
  congr 2
  match vs,h2 with
  |[],_=>rfl
  |[x],_=>rfl
  |x::y::r,h=>simp at h
end
def ij(p q:Int×Int):Bool:=if p.1=q.1 then decide (p.2<q.2)else decide (p.1<q.1)
theorem E3{p q r:Int×Int}(a:ij p q=true)(b:ij q r=true):ij p r=true:=by
 unfold ij at*;split at a<;>split at b<;>split<;>simp_all<;>omega
theorem E4{p q:Int×Int}(a:ij p q=true):ij q p=false:=by
 unfold ij at*;split at a<;>split<;>simp_all<;>omega
theorem BJ{p q:Int×Int}(h:p≠q):ij p q=true∨ij q p=true:=by
 unfold ij;by_cases e:p.1=q.1
 ·have:p.2≠q.2:=fun z=>h (Prod.ext e z)
  simp[e];omega
 ·have e':¬q.1=p.1:=fun z=>e z.symm
  simp[e,e'];omega
section
variable{prog:Program}{w:World}{A:Around}{E:Value→Shared→Prop}{s:Shared}
def nq(h:Heap)(x:Addr)(p:Int×Int):Prop:=∃o t u n,h.get? x=some o∧o.cls= .type "tuple"∧o.data= .seq #[.int p.1 t, .int p.2 u] n
theorem Hi{x y:Addr}{p q:Int×Int}{C:Bool→Shared→Prop}(hx:nq s.heap x p)(hy:nq s.heap y q)(h:C (ij p q) s):wpAny (model prog w) A (keyLt' (tuples' true) (.ref x) (.ref y)) C E s:=by
 obtain⟨ox,t,u,n,h1,h2,h3⟩:=hx;obtain⟨oy,t',u',n',g1,g2,g3⟩:=hy;refine kat_lt h1 h3 g1 g3 (kat_cons ?_);have e0:SeqAt.EqAt A s (.int p.1 t) (.int q.1 t') (we (.int p.1) (.int q.1)):=wg ⟨t,rfl⟩ ⟨t',rfl⟩ rfl rfl;have e1:SeqAt.EqAt A s (.int p.2 u) (.int q.2 u') (we (.int p.2) (.int q.2)):=wg ⟨u,rfl⟩ ⟨u',rfl⟩ rfl rfl;refine e0 _ _ _ _ ?_;by_cases a:p.1=q.1
 ·have:we (.int p.1) (.int q.1)=true:=by simp[we,a]
  rw[this];refine kat_yes (kat_cons (e1 _ _ _ _ ?_));by_cases b:p.2=q.2
  ·have:we (.int p.2) (.int q.2)=true:=by simp[we,b]
   rw[this];refine kat_yes (kat_nil ?_);have:ij p q=decide (#[Value.int p.1 t, .int p.2 u].size<#[Value.int q.1 t', .int q.2 u'].size):=by simp[ij,a,b]
   rw[this]at h;exact h
  ·have:we (.int p.2) (.int q.2)=false:=by simp[we,b]
   rw[this];refine kat_no (kat_one _ _ (lt_int ?_));have:ij p q=decide (p.2<q.2):=by simp[ij,a]
   rw[this]at h;exact h
 ·have:we (.int p.1) (.int q.1)=false:=by simp[we,a]
  rw[this];refine kat_no (oneLt_int ?_);have:ij p q=decide (p.1<q.1):=by simp[ij,a]
  rw[this]at h;exact h
theorem vK{h:Heap}:∀{its:List Value},(∀v∈its,∃x p,v= .ref x∧nq h x p)→∃fs,KatTups h its fs∧fs.length=its.length∧∀f∈fs,∃i t,f=Value.int i t
 |[],_=>⟨[], .nil,rfl,fun f hf=>by cases hf⟩
 |v::r,hv=>by
  obtain⟨x,p,rfl,o,t,u,n,h1,h2,h3⟩:=hv v (List.mem_cons_self ..);obtain⟨fs,k1,k2,k3⟩:=vK (its:=r) fun v M8=>hv v (List.mem_cons_of_mem _ M8)
  refine⟨.int p.1 t::fs, .cons h1 h2 h3 rfl k1,by simp[k2],fun f hf=>?_⟩;rcases List.mem_cons.mp hf with rfl|hf
  ·exact⟨_,_,rfl⟩
  ·exact k3 f hf
theorem CJ{its:List Value}{Q:SortKind→Shared→Prop}(eV:0<its.length)(hv:∀v∈its,∃x p,v= .ref x∧nq s.heap x p)(h:Q (tuples' true) s):wpAny (model prog w) A (keyKind' its.toArray) Q E s:=by
 obtain⟨fs,k1,k2,k3⟩:=vK hv;refine kat_kind (T:= .type "int") k1 Zt (fun v hv=>?_) (Zy) h;obtain⟨i,t,rfl⟩:=k3 v hv;exact .now
end
theorem yO{l:List Nat}{f:Nat→V}{g:Nat→Value}(h:∀i∈l,RelV (f i) (g i)):Vals (l.map f) (l.map g):=by
 induction l with
 |nil=>exact .nil
 |cons i r ih=>exact .cons (h i (List.mem_cons_self ..)) (ih fun j hj=>h j (List.mem_cons_of_mem _ hj))
end L2
namespace QF
open PySem L2 PySem.Spec PyProof.Rows PySem.W PySem.Calls
inductive E5(K:Frag)(vs:List V)(H:Hp)(Q:VK):Prop
 |mk (l:Addr) (xs:List V) (ps:List Pr) (_:vs=[.ref l]) (_:iA K H l xs) (_:f7 H xs ps) (_:ps.Nodup) (_:ps.length<10000) (_:∀D ys qs,H D=none→f7 H ys qs→qs.Perm ps→qs.Pairwise (fun p q=>ij p q=true)→Q (.ref D) (upd H D (.lst ys))):E5 K vs H Q
theorem An{X:Cx}(K:Frag)(hK:X.K=K:=by rfl):iW X (.builtin "sorted") (E5 K):=by
 subst hK;intro pins s σ H vs us Q I r h;obtain⟨l,xs,ps,rfl,hq,PS,nd,E2,q⟩:=h;obtain⟨u,rfl,rx⟩:=vals1 r;cases rx;obtain⟨its,r',pl,hz⟩:=I.list hq;have hlen:=r'.length;have rf:=PS.1;have key:∀i,i<its.length→∃t,xs[i]?=some (.ref t)∧its[i]?=some (.ref t)∧H t=some (.tup (jo (ps.getD i (0,0))))∧nq s.heap t (ps.getD i (0,0)):=fun i hi=>by
  have hp:ps[i]?=some (ps.getD i (0,0)):=by simp[show i<ps.length by omega]
  obtain⟨t,h1,h2⟩:=PS.2 i _ hp;obtain⟨v,h3,h4⟩:=r'.get h1;cases h4;refine⟨t,h1,h3,h2,?_⟩;obtain⟨Yv,r2,⟨o,e1,e2,n,e3⟩,_⟩:=I.tuple (xs:=jo (ps.getD i (0,0))) (.of h2);cases r2 with
  |cons a b=>
   cases b with
   |cons c d=>
    cases d;obtain⟨ta,rfl⟩:=a;obtain⟨tc,rfl⟩:=c;exact⟨o,ta,tc,n,e1,e2,e3⟩
 have IU:∀{h':Heap},(∀b o,s.heap.get? b=some o→h'.get? b=some o)→∀{x p},nq s.heap x p→nq h' x p:=fun k _ _ ⟨o,t,u,n,a,b⟩=>⟨o,t,u,n,k _ _ a,b⟩
 have L:Ag its.length fun i j=>ij (ps.getD i (0,0)) (ps.getD j (0,0)):=by
  refine⟨fun i j k _ _ _ a b=>E3 a b,fun i j _ _ a=>E4 a,fun i j hi hj eV=>BJ fun e=>eV ?_⟩;have e:ps[i]?=ps[j]?:=by
   rw[List.getElem?_eq_getElem Zt,List.getElem?_eq_getElem Zt];simpa[show i<ps.length by omega,show j<ps.length by omega]using e
  exact(List.getElem?_inj Zt nd).mp e
 have N_:its.Nodup:=by
  refine List.pairwise_iff_getElem.mpr fun i j hi hj ur e=>?_
  obtain⟨t1,_,a2,a3,_⟩:=key i hi;obtain⟨t2,_,b2,b3,_⟩:=key j hj;rw[List.getElem?_eq_getElem hi]at a2;rw[List.getElem?_eq_getElem hj,←e,a2]at b2;cases b2;rw[a3]at b3;have h1:ps[i]?=some (ps.getD i (0,0)):=by simp[show i<ps.length by omega]
  have h2:ps[j]?=some (ps.getD j (0,0)):=by simp[show j<ps.length by omega]
  have e9:ps.getD i (0,0)=ps.getD j (0,0):=by
   have:=HO.tup.inj (Zp b3);simp only[jo,List.cons.injEq,V.int.injEq,and_true]at this;exact Prod.ext this.1 this.2
  have:=(List.getElem?_inj Zt nd).mp (h1.trans (by rw[e9];exact h2.symm));omega
 refine Am (κ:=tuples' true) pl.isList Zt N_ L (fun h2 s' k Q' hq=>?_) (fun i j hi hj s' k C hC=>?_) fun p h' D c hp hs k hD e=>?_
 ·refine CJ Zt (fun v hv=>?_) hq;obtain⟨i,hi,rfl⟩:=List.mem_iff_getElem.mp hv;obtain⟨t,_,h3,_,h5⟩:=key i hi;exact⟨t,_,by rw[List.getElem?_eq_getElem hi]at h3;exact Zp h3,IU k h5⟩
 ·obtain⟨t,_,h3,_,h5⟩:=key i hi;obtain⟨t',_,g3,_,g5⟩:=key j hj;have e1:its.getD i .none= .ref t:=by simp[h3]
  have e2:its.getD j .none= .ref t':=by simp[g3]
  rw[e1,e2];exact Hi (IU k h5) (IU k g5) hC
 ·have mem:∀i∈p.toList,i<its.length:=fun i hi=>by
   have:=hp.mem_iff.mp hi;simpa using this
  have rel:Vals (p.toList.map fun i=>xs.getD i .cO) (p.toList.map fun i=>its.getD i Value.none):=yO fun i hi=>by
   obtain⟨t,h1,h3,_⟩:=key i (mem i hi);have e1:xs.getD i .cO= .ref t:=by simp[h1]
   have e2:its.getD i .none= .ref t:=by simp[h3]
   rw[e1,e2];rfl
  have hsz:(p.toList.map fun i=>xs.getD i V.cO).length=its.length:=by rw[List.length_map,Array.length_toList,hp.size]
  have K':(p.toList.map fun i=>ps.getD i (0,0)).length=its.length:=by rw[List.length_map,Array.length_toList,hp.size]
  refine⟨.ref D,_,I.laid (t':=s.toks) k hD (show cS X.prog X.w _ h' _ (.lst _)from⟨by rw[hsz,←hlen];exact hz,_,c,rel,e⟩),rfl,q D _ (p.toList.map fun i=>ps.getD i (0,0)) (I.bX.fresh hD) ⟨by rw[hsz,K'],fun i f hf=>?_⟩ ?_ ?_⟩
  ·rw[List.getElem?_map]at hf⊢;cases ei:p.toList[i]? with
   |none=>rw[ei]at hf;cases hf
   |some j=>
    rw[ei]at hf;have hf:ps.getD j (0,0)=f:=Zp hf;obtain⟨t,h1,h3,h4,_⟩:=key j (mem j (Ze ei));refine⟨t,?_,by rw[←hf];exact h4⟩;show some (xs.getD j .cO)=_;simp[h1]
  ·have h1:=hp.map (fun i=>ps.getD i (0,0));refine h1.trans ?_;have:(List.range its.length).map (fun i=>ps.getD i (0,0))=ps:=by
    apply List.ext_getElem?;intro i;rw[List.getElem?_map];by_cases hi:i<its.length
    ·rw[List.getElem?_range hi];simp[show i<ps.length by omega]
    ·rw[List.getElem?_eq_none (by simp;omega),List.getElem?_eq_none Zt];rfl
   rw[this]
  ·rw[List.pairwise_iff_getElem];intro i j hi hj ur;have Bg:i<its.length:=by rw[K']at hi;exact hi
   have Du:j<its.length:=by rw[K']at hj;exact hj
   have:=hs i j ur Du;have Dv:=hp.size;simp only[List.getElem_map];have e1:gd p i=p.toList[i]'(by simp;omega):=by simp[gd,show i<p.size by omega]
   have e2:gd p j=p.toList[j]'(by simp;omega):=by simp[gd,show j<p.size by omega]
   rw[e1,e2]at this;exact this
end QF
namespace L2
open PySem PySem.Spec PyProof.Rows PySem.W PySem.Calls
open AutoSeq1 (wpAny_loadPart')
theorem Lb{A:Around}{s:Shared}{i j:Int}{t u:Tok}:SeqAt.EqAt A s (.int i t) (.int j u) (decide (i=j)):=by
 have:=wg (A:=A) (s:=s) (y:= .int i) (x:= .int j) ⟨t,rfl⟩ ⟨u,rfl⟩ rfl rfl;simpa[we,Bool.beq_eq_decide_eq]using this
theorem Oa{prog:Program}{w:World}{A:Around}{E:Value→Shared→Prop}{s:Shared}{i j:Int}{t u:Tok}{Q:Value→Shared→Prop}(h:Q (.bool (decide (i<j))) s):wpAny (model prog w) A (richCompare .Lt (.int i t) (.int j u)) Q E s:=lt_int h
theorem E6(l b:Addr)(p q:Int×Int)(t u t' u':Tok)(n n2:Nat)(dd Ep:Option Addr)(sl xW:Array (Option Value)):
  Meets (Builtin.«tuple.__lt__» ⟨[.ref l, .ref b],[]⟩) (fun A R s=>s.heap.get? l=some {cls:= .type "tuple",dict:=dd,data:= .seq #[.int p.1 t, .int p.2 u] n,slots:=sl}∧s.heap.get? b=some {cls:= .type "tuple",dict:=Ep,data:= .seq #[.int q.1 t', .int q.2 u'] n2,slots:=xW}∧
    R (.ok (.ret (.bool (ij p q)))) s):=
 .of_wp fun prog w A R s h=>by
  obtain⟨hp,g,d,tk,os⟩:=s;obtain⟨hl,hb,h⟩:=h;have f2:=AutoSeq1.sub_tuple_tuple
  wp_walk using wpAny_loadPart' hl,wpAny_loadPart' hb
  refine(show wpAny (model prog w) A.in1 (eqBool (.int p.1 t) (.int q.1 t')) _ _ _ from Lb _ _ _ _ ?_);by_cases a:p.1=q.1
  ·rw[decide_eq_true a]
   wp_walk
   refine(show wpAny (model prog w) A.in1 (eqBool (.int p.2 u) (.int q.2 u')) _ _ _ from Lb _ _ _ _ ?_);by_cases c:p.2=q.2
   ·rw[decide_eq_true c]
    wp_walk
    have e:ij p q=false:=by simp[ij,a,c]
    rw[e]at h;exact⟨_,rfl,h⟩
   ·rw[decide_eq_false c];have e:ij p q=decide (p.2<q.2):=by simp[ij,a]
    rw[e]at h
    wp_walk using Oa
    exact⟨_,rfl,h⟩
  ·rw[decide_eq_false a];have e:ij p q=decide (p.1<q.1):=by simp[ij,a]
   rw[e]at h
   wp_walk using Oa
   exact⟨_,rfl,h⟩
theorem Ao{prog:Program}{w:World}{A:Around}{E:Value→Shared→Prop}{s:Shared}{x y:Addr}{p q:Int×Int}{Q:Value→Shared→Prop}(hu:A.units<cLine)(hx:nq s.heap x p)(hy:nq s.heap y q)(h:Q (.bool (ij p q)) s):wpAny (model prog w) A (compareOp .Lt (.ref x) (.ref y)) Q E s:=by
 obtain⟨⟨c,dd,da,sl⟩,t,u,n,h1,h2,h3⟩:=hx;obtain⟨⟨c',FV,WE,MN⟩,t',u',n',g1,g2,g3⟩:=hy;simp only at h2 h3 g2 g3;subst h2 h3 g2 g3;exact richCompare_meets_room (op:= .Lt) ⟨_,h1,rfl⟩ ⟨_,g1,rfl⟩ F.slot_tuple_lt F.entry_tuple_lt (F.args_tuple_lt_2 _ _) (E6 x y p q t u t' u' n n' dd FV sl MN) ⟨h1,g1,show Value.bool (ij p q)≠Value.notImplemented∧Q (.bool (ij p q)) s from⟨(fun x=>nomatch x),h⟩⟩ hu
abbrev Kw:=Int×(Int×Int)
def Z5(a b:Kw):Bool:=if a.1=b.1 then ij a.2 b.2 else decide (a.1<b.1)
theorem Lc{p q r:Kw}(a:Z5 p q=true)(b:Z5 q r=true):Z5 p r=true:=by
 unfold Z5 at*;by_cases h1:p.1=q.1<;>by_cases h2:q.1=r.1
 ·rw[Zk h1]at a;rw[Zk h2]at b;rw[Zk (h1.trans h2)];exact E3 a b
 ·rw[Zh h2]at b;rw[Zh (by rw[h1];exact h2),h1];exact b
 ·rw[Zh h1]at a;rw[Zh (by rw[←h2];exact h1),←h2];exact a
 ·rw[Zh h1]at a;rw[Zh h2]at b;have a:=of_decide_eq_true a;have b:=of_decide_eq_true b;rw[if_neg Zt];exact decide_eq_true Zt
theorem Ld{p q:Kw}(a:Z5 p q=true):Z5 q p=false:=by
 unfold Z5 at*;by_cases h1:p.1=q.1
 ·rw[Zk h1]at a;rw[Zk h1.symm];exact E4 a
 ·rw[Zh h1]at a;rw[Zh (fun z=>h1 z.symm)];have a:=of_decide_eq_true a;exact decide_eq_false Zt
theorem Hj{p q:Kw}(h:p≠q):Z5 p q=true∨Z5 q p=true:=by
 unfold Z5;by_cases h1:p.1=q.1
 ·rw[Zk h1,Zk h1.symm];exact BJ fun z=>h (Prod.ext h1 z)
 ·rw[Zh h1,Zh (fun z=>h1 z.symm)];rcases Int.lt_or_lt_of_ne h1 with z|z
  ·exact .inl (decide_eq_true z)
  ·exact .inr (decide_eq_true z)
section
variable{prog:Program}{w:World}{A:Around}{E:Value→Shared→Prop}{s:Shared}
def vL(h:Heap)(x:Addr)(k:Kw):Prop:=∃o t y c,h.get? x=some o∧o.cls= .type "tuple"∧o.data= .seq #[.int k.1 t, .ref y] c∧nq h y k.2
theorem CK{x y:Addr}{p q:Int×Int}(hu:A.units+1<cLine)(hx:nq s.heap x p)(hy:nq s.heap y q):SeqAt.EqAt A s (.ref x) (.ref y) (decide (p=q)):=by
 obtain⟨o,t,u,n,h1,h2,h3⟩:=hx;obtain⟨o',t',u',n',g1,g2,g3⟩:=hy;by_cases e:x=y
 ·subst e;rw[h1]at g1;cases g1;rw[h3]at g3;injection g3 with g3 _;have g3:=congrArg Array.toList g3;simp at g3;have:p=q:=Prod.ext g3.1.1 g3.2.1;rw[decide_eq_true this];exact SeqAt.EqAt.same _
 ·have:=SeqAt.EqAt.of_refs e (SeqAt.RcAt.tuples (A:=A) (s:=s) (items:=#[.int p.1 t, .int p.2 u]) (items2:=#[.int q.1 t', .int q.2 u']) (e:=fun j=>if j=0 then decide (p.1=q.1)else decide (p.2=q.2)) ⟨o,h1,h2,n,h3⟩ ⟨o',g1,g2,n',g3⟩ Zt fun j h1 h2=>by
   have:j=0∨j=1:=by simp at h1;omega
   rcases this with rfl|rfl
   ·exact Lb
   ·exact Lb)
  have e2:((List.range (min #[Value.int p.1 t, .int p.2 u].size #[Value.int q.1 t', .int q.2 u'].size)).all (fun j=>if j=0 then decide (p.1=q.1)else decide (p.2=q.2))&&#[Value.int p.1 t, .int p.2 u].size==#[Value.int q.1 t', .int q.2 u'].size)=decide (p=q):=by
   simp[List.range_succ];by_cases a:p.1=q.1<;>by_cases b:p.2=q.2<;>simp[Prod.ext_iff,a,b]
  rw[e2]at this;exact this
theorem Le{x y:Addr}{p q:Kw}{C:Bool→Shared→Prop}(hu:A.units+1<cLine)(hx:vL s.heap x p)(hy:vL s.heap y q)(h:C (Z5 p q) s):wpAny (model prog w) A (keyLt' (tuples' true) (.ref x) (.ref y)) C E s:=by
 obtain⟨ox,t,z,n,h1,h2,h3,h4⟩:=hx;obtain⟨oy,t',z',n',g1,g2,g3,g4⟩:=hy;refine kat_lt h1 h3 g1 g3 (kat_cons (Lb _ _ _ _ ?_));by_cases a:p.1=q.1
 ·rw[decide_eq_true a];refine kat_yes (kat_cons (CK hu h4 g4 _ _ _ _ ?_));have e:Z5 p q=ij p.2 q.2:=Zk a;by_cases b:p.2=q.2
  ·rw[decide_eq_true b];refine kat_yes (kat_nil ?_);have:Z5 p q=decide (#[Value.int p.1 t, .ref z].size<#[Value.int q.1 t', .ref z'].size):=by rw[e,b];simp[ij]
   rw[this]at h;exact h
  ·rw[decide_eq_false b];rw[e]at h;exact kat_no (kat_one _ _ (Ao Zt h4 g4 h))
 ·rw[decide_eq_false a];have e:Z5 p q=decide (p.1<q.1):=Zh a;rw[e]at h;exact kat_no (oneLt_int h)
end
theorem Lf{X:Cx}{cm:Bool}{k:Nat}{f:Addr}{fd:FuncData}{ps:List Str}{sp:Sp}{A':Around}{pins:List (Addr×Obj)}{σ:St}{H:Hp}{s:Shared}{Q:VK}{us:List Value}{vs:List V}{E:Value→Shared→Prop}
  (F:a7 X.prog X.w X.K X.mg X.base (cW X.prog X.w) cm k f fd ps sp) (hr:eR cm k A') (hf:A'.frames=X.A.frames) (hb:Binds X.K fd ps []) (I:Inv X pins σ H s) (r:Vals vs us) (h:sp vs H Q E0):
  wpAny (model X.prog X.w) A' (call (.ref f) us) (EP X pins σ Q) E s:=by
 have hl:(us++[]).length=ps.length:=by rw[List.append_nil,←r.length];exact F.len _ _ _ _ h
 have L1:=hb s us I.p8 hl;rw[List.append_nil]at L1;refine wpAny_call (codeAny_mono (F.run A' X.stack s H ⟨us,[]⟩ us vs Q E0 hr {I.JW with frames:=by rw[hf];exact I.ok.frames} L1 r h) fun r s' hq=>?_);cases r with
 |error e=>obtain⟨_,_,_,_,_,_,_,_,_,_,_,_,_,h⟩:=hq;exact h.elim
 |ok fl=>
  cases fl with
  |ret u=>exact I.after hq
  |next=>exact False.elim hq
  |brk=>exact False.elim hq
  |cont=>exact False.elim hq
end L2
namespace QF
open PySem L2 PySem.Spec PyProof.Rows PySem.W PySem.Calls
def KQ(H1:Hp)(w:Kw):VK:=fun y H2=>ax H1 H2∧∃k t,y= .ref k∧H2 k=some (.tup [.int w.1, .ref t])∧H2 t=some (.tup [.int w.2.1, .int w.2.2])
def kl(ws:List Kw)(i j:Nat):Bool:=Z5 (ws.getD i (0,(0,0))) (ws.getD j (0,(0,0)))
def Ks(H:Hp)(ws:List Kw)(as:List Addr):Prop:=∀j k,as[j]?=some k→∃t,H k=some (.tup [.int (ws.getD j (0,(0,0))).1, .ref t])∧H t=some (.tup [.int (ws.getD j (0,(0,0))).2.1, .int (ws.getD j (0,(0,0))).2.2])
theorem Ks.key{X:Cx}{pins:List (Addr×Obj)}{σ:L2.St}{H:Hp}{s:Shared}{ws:List Kw}{as:List Addr}{j:Nat}{k:Addr}(I:Inv X pins σ H s)(h:Ks H ws as)(e:as[j]?=some k):vL s.heap k (ws.getD j (0,(0,0))):=by
 obtain⟨t,h1,h2⟩:=h j k e;obtain⟨its,r,⟨o,e1,e2,n,e3⟩,_⟩:=I.tuple (xs:=[.int (ws.getD j (0,(0,0))).1, .ref t]) (.of h1);obtain⟨its',r',⟨o',g1,g2,n',g3⟩,_⟩:=I.tuple (xs:=[.int (ws.getD j (0,(0,0))).2.1, .int (ws.getD j (0,(0,0))).2.2]) (.of h2);cases r with
 |cons a b=>cases b with
  |cons c d=>
   cases d;obtain⟨ta,rfl⟩:=a;cases c;cases r' with
   |cons a' b'=>cases b' with
    |cons c' d'=>
     cases d';obtain⟨WG,rfl⟩:=a';obtain⟨WH,rfl⟩:=c';exact⟨o,ta,t,n,e1,e2,e3,o',WG,WH,n',g1,g2,g3⟩
theorem yP{h:Heap}:∀{its:List Value},(∀v∈its,∃x p,v= .ref x∧vL h x p)→∃fs,KatTups h its fs∧fs.length=its.length∧∀f∈fs,∃i t,f=Value.int i t
 |[],_=>⟨[], .nil,rfl,fun f hf=>by cases hf⟩
 |v::r,hv=>by
  obtain⟨x,p,rfl,o,t,u,n,h1,h2,h3,_⟩:=hv v (List.mem_cons_self ..);obtain⟨fs,k1,k2,k3⟩:=yP (its:=r) fun v M8=>hv v (List.mem_cons_of_mem _ M8)
  refine⟨.int p.1 t::fs, .cons h1 h2 h3 rfl k1,by simp[k2],fun f hf=>?_⟩;rcases List.mem_cons.mp hf with rfl|hf
  ·exact⟨_,_,rfl⟩
  ·exact k3 f hf
theorem E7{prog:Program}{w:World}{A:Around}{E:Value→Shared→Prop}{s:Shared}{its:List Value}{Q:SortKind→Shared→Prop}(eV:0<its.length)(hv:∀v∈its,∃x p,v= .ref x∧vL s.heap x p)(h:Q (tuples' true) s):wpAny (model prog w) A (keyKind' its.toArray) Q E s:=by
 obtain⟨fs,k1,k2,k3⟩:=yP hv;refine kat_kind (T:= .type "int") k1 Zt (fun v hv=>?_) (Zy) h;obtain⟨i,t,rfl⟩:=k3 v hv;exact .now
section
variable{X:Cx}{cm:Bool}{k:Nat}{f:Addr}{fd:FuncData}{ps:List Str}{sp:Sp}{A':Around}{pins:List (Addr×Obj)}{σ:L2.St}{H:Hp}{s:Shared}{E:Value→Shared→Prop}{a kS:Addr}{vs:List Value}{xs:List V}{ws:List Kw}{e1:Nat}{P:PySem.Fin→Shared→Prop}
theorem E8(hu:A'.units+1<cLine)(I:Inv X pins σ H s){kA:Array Value}{e:Nat}{as:List Addr}(hk:s.heap.get? kS=some (seqObj "list" kA e))(ha:s.heap.get? a=some (seqObj "list" #[] e1))(fk:iq X pins H kS)(fa:iq X pins H a)(eV:kS≠a)
  (ek:kA.toList=as.map Value.ref) (el:as.length=vs.length) (K:Ks H ws as) (r:Vals xs vs) (hlen:ws.length=vs.length) (nd:ws.Nodup) (E2:vs.length<10000)
  (h:∀p s',xX vs.length p→Sd (kl ws) p vs.length→Inv X pins σ (upd H a (.lst (p.toList.map fun i=>xs.getD i .cO))) s'→P (.done (.ret .none)) s'):
  wpAny (model X.prog X.w) A' (ksk_end a false vs.toArray e1 (.ref kS) kA) P E s:=by
 have WI:kA=(as.map Value.ref).toArray:=by apply Array.toList_inj.mp;simpa using ek
 subst WI;have hl:(as.map Value.ref).length=vs.length:=by rw[List.length_map];exact el
 have key:∀i,i<vs.length→∃x,(as.map Value.ref).getD i Value.none= .ref x∧vL s.heap x (ws.getD i (0,(0,0))):=fun i hi=>by
  have hx:as[i]?=some as[i]:=List.getElem?_eq_getElem Zu;exact⟨as[i],by simp[show i<as.length by lia],K.key I hx⟩
 have L:Ag vs.length (kl ws):=by
  refine⟨fun i j k _ _ _ a b=>Lc a b,fun i j _ _ a=>Ld a,fun i j hi hj eV=>Hj fun e=>eV ?_⟩;have e:ws[i]?=ws[j]?:=by
   rw[List.getElem?_eq_getElem Zu,List.getElem?_eq_getElem Zu];simpa[show i<ws.length by lia,show j<ws.length by lia]using e
  exact(List.getElem?_inj Zu nd).mp e
 have tail:∀(st:SortSt)(p:Array Nat),xX vs.length p→Sd (kl ws) p vs.length→(arrOf st).map (·.2)=List.toArray (p.toList.map fun i=>vs.getD i Value.none)→failedOf st=none→wpAny (model X.prog X.w) A' (ksk_tail a false e1 (.ref kS) st) P E s:=fun st p hp hs hm hf=>by
  have hsz:(List.toArray (p.toList.map fun i=>vs.getD i Value.none)).size=vs.length:=by rw[List.size_toArray,List.length_map,Array.length_toList,hp.size]
  have s1:=Heap.SameBut.update s.heap kS (Obj.mapSeq fun _=>(#[]:Array Value));have Al:(s.heap.update kS (Obj.mapSeq fun _=>(#[]:Array Value))).get? a=some (seqObj "list" #[] e1):=(s1.2 a (Ne.symm eV)).trans ha;have s2:=Heap.SameBut.update (s.heap.update kS (Obj.mapSeq fun _=>(#[]:Array Value))) a (Obj.mapSeq fun _=>List.toArray (p.toList.map fun i=>vs.getD i Value.none));obtain⟨c2,wu⟩:∃c2,((s.heap.update kS (Obj.mapSeq fun _=>(#[]:Array Value))).update a (Obj.mapSeq fun _=>List.toArray (p.toList.map fun i=>vs.getD i Value.none))).get? a=some (seqObj "list" (List.toArray (p.toList.map fun i=>vs.getD i Value.none)) c2):=⟨_,get?_update_seq Al fun _=>List.toArray (p.toList.map fun i=>vs.getD i Value.none)⟩
  unfold ksk_tail
  try dsimp only
  simp only[Bool.false_eq_true,if_false];rw[hm];refine wpAny_bind (listUpdate_at hk rfl (wpAny_bind (wpAny_letGo ?_)) (by rw[List.size_toArray,hl,sizeLine_eq];lia) (Nat.zero_le _));refine wpAny_bind (seqEpoch_at (s:={s with heap:=s.heap.update kS (Obj.mapSeq fun _=>(#[]:Array Value))}) Al rfl (wpAny_bind (listUpdate_at (s:={s with heap:=s.heap.update kS (Obj.mapSeq fun _=>(#[]:Array Value))}) Al rfl ?_ (Nat.zero_le _) (Nat.le_trans (Nat.le_of_eq hsz) (by rw[sizeLine_eq];lia)))));rw[hf];simp only[bne_self_eq_false,Bool.false_eq_true,if_false];have hr:=r.length;have mem:∀i∈p.toList,i<vs.length:=fun i hi=>by
   have:=hp.mem_iff.mp hi;simpa using this
  have rel:Vals (p.toList.map fun i=>xs.getD i .cO) (p.toList.map fun i=>vs.getD i Value.none):=yO fun i hi=>by
   have hi:=mem i hi;obtain⟨v,h1,h2⟩:=r.get (i:=i) (x:=xs[i]) (by simp[show i<xs.length by lia]);have e1:xs.getD i .cO=xs[i]:=by simp[show i<xs.length by lia]
   have e2:vs.getD i .none=v:=by simp[h1]
   rw[e1,e2];exact h2
  refine wpAny_pure (h p _ hp hs (I.Bo (t':=s.toks) (fp:=[kS,a]) (fun b hb=>?_) fa (fun b o hb e=>?_) ⟨by rw[List.length_map,Array.length_toList,hp.size,sizeLine_eq];lia,_,c2,rel,wu⟩))
  ·simp only[List.mem_cons,List.mem_singleton,List.not_mem_nil,or_false]at hb;rcases hb with rfl|rfl
   ·exact fk
   ·exact fa
  ·simp only[List.mem_cons,List.not_mem_nil,or_false,not_or]at hb;exact(s2.2 b hb.2).trans ((s1.2 b hb.1).trans e)
 unfold ksk_end
 try dsimp only
 simp only[Bool.false_eq_true,if_false];by_cases h2:2≤vs.length
 ·have xV:¬vs.toArray.size<2:=by rw[List.size_toArray];lia
  rw[Zh xV,Zh xV];refine wpAny_bind (wpAny_mono (E7 (Q:=fun PY s'=>PY=tuples' true∧s'=s) (E:=E) (its:=as.map Value.ref) (by lia) (fun v hv=>?_) ⟨rfl,rfl⟩) ?_ fun _ _ x=>x)
  ·obtain⟨i,hi,rfl⟩:=List.mem_iff_getElem.mp hv;obtain⟨x,h3,h5⟩:=key i Zu;exact⟨x,_,by rw[←h3];simp[show i<as.length by simpa using hi],h5⟩
  rintro PY s0 ⟨WJ,WK⟩;rw[WJ,WK];have Ob:(as.map Value.ref).Nodup:=by
   refine List.pairwise_iff_getElem.mpr fun i j hi hj ur e=>?_
   have Bg:i<as.length:=by simpa using hi
   have Du:j<as.length:=by simpa using hj
   have e:as[i]=as[j]:=by simpa using e
   obtain⟨t1,a1,a2⟩:=K i as[i] (List.getElem?_eq_getElem Bg);obtain⟨t2,b1,b2⟩:=K j as[j] (List.getElem?_eq_getElem Du);rw[←e,a1]at b1;have h1:=HO.tup.inj (Zp b1);simp only[List.cons.injEq,V.int.injEq,V.ref.injEq,and_true]at h1;rw[←h1.2,a2]at b2;have h2:=HO.tup.inj (Zp b2);simp only[List.cons.injEq,V.int.injEq,and_true]at h2;have e9:ws.getD i (0,(0,0))=ws.getD j (0,(0,0)):=Prod.ext h1.1 (Prod.ext h2.1 h2.2);have g1:ws[i]?=some (ws.getD i (0,(0,0))):=by simp[show i<ws.length by lia]
   have g2:ws[j]?=some (ws.getD j (0,(0,0))):=by simp[show j<ws.length by lia]
   have:=(List.getElem?_inj Zu nd).mp (g1.trans (by rw[e9];exact g2.symm))
   lia
  refine wpAny_bind (wpAny_mono (BI (lt:=kl ws) hl Zu L Ob fun i j hi hj C hC=>?_) ?_ fun _ _ e=>e)
  ·obtain⟨x,h3,h5⟩:=key i hi;obtain⟨y,g3,g5⟩:=key j hj;rw[h3,g3];exact Le hu h5 g5 hC
  rintro⟨⟨⟩,aU⟩ s' ⟨p,R7,hp,hs,R5,hf⟩;rw[R7];exact tail aU p hp hs (kat_snds hl R5) hf
 ·have xV:vs.toArray.size<2:=by rw[List.size_toArray];lia
  rw[Zk xV,Zk xV];refine wpAny_bind (wpAny_pure (wpAny_bind (wpAny_pure ?_)));have hp:xX vs.length (List.toArray (List.range vs.length)):=by unfold xX;simp
  refine tail _ _ hp (fun i j ur hj=>by lia) ?_ rfl;show((as.map Value.ref).toArray.zip vs.toArray).map (·.2)=_;apply Array.toList_inj.mp;rw[Array.toList_map,Array.toList_zip];refine(List.map_snd_zip (by simp;lia)).trans ?_
  match vs,h2 with
  |[],_=>rfl
  |[x],_=>rfl
  |x::y::r,h=>simp at h
theorem CL(F:a7 X.prog X.w X.K X.mg X.base (cW X.prog X.w) cm k f fd ps sp)(hr:eR cm k A')(hf:A'.frames=X.A.frames)(hb:Binds X.K fd ps [])(hu:A'.units+1<cLine)(I:Inv X pins σ H s)(hk:s.heap.get? kS=some (seqObj "list" #[] 0))(ha:s.heap.get? a=some (seqObj "list" #[] e1))
  (fk:iq X pins H kS) (fa:iq X pins H a) (eV:kS≠a) (r:Vals xs vs) (hlen:ws.length=vs.length) (nd:ws.Nodup) (E2:vs.length<10000)
  (oj:∀i v H1,xs[i]?=some v→ax H H1→sp [v] H1 (KQ H1 (ws.getD i (0,(0,0)))) E0)
  (h:∀p H' s',xX vs.length p→Sd (kl ws) p vs.length→ax H H'→H' a=none→Inv X pins σ (upd H' a (.lst (p.toList.map fun i=>xs.getD i .cO))) s'→P (.done (.ret .none)) s'):
  wpAny (model X.prog X.w) A' (ksk_rest a (.ref f) false vs.toArray e1 (.ref kS)) P E s:=by
 have L_:=r.length;unfold ksk_rest;refine wpAny_bind (wpAny_rule ?_);first
  |rw[List.forIn_toArray]
  |(rw[←Array.forIn_toList];simp only[List.toList_toArray])
 refine wpAny_bind (ksk_fold (fun i s'=>∃(H':Hp)(as:List Addr)(e:Nat),Inv X pins σ H' s'∧ax H H'∧s'.heap.get? kS=some (seqObj "list" (as.map Value.ref).toArray e)∧s'.heap.get? a=some (seqObj "list" #[] e1)∧iq X pins H' kS∧iq X pins H' a∧as.length=i∧Ks H' ws as) vs 0 s
  ⟨H,[],0,I,fun _ _ z=>z,hk,ha,fk,fa,rfl,fun j k e=>by simp at e⟩ ?_ ?_)
 ·rintro j x s' hx ⟨H',as,e,I',sm,Ey,Oc,PZ,Od,el,K⟩;simp only[Nat.zero_add]at el⊢;have hj:j<vs.length:=(Y7 hx).1;obtain⟨u,Uw,P0⟩:=r.get (i:=j) (x:=xs[j]) (by simp[show j<xs.length by omega]);rw[hx]at Uw;cases Uw;have Ip:=I'.pinned (fp:=[kS,a]) (fun b hb=>by
   simp only[List.mem_cons,List.not_mem_nil,or_false]at hb;rcases hb with rfl|rfl
   ·exact PZ
   ·exact Od) (fun b hb=>by
   simp only[List.mem_cons,List.not_mem_nil,or_false]at hb;rcases hb with rfl|rfl
   ·exact⟨_,Ey,fun v z=>nomatch z⟩
   ·exact⟨_,Oc,fun v z=>nomatch z⟩)
  refine wpAny_bind (wpAny_attempt (wpAny_mono (Lf F hr hf hb Ip (.cons P0 .nil) (oj j xs[j] H' (by simp[show j<xs.length by omega]) sm)) (fun v v9 he=>?_) fun _ _ z=>z));obtain⟨y,H2,I2,ry,R8,kk,t,rfl,k1,k2⟩:=he;cases ry;dsimp only;have pk:=I2.pin (kS,_) (List.mem_append_right _ (List.mem_append_right _ (gN Zr Ey)));have pa:=I2.pin (a,_) (List.mem_append_right _ (List.mem_append_right _ (gN Zr Oc)));have I3:=I2.lp;have s1:=Heap.SameBut.update v9.heap kS (Obj.mapSeq (·.push (.ref kk)));obtain⟨c2,wu⟩:∃c2,(v9.heap.update kS (Obj.mapSeq (·.push (.ref kk)))).get? kS=some (seqObj "list" ((as.map Value.ref).toArray.push (.ref kk)) c2):=⟨_,get?_update_seq pk.1 (·.push (.ref kk))⟩
  refine wpAny_bind (listUpdate_at pk.1 rfl ?_ (by simp;rw[sizeLine_eq];omega) (by simp;rw[sizeLine_eq];omega));have L':iq X pins H2 kS:=⟨pk.2.1,PZ.2⟩
  have WL:iq X pins H2 a:=⟨pa.2.1,Od.2⟩
  refine wpAny_pure ⟨rfl,H2,as++[kk],c2,I3.turned (t':=v9.toks) (it:=kS) (fun b o hb e=>(s1.2 b hb).trans e) L'.1 L'.2.1 L'.2.2.2.1 L'.2.2.2.2.1 L'.2.2.2.2.2,fun b o z=>R8 b o (sm b o z),?_,(s1.2 a (Ne.symm eV)).trans pa.1,L',WL,by simp[el],fun i k ei=>?_⟩
  ·show(v9.heap.update kS (Obj.mapSeq (·.push (.ref kk)))).get? kS=_;rw[wu]
   congr 2
   simp
  ·by_cases hi:i<as.length
   ·rw[List.getElem?_append_left hi]at ei;obtain⟨t',g1,g2⟩:=K i k ei;exact⟨t',R8 _ _ g1,R8 _ _ g2⟩
   ·rw[List.getElem?_append_right Zt]at ei;have WM:i-as.length=0:=by
     have:=(Y7 ei).1;simp at this;omega
    rw[WM]at ei;have:kk=k:=by simpa using ei
    subst this;have:i=j:=Zx;subst this;exact⟨t,k1,k2⟩
 ·rintro s' ⟨H',as,e,I',sm,Ey,Oc,PZ,Od,el,K⟩;refine wpAny_bind (listItems_at Ey rfl ?_);exact E8 hu I' Ey Oc PZ Od eV Zr (Zx) K r hlen nd E2 fun p s2 hp hs I2=>h p H' s2 hp hs sm Od.1 I2
theorem CM{n:Nat}(F:a7 X.prog X.w X.K X.mg X.base (cW X.prog X.w) cm k f fd ps sp)(hr:eR cm k A')(hf:A'.frames=X.A.frames)(hb:Binds X.K fd ps [])(hu:A'.units+1<cLine)(I:Inv X pins σ H s)(ho:s.heap.get? a=some (seqObj "list" vs.toArray n))
  (fa:iq X pins H a) (r:Vals xs vs) (hlen:ws.length=vs.length) (nd:ws.Nodup) (E2:vs.length<10000)
  (oj:∀i v H1,xs[i]?=some v→ax H H1→sp [v] H1 (KQ H1 (ws.getD i (0,(0,0)))) E0)
  (h:∀p H' s',xX vs.length p→Sd (kl ws) p vs.length→ax H H'→H' a=none→Inv X pins σ (upd H' a (.lst (p.toList.map fun i=>xs.getD i .cO))) s'→P (.done (.ret .none)) s'):
  wpAny (model X.prog X.w) A' (ksk_tree a (.ref f) false) P E s:=by
 have s1:=Heap.SameBut.update s.heap a (Obj.mapSeq fun _=>(#[]:Array Value));obtain⟨e1,Hh⟩:∃e1,(s.heap.update a (Obj.mapSeq fun _=>(#[]:Array Value))).get? a=some (seqObj "list" #[] e1):=⟨_,get?_update_seq ho fun _=>#[]⟩
 have I1:Inv X pins σ H {s with heap:=s.heap.update a (Obj.mapSeq fun _=>(#[]:Array Value))}:=I.turned (t':=s.toks) (it:=a) (fun b o hb e=>(s1.2 b hb).trans e) fa.1 fa.2.1 fa.2.2.2.1 fa.2.2.2.2.1 fa.2.2.2.2.2;unfold ksk_tree;refine wpAny_bind (listItems_at ho rfl (wpAny_bind (listUpdate_at ho rfl ?_ (by rw[List.size_toArray,sizeLine_eq];omega) (Nat.zero_le _))));refine wpAny_bind (seqEpoch_at Hh rfl (wpAny_bind (wpAny_newTuple (wpAny_bind (wpAny_newList (wpAny_holding ?_) (Nat.zero_le _))) (by show vs.length≤_;rw[sizeLine_eq];omega))));have I2:Inv X pins σ H {s with heap:=(s.heap.update a (Obj.mapSeq fun _=>(#[]:Array Value))).push (seqObj "tuple" vs.toArray 0)}:=I1.kept (t':=s.toks) fun b o e=>Zi e
 have I3:Inv X pins σ H {s with heap:=((s.heap.update a (Obj.mapSeq fun _=>(#[]:Array Value))).push (seqObj "tuple" vs.toArray 0)).push (seqObj "list" #[] 0)}:=I2.kept (t':=s.toks) fun b o e=>Zi e
 have fk:=I2.uy (Nat.le_refl _) (I2.bX.fresh (Nat.le_refl _));have ZC:=Heap.get?_push_of_some (seqObj "tuple" vs.toArray 0) Hh;exact CL F hr hf hb hu I3 (Heap.get?_push_size _ rfl) (Zi ZC) fk fa (Nat.ne_of_gt (Heap.lt_size ZC)) r hlen nd E2 oj h
theorem Ap{l:Addr}{Q:VK}(F:a7 X.prog X.w X.K X.mg X.base (cW X.prog X.w) cm k f fd ps sp)(hr:eR cm (k+1) X.A)(hb:Binds X.K fd ps [])(I:Inv X pins σ H s)(hq:iA X.K H l xs)(hlen:ws.length=xs.length)(nd:ws.Nodup)(E2:xs.length<10000)
  (oj:∀i v H1,xs[i]?=some v→ax H H1→sp [v] H1 (KQ H1 (ws.getD i (0,(0,0)))) E0)
  (h:∀p H' D,xX xs.length p→Sd (kl ws) p xs.length→ax H H'→H D=none→H' D=none→Q (.ref D) (upd H' D (.lst (p.toList.map fun i=>xs.getD i .cO)))):
  wpAny (model X.prog X.w) X.A (call (.builtin "sorted") [.ref l] [(Str.ofString "key", .ref f)]) (EP X pins σ Q) E s:=by
 obtain⟨vs,r,pl,hz⟩:=I.list hq;have L_:=r.length;refine call_function_entry_kw kind_sorted plain_sorted entry_sorted (ksk_s1 _ _) ?_;unfold Builtin.«sorted»;refine wpAny_bind (m:=checkCount "sorted" 1 1 _) (wpAny_pure (wpAny_bind (collect_list pl.isList (wpAny_bind (wpAny_newList ?_ (by rw[sizeLine_eq];omega))) (by rw[sizeLine_eq];omega))));generalize hh:((s.heap.push (seqObj "list" #[] 0)).update s.heap.objs.size (Obj.mapSeq (·++vs.toArray)))=h1;have hsz:h1.objs.size=s.heap.objs.size+1:=by rw[←hh,Heap.size_update,size_push']
 have keep:∀b o,s.heap.get? b=some o→(h1.push (seqObj "list" vs.toArray 0)).get? b=some o:=fun b o q=>by
  have h_:b<s.heap.objs.size:=Heap.lt_size q;rw[Heap.get?_push_ne _ _ _ (by rw[hsz];exact Nat.ne_of_lt (Nat.lt_succ_of_lt h_)),←hh,Heap.get?_update_ne _ _ _ _ (Nat.ne_of_lt h_),Heap.get?_push_ne _ _ _ (Nat.ne_of_lt h_)];exact q
 have Ia:(h1.push (seqObj "list" vs.toArray 0)).get? h1.objs.size=some (seqObj "list" vs.toArray 0):=Heap.get?_push_size _ rfl;have hD:s.heap.objs.size≤h1.objs.size:=by rw[hsz];exact Nat.le_succ _
 have Ux:H h1.objs.size=none:=I.bX.fresh hD;have I1:Inv X pins σ H {s with heap:=h1.push (seqObj "list" vs.toArray 0)}:=I.kept (t':=s.toks) keep;show wpAny _ _ _ _ _ {s with heap:=h1.push (seqObj "list" vs.toArray 0)};refine wpAny_bind (wpAny_holding (wpAny_call_entry_kw slot_list_sort ⟨_,Ia,rfl⟩ entry_list_sort ?_ (ksk_l1 _ _)));show wpAny (model X.prog X.w) X.A.in1.in1 (Builtin.«list.sort» ⟨[.ref h1.objs.size],[(Str.ofString "key", .ref f)]⟩) _ _ _;rw[ksk_t1];have un:=hr.un;refine CM F ⟨hr.hd,by have:=hr.dp;show X.A.depth+3*k+5<_;omega,by show X.A.units+1+1+16*k+200<_;omega⟩ rfl hb (by show X.A.units+1+1+1<_;omega) I1 Ia (I.uy hD Ux) r Zt nd Zt oj fun p H' s' hp hs sm hn I'=>⟨_,rfl,wpAny_pure ⟨_,rfl, .ref h1.objs.size,_,I',rfl,?_⟩⟩
 rw[←L_]at hp hs;exact h p H' _ hp hs sm Ux hn
end
inductive E9(K:Frag)(sp:Sp)(x:V)(H:Hp)(Q:VK):Prop
 |mk (l:Addr) (xs:List V) (ws:List Kw) (_:x= .ref l) (_:iA K H l xs) (_:ws.length=xs.length) (_:ws.Nodup) (_:xs.length<10000) (_:∀i v H1,xs[i]?=some v→ax H H1→sp [v] H1 (KQ H1 (ws.getD i (0,(0,0)))) E0)
  (_:∀p H' D,xX xs.length p→Sd (kl ws) p xs.length→ax H H'→H D=none→H' D=none→Q (.ref D) (upd H' D (.lst (p.toList.map fun i=>xs.getD i .cO)))):E9 K sp x H Q
def Lg(K:Frag)(sp:Sp)(ta:TE):TE:=fun σ H Q=>ta σ H fun x H1=>E9 K sp x H1 Q
theorem E_{X:Cx}(K:Frag){cm:Bool}{k:Nat}{x:Str}{ps:List Str}{sp:Sp}{e:Expr}{ta:TE}{p pos kp fp:Pos}(D:bK X.prog X.w X.K X.mg X.base cm k x ps sp)(hr:eR cm (k+1) X.A)(he:PE X e ta)(hg:Gl X "sorted")(hm:X.mg "sorted"=none)
  (WN:Gl X x:=by rfl) (v8:(x==("__debug__":Str))=false:=by decide) (hs:starEach [e] X.env=[(false,eval e X.env)]:=by rfl) (hK:X.K=K:=by rfl):
  PE X (.Call (.Name "sorted" p) [e] [⟨some "key", .Name x fp,kp⟩] pos) (Lg K sp ta):=by
 subst hK;obtain⟨f,fd,ok,WO,hk,hb⟩:=D;intro pins s σ H Q I h;refine wpAny_Call_Name_kw (lh I hg hm (PyProof.Rows.Boot.«sorted») ?_ (Zy) (Zy));rw[hs];refine callWith_builtin_kwB (first:=[]) rfl rfl (evalArgs_kwB rfl ?_);refine Calls.spliced_cons ?_;show wpAny _ _ (eval e X.env) _ _ s;refine cK (he pins s σ H _ I h) fun v s1 ⟨y,H1,I1,r1,q1⟩=>Calls.spliced_nil ?_
 obtain⟨l,xs,ws,rfl,hq,hlen,nd,E2,oj,q⟩:=q1;cases r1;refine kws_cons ?_;show wpAny _ _ (eval (.Name x fp) X.env) _ _ s1;refine cK (vY (v:= .ref f) WN WO rfl v8 pins s1 σ H1 (fun y H2=>y= .ref f∧H2=H1) I1 ⟨rfl,rfl⟩) fun u s2 ⟨y,H2,I2,r2,e1,e2⟩=>?_
 subst e1 e2;cases r2;refine kws_nil ?_;exact Ap ok hr hb I2 hq hlen nd E2 oj q
end QF
namespace L2
open PySem PySem.Spec PyProof.Rows PySem.W PySem.Calls
def Ma(hi:Int)(n:Nat):It:=⟨fun i _=>i<n,fun i H x H'=>H'=H∧x= .int (hi-i),fun i _=>n≤i⟩
theorem CO{P:Program}{w:World}{K:PySem.W.Frag}{tg:Expr}(it:Addr)(hi:Int)(n:Nat):Turn P w K tg (Ma hi n) [it] it (fun i h=>IsRangeIter h it (hi+(i:Nat)*(-1)) ((n:Int)-(i:Nat)) (-1)) where
 mem:=ZA
 obj:=fun i h st b hb=>by
  have e:b=it:=by simpa using hb
  subst e;exact⟨_,st,fun v z=>by
   have z':Data.fields _=Data.cell v:=z;cases z'⟩
 keep:=fun i h h' st k=>k it (ZA) _ st
 item:=by
  intro X hP hw hK hc i pins s σ H E I hf st hg;subst hP hw hK;obtain⟨f0,f1,f2,f3,f4,f5⟩:=hf it (ZA);have W:=Walks.range (prog:=X.prog) (w:=X.w) (I.ok.hd hc) it hi (-1) n;refine W.item i s _ _ hg st fun v h' tk hv aU kk=>?_
  obtain⟨t,rfl⟩:=hv;have I1:Inv X pins σ H {s with heap:=h',toks:=tk}:=I.turned (fun b o hb e=>kk b o (by simpa using hb) e) f0 f1 f3 f4 f5;refine⟨_,rfl,yi (s:={s with heap:=h',toks:=tk}) (n:="range_iterator") aU rfl rfl (Zy) ⟨.int (hi-i),H,I1,⟨t,?_⟩,⟨rfl,rfl⟩,aU,fun b hb=>(hf b hb).1⟩⟩
  congr 1
  omega
 done:=by
  intro X hP hw hK hc i pins s σ H E I hf st hg;subst hP hw hK;obtain⟨f0,f1,f2,f3,f4,f5⟩:=hf it (ZA);exact wpAny_pyNext_range_end (I.ok.hd hc) st (by have:n≤i:=hg;omega) fun h' eb=>⟨rfl,I.turned (t':=s.toks) (fun b o hb e=>eb b o hb e) f0 f1 f3 f4 f5⟩
 self:=fun _ _ _ _ _ st h=>wpAny_pyIter_rangeiter st h
theorem rangeSize_down(a b:Int):Builtin.Range.rangeSize a b (-1)=if a>b then a-b else 0:=by
 unfold Builtin.Range.rangeSize;rw[if_neg (Zy)];split<;>simp
theorem small_down{a b:Int}(ha:-(2^62)≤a)(Oc:a<2^62)(hb:-(2^62)≤b)(L1:b<2^62):Builtin.Range.small a b (-1)=true:=by
 unfold Builtin.Range.small;rw[rangeSize_down];simp only[Builtin.Range.rangeFitsLong,Bool.and_eq_true,Bool.or_eq_true,decide_eq_true_eq,beq_iff_eq,show ¬(-1:Int)>0 by decide,if_false];split<;>omega
section
variable{X:Cx}{tg:Expr}
theorem Hk{pins:List (Addr×Obj)}{σ:L2.St}{H:Hp}{s:Shared}{R:It→Hp→Prop}{E:Value→Shared→Prop}{hi lo:Int}{t u v:Tok}{tk:Nat}(I:Inv X pins σ H s)(h1:-(2^62)≤hi)(h2:hi<2^62)(h3:-(2^62)≤lo)(h4:lo<2^62)
  (q:R (Ma hi (hi-lo).toNat) H):wpAny (model X.prog X.w) X.A (pyIter (.ref s.heap.objs.size)) (QR X pins σ tg R) E {s with heap:=s.heap.push {cls:= .type "range",data:= .fields #[.int hi t, .int lo u, .int (-1) v]},toks:=tk}:=by
 refine wpAny_pyIter_range (IsRange.new ..) (small_down h1 h2 h3 h4) ?_;have I1:Inv X pins σ H {s with heap:=s.heap.push {cls:= .type "range",data:= .fields #[.int hi t, .int lo u, .int (-1) v]},toks:=tk}:=I.kept fun b o e=>Zi e
 refine⟨(s.heap.push {cls:= .type "range",data:= .fields #[.int hi t, .int lo u, .int (-1) v]}).objs.size,[(s.heap.push {cls:= .type "range",data:= .fields #[.int hi t, .int lo u, .int (-1) v]}).objs.size],_,_,H,rfl,
  I1.kept (t':=tk) fun b o e=>Zi e,CO _ hi (hi-lo).toNat,?_,fun b hb=>?_,q⟩
 ·have e1:hi+((0:Nat):Int)*(-1)=hi:=ZA;have e2:(((hi-lo).toNat:Nat):Int)-((0:Nat):Int)=Builtin.Range.rangeSize hi lo (-1):=by rw[rangeSize_down];split<;>omega
  show IsRangeIter _ _ (hi+((0:Nat):Int)*(-1)) ((((hi-lo).toNat:Nat):Int)-((0:Nat):Int)) (-1);rw[e1,e2];exact Heap.get?_push_size _ rfl
 ·have e:b=(s.heap.push {cls:= .type "range",data:= .fields #[.int hi t, .int lo u, .int (-1) v]}).objs.size:=by simpa using hb
  subst e;exact I1.uy (Nat.le_refl _) (I1.bX.fresh (Nat.le_refl _))
def Oe(ta:TA):TI:=fun σ H R=>ta σ H fun vs H1=>∃i j:Int,vs=[.int i, .int j, .int (-1)]∧(-(2^30)≤i∧i<2^30∧-(2^30)≤j∧j<2^30)∧R (Ma i (i-j).toNat) H1
theorem vM{a b c:Expr}{ta:TA}{p pos:Pos}(hg:Gl X "range")(hm:X.mg "range"=none)(ha:PA X [a,b,c] ta)(hs:starEach [a,b,c] X.env=[(false,eval a X.env),(false,eval b X.env),(false,eval c X.env)]:=by rfl)(JT:starEach [b,c] X.env=[(false,eval b X.env),(false,eval c X.env)]:=by rfl):
  PI X tg (.Call (.Name "range" p) [a,b,c] [] pos) (Oe ta):=by
 intro pins s σ H R I h;refine Call_ (lh I hg hm boot_range (PyProof.Rows.callWith_type1 (cK (ha pos pins s σ H _ I h) fun us s1 ⟨vs,H1,I1,r1,q1⟩=>?_) (by rw[hs,JT]) (by rw[JT];rfl)));obtain⟨i,j,e,⟨q1,q2,q3,q4⟩,q⟩:=q1;subst e;cases r1 with
 |cons r rr=>
  cases rr with
  |cons r' rr=>
   cases rr with
   |cons r2 rr=>
    cases rr;obtain⟨t,rfl⟩:=r;obtain⟨t',rfl⟩:=r';obtain⟨t2,rfl⟩:=r2;exact call_range_3 (Zy) (Hk I1 Zt (Zx) (Zx) (Zx) q) (Or.inl (PyProof.noPylong_small Zt))
theorem yQ{hi:Int}{n:Nat}{g:TG}{tb:TS}{D:Ends}{σ:L2.St}{H:Hp}(Pv:Nat→L2.St→Hp→Prop)(h0:Pv 0 σ H)
  (hs:∀i σ H,i<n→Pv i σ H→g (.int (hi-i)) σ H fun fV H2=>tb {D with nx:=Pv (i+1),ct:=Pv (i+1),bk:=D.nx} fV H2) (hd:∀σ H,Pv n σ H→D.nx σ H):
  ∃W:Nat→Nat→L2.St→Hp→Prop,(∃m,W 0 m σ H)∧∀i m σ H,W i m σ H→
   ((Ma hi n).stop i H∧D.nx σ H)∨((Ma hi n).go i H∧∃N:L2.St→Hp→Prop,(∀bH H',N bH H'→∃m',m'<m∧W (i+1) m' bH H')∧∀x H',(Ma hi n).Gb i H x H'→g x σ H' fun fV H2=>tb {D with nx:=N,ct:=N,bk:=D.nx} fV H2):=by
 refine⟨fun i m σ H=>m=n-i∧i≤n∧Pv i σ H,⟨n,ZA,Nat.zero_le _,h0⟩,?_⟩;rintro i m σ H ⟨rfl,Bg,p⟩;by_cases h_:i<n
 ·refine .inr ⟨h_,Pv (i+1),fun bH H' p'=>⟨n-(i+1),Zx,rfl,h_,p'⟩,fun x H' y=>?_⟩;obtain⟨e,y⟩:=y;subst e y;exact hs i σ _ h_ p
 ·have e:i=n:=Zx;subst e;exact .inl ⟨Nat.le_refl _,hd σ H p⟩
end
theorem CP{d:Addr}{o:Obj}{kvs:List (List Key×V)}{ls:List Str}{js:List Nat}{g:TG}{tt:TT}{te:TE}{σ:L2.St}{H1:Hp}{D:Addr}{Q:VK}(Pv:Nat→List V→L2.St→Hp→Prop)
  (h0:Pv 0 [] (lu ls js σ) (upd H1 D (.lst []))) (hl:∀i ys σ H,i≤kvs.length→Pv i ys σ H→H d=some (.r9 o (.dT kvs)))
  (hs:∀i p ys σ H,kvs[i]?=some p→Pv i ys σ H→g p.2 σ H fun fV H3=>tt fV H3 fun b H4=>if b=true then te fV H4 fun y H5=>H5 D=some (.lst ys)∧ys.length<sizeLine∧Pv (i+1) (ys++[y]) fV (upd H5 D (.lst (ys++[y])))else Pv (i+1) ys fV H4)
  (hd:∀ys σ H,Pv kvs.length ys σ H→Q (.ref D) H):sO (RJ d o kvs) ls js g tt te σ H1 D Q:=
 oE (n:=kvs.length) Pv h0 (fun i ys σ H hi p=>⟨hl i ys σ H (Nat.le_of_lt hi) p,hi⟩) (fun ys σ H p=>⟨hl _ ys σ H (Nat.le_refl _) p,Nat.le_refl _⟩)
  (fun i ys σ H x H2 hi p y=>by
   obtain⟨rfl,q,hq,rfl⟩:=y;exact hs i q ys σ _ hq p) hd
theorem Fb{X:Cx}{cm:Bool}{k:Nat}{x:Str}{C:Addr}{ps:List Str}{l5:List V}{sp:Sp}{E:L2.St→XK}{p pos:Pos}(D:mO X.prog X.w X.K X.mg X.base cm k x C ps l5 sp)(hr:eR cm (k+1) X.A)(hx:Passes (cW X.prog X.w) X E)(hg:Gl X x:=by rfl)(v8:(x==("__debug__":Str))=false:=by decide):
  PE X (.Call (.Name x p) [] [] pos) (A_ C sp l5 E DP):=by
 obtain⟨f,fd,ds,ok,M,hm,hb,hd⟩:=D;exact DS M ok hr hg hm hb hd hx v8
end L2
namespace QF
open PySem L2
structure qv(H:Hp)(C x dx e b:Addr)(es bs:List Addr)(f:Nat→Nat→Option Int)(o p:Int)(n m:Nat):Prop where
 ob:H x=some (.ins C dx (gL o p e b))
 he:H e=some (.lst (es.map V.ref))
 te:i8 H es (dE f o p) n m
 hb:H b=some (.lst (bs.map V.ref))
 tb:i8 H bs (Bq f o p) (n+1) (m+1)
theorem qv.keep{H H':Hp}{C x dx e b:Addr}{es bs:List Addr}{f:Nat→Nat→Option Int}{o p:Int}{n m:Nat}(t:qv H C x dx e b es bs f o p n m)(s:ax H H'):qv H' C x dx e b es bs f o p n m:=
 ⟨s _ _ t.ob,s _ _ t.he,t.te.same s,s _ _ t.hb,t.tb.same s⟩
theorem Fe(o p:Int)(e b:Addr):(gL o p e b).lookup ("goes_on":Str)=none:=by kernel_rfl
theorem BK(o p:Int)(e b:Addr):(gL o p e b).lookup ("crossings_before":Str)=none:=by kernel_rfl
theorem IV(o p:Int)(e b:Addr):(gL o p e b).lookup ("is_brought_by":Str)=none:=by kernel_rfl
theorem Lh(o p:Int)(e b:Addr):(gL o p e b).lookup ("pair_before":Str)=none:=by kernel_rfl
theorem Of(o p:Int)(e b:Addr):(gL o p e b).lookup ("way_to":Str)=none:=by kernel_rfl
def gM:Option Int→Bool
 |none=>false
 |some b=>decide (0≤b)
def bq(f:Nat→Nat→Option Int)(o p:Int)(i j:Nat):List Pr:=
 (if bA (Bq f o p i (j+1)) o=Bq f o p (i+1) (j+1)then[((i:Int),((j+1:Nat):Int))]else[])++(if bA (Bq f o p (i+1) j) p=Bq f o p (i+1) (j+1)then[(((i+1:Nat):Int),(j:Int))]else[])
def cN(f:Nat→Nat→Option Int)(o p:Int):Nat→Nat→Nat×Nat
 |0,_=>(0,0)
 | _+1,0=>(0,0)
 |i+1,j+1=>if dE f o p i j=Bq f o p (i+1) (j+1)then(i,j)else if bA (Bq f o p i (j+1)) o=Bq f o p (i+1) (j+1)then cN f o p i (j+1)else cN f o p (i+1) j
termination_by i j=>(i,j)
theorem kx(f:Nat→Nat→Option Int)(o p:Int):∀i j,0<i→0<j→(cN f o p i j).1<i∧(cN f o p i j).2<j∨Bq f o p i j=none
 |0,_,h,_=>absurd h Zt
 | _+1,0,_,h=>absurd h Zt
 |i+1,j+1,_,_=>by
  cases hB:Bq f o p (i+1) (j+1)with
  |none=>exact .inr rfl
  |some v=>
   left
   unfold cN;by_cases h1:dE f o p i j=Bq f o p (i+1) (j+1)
   ·rw[Zk h1];exact⟨ZA,ZA⟩
   ·rw[Zh h1];by_cases h2:bA (Bq f o p i (j+1)) o=Bq f o p (i+1) (j+1)
    ·rw[Zk h2];have hn:Bq f o p i (j+1)≠none:=fun z=>by rw[z,hB]at h2;simp[bA]at h2
     have hi:0<i:=by
      cases i with
      |zero=>exact absurd (iG f o p (j+1)) hn
      |succ i=>omega
     rcases kx f o p i (j+1) hi Zt with z|z
     ·exact⟨Zx,z.2⟩
     ·exact absurd z hn
    ·rw[Zh h2];have hn:Bq f o p (i+1) j≠none:=fun z=>by
      have e:Bq f o p (i+1) (j+1)=oI [dE f o p i j,bA (Bq f o p i (j+1)) o,bA (Bq f o p (i+1) j) p]:=by
       rw[Bq];rfl
      rw[z]at e;have:bA none p=(none:Option Int):=rfl;rw[this]at e;have key:∀a b:Option Int,oI [a,b,none]=a∨oI [a,b,none]=b:=fun a b=>by
       cases a<;>cases b<;>simp[oI]
       rename_i x y
       by_cases Aj:x≤y
       ·right;omega
       ·left;omega
      rcases key (dE f o p i j) (bA (Bq f o p i (j+1)) o)with k|k
      ·exact h1 (by rw[e,k])
      ·exact h2 (by rw[e,k])
     have hj:0<j:=by
      cases j with
      |zero=>exact absurd (by unfold Bq;rfl) hn
      |succ j=>omega
     rcases kx f o p (i+1) j Zt hj with z|z
     ·exact⟨z.1,Zx⟩
     ·exact absurd z hn
termination_by i j=>(i,j)
def eI(f:Nat→Nat→Option Int)(o p:Int):Nat→Nat→Nat→List (Nat×Nat)
 |0,i,j=>[(i,j)]
 |k+1,i,j=>if gM (Bq f o p i j)=true then eI f o p k (cN f o p i j).1 (cN f o p i j).2++[(i,j)]else[(i,j)]
def aR(q:Nat×Nat):Pr:=((q.1:Int),(q.2:Int))
inductive qw(C CT:Addr)(vs:List V)(H:Hp)(Q:VK)(u3:XK):Prop
 |mk (x dx w t:Addr) (c:Case) (as:List Addr) (f:Nat→Nat→Option Int) (n m:Nat) (_:vs=[.ref x, .ref w, .ref t]) (_:H x=some (.ins C dx [])) (_:H dx=some (.own x)) (_:H w=some (.lst (as.map V.ref))) (_:i8 H as f n m) (_:wM H CT t c) (_:n≤1000) (_:m≤1000) (_:∀H' e b,SameBut x H H'→H' x=some (.ins C dx (gL c.out c.into e b))→Tab H H' e (dE f c.out c.into) n m→(0<n→Tab H H' b (Bq f c.out c.into) (n+1) (m+1))→Q .cO H'):qw C CT vs H Q u3
inductive w6(C:Addr)(vs:List V)(H:Hp)(Q:VK)(u3:XK):Prop
 |mk (x dx e b:Addr) (es bs:List Addr) (f:Nat→Nat→Option Int) (o p:Int) (n m:Nat) (pr:Addr) (i j:Nat) (_:vs=[.ref x, .ref pr]) (_:qv H C x dx e b es bs f o p n m) (_:H pr=some (.tup [.int i, .int j])) (_:i≤n) (_:j≤m) (_:Q (.bl (gM (Bq f o p i j))) H):w6 C vs H Q u3
inductive Aq(C:Addr)(vs:List V)(H:Hp)(Q:VK)(u3:XK):Prop
 |mk (x dx e b:Addr) (es bs:List Addr) (f:Nat→Nat→Option Int) (o p:Int) (n m:Nat) (cr pr:Addr) (i j k l:Nat) (_:vs=[.ref x, .ref cr, .ref pr]) (_:qv H C x dx e b es bs f o p n m) (_:H cr=some (.tup [.int i, .int j])) (_:H pr=some (.tup [.int k, .int l])) (_:i≤n) (_:j≤m) (_:k<n) (_:l<m) (_:Q (.bl (decide (dE f o p k l=Bq f o p i j))) H):Aq C vs H Q u3
inductive tw(C:Addr)(vs:List V)(H:Hp)(Q:VK)(u3:XK):Prop
 |mk (x dx e b:Addr) (es bs:List Addr) (f:Nat→Nat→Option Int) (o p:Int) (n m:Nat) (cr:Addr) (i j:Nat) (_:vs=[.ref x, .ref cr]) (_:qv H C x dx e b es bs f o p n m) (_:H cr=some (.tup [.int ((i+1:Nat):Int), .int ((j+1:Nat):Int)])) (_:i<n) (_:j<m) (_:∀H' r us,ax H H'→H r=none→H' r=some (.lst us)→f7 H' us (bq f o p i j)→Q (.ref r) H'):tw C vs H Q u3
inductive w8(C:Addr)(vs:List V)(H:Hp)(Q:VK)(u3:XK):Prop
 |mk (x dx e b:Addr) (es bs:List Addr) (f:Nat→Nat→Option Int) (o p:Int) (n m:Nat) (pr:Addr) (i j:Nat) (_:vs=[.ref x, .ref pr]) (_:qv H C x dx e b es bs f o p n m) (_:H pr=some (.tup [.int i, .int j])) (_:i≤n) (_:j≤m) (_:Bq f o p i j≠none) (_:∀H' r,ax H H'→H' r=some (.tup (jo (aR (cN f o p i j))))→Q (.ref r) H'):w8 C vs H Q u3
inductive As(C:Addr)(vs:List V)(H:Hp)(Q:VK)(u3:XK):Prop
 |mk (x dx e b:Addr) (es bs:List Addr) (f:Nat→Nat→Option Int) (o p:Int) (n m:Nat) (pr:Addr) (i j:Nat) (_:vs=[.ref x, .ref pr]) (_:qv H C x dx e b es bs f o p n m) (_:H pr=some (.tup [.int i, .int j])) (_:i<n) (_:j<m) (_:n≤1000) (_:∀H' r us,ax H H'→H r=none→H' r=some (.lst us)→f7 H' us ((eI f o p i i j).map aR)→Q (.ref r) H'):As C vs H Q u3
theorem WQ(a b:Option Int):oI [a,b,none]=a∨oI [a,b,none]=b:=by
 cases a<;>cases b<;>simp[oI]
 rename_i x y
 by_cases Aj:x≤y
 ·right;omega
 ·left;omega
theorem yR{f:Nat→Nat→Option Int}{o p:Int}{i j:Nat}(hB:Bq f o p (i+1) (j+1)≠none)(h1:dE f o p i j≠Bq f o p (i+1) (j+1)):
  ∃i2 j2,(bq f o p i j)[0]?=some (aR (i2+1,j2+1))∧i2≤i∧j2≤j∧i2+j2<i+j∧Bq f o p (i2+1) (j2+1)≠none∧cN f o p (i2+1) (j2+1)=cN f o p (i+1) (j+1):=by
 by_cases h2:bA (Bq f o p i (j+1)) o=Bq f o p (i+1) (j+1)
 ·have hn:Bq f o p i (j+1)≠none:=fun z=>by rw[z]at h2;exact hB h2.symm
  cases i with
  |zero=>exact absurd (iG f o p (j+1)) hn
  |succ i=>
   refine⟨i,j,?_,by lia,by lia,by lia,hn,?_⟩
   ·unfold bq;rw[Zk h2];rfl
   ·conv=>rhs;unfold cN
    rw[Zh h1,Zk h2]
 ·have hn:Bq f o p (i+1) j≠none:=fun z=>by
   have e:Bq f o p (i+1) (j+1)=oI [dE f o p i j,bA (Bq f o p i (j+1)) o,bA (Bq f o p (i+1) j) p]:=by rw[Bq];rfl
   rw[z,show bA none p=(none:Option Int)from rfl]at e;rcases WQ (dE f o p i j) (bA (Bq f o p i (j+1)) o)with k|k
   ·exact h1 (by rw[e,k])
   ·exact h2 (by rw[e,k])
  have h3:bA (Bq f o p (i+1) j) p=Bq f o p (i+1) (j+1):=by
   have e:Bq f o p (i+1) (j+1)=oI [dE f o p i j,bA (Bq f o p i (j+1)) o,bA (Bq f o p (i+1) j) p]:=by rw[Bq];rfl
   have key:∀a b c:Option Int,oI [a,b,c]≠a→oI [a,b,c]≠b→c=oI [a,b,c]:=fun a b c=>by
    cases a<;>cases b<;>cases c<;>simp[oI]<;>lia
   rw[e];exact key _ _ _ (fun z=>h1 (by rw[e];exact z.symm)) (fun z=>h2 (by rw[e];exact z.symm))
  cases j with
  |zero=>exact absurd (by unfold Bq;rfl) hn
  |succ j=>
   refine⟨i,j,?_,by lia,by lia,by lia,hn,?_⟩
   ·unfold bq;rw[Zh h2,Zk h3];rfl
   ·conv=>rhs;unfold cN
    rw[Zh h1,Zh h2]
theorem j7{f:Nat→Nat→Option Int}{o p:Int}{i j:Nat}(h:gM (Bq f o p i j)=true):0<i∧0<j∧Bq f o p i j≠none:=by
 have hn:Bq f o p i j≠none:=fun z=>by rw[z]at h;cases h
 refine⟨?_,?_,hn⟩
 ·cases i with
  |zero=>exact absurd (iG f o p j) hn
  |succ i=>omega
 ·cases j with
  |zero=>cases i with
   |zero=>exact absurd (iG f o p 0) hn
   |succ i=>exact absurd (by unfold Bq;rfl) hn
  |succ j=>omega
theorem gQ{f:Nat→Nat→Option Int}{o p:Int}{i j:Nat}(h:¬gM (Bq f o p i j)=true):∀k,eI f o p k i j=[(i,j)]
 |0=>rfl
 |k+1=>by rw[eI,Zh h]
theorem CQ(f:Nat→Nat→Option Int)(o p:Int)(i:Nat):∀k k' j,i≤k→i≤k'→eI f o p k i j=eI f o p k' i j:=by
 induction i using Nat.strongRecOn with
 |ind i ih=>
  intro k k' j h h';by_cases hg:gM (Bq f o p i j)=true
  ·obtain⟨a,b,c⟩:=j7 hg;have hl:=(kx f o p i j a b).resolve_right c;obtain⟨k,rfl⟩:∃k1,k=k1+1:=⟨k-1,Zx⟩
   obtain⟨k',rfl⟩:∃k1,k'=k1+1:=⟨k'-1,Zx⟩
   rw[eI,eI,Zk hg,Zk hg,ih _ hl.1 k k' _ (Zx) (Zx)]
  ·rw[gQ hg,gQ hg]
theorem vN{f:Nat→Nat→Option Int}{o p:Int}{i j:Nat}(h:gM (Bq f o p i j)=true):eI f o p i i j=eI f o p (cN f o p i j).1 (cN f o p i j).1 (cN f o p i j).2++[(i,j)]:=by
 obtain⟨a,b,c⟩:=j7 h;have hl:=(kx f o p i j a b).resolve_right c;obtain⟨i,rfl⟩:∃k1,i=k1+1:=⟨i-1,Zx⟩
 rw[eI,Zk h,CQ f o p _ i _ _ (Zx) (Nat.le_refl _)]
structure IW(K:W.Frag)(C:Addr):Prop where
 cl:v7 K C
 worth:bZ K C "worth"
 way:bZ K C "way"
 row:bZ K C "row"
 pairs:bZ K C "pairs"
def lE(w:Int)(a r p:Addr):List (Str×V):=[("worth", .int w),("way", .ref a),("row", .ref r),("pairs", .ref p)]
theorem oP(w:Int)(a r p:Addr):(lE w a r p).lookup ("worth":Str)=some (V.int w):=by kernel_rfl
theorem ky(w:Int)(a r p:Addr):(lE w a r p).lookup ("way":Str)=some (V.ref a):=by kernel_rfl
theorem tD(w:Int)(a r p:Addr):(lE w a r p).lookup ("row":Str)=some (V.ref r):=by kernel_rfl
theorem fF(w:Int)(a r p:Addr):(lE w a r p).lookup ("pairs":Str)=some (V.ref p):=by kernel_rfl
theorem Li(w:Int)(a r p:Addr):bp "pairs" (.ref p) (bp "row" (.ref r) (bp "way" (.ref a) (bp "worth" (.int w) [])))=lE w a r p:=by kernel_rfl
inductive tE(C:Addr)(vs:List V)(H:Hp)(Q:VK)(u3:XK):Prop
 |mk (x dx a r p:Addr) (w:Int) (_:vs=[.ref x, .int w, .ref a, .ref r, .ref p]) (_:H x=some (.ins C dx [])) (_:Q .cO (upd H x (.ins C dx (lE w a r p)))):tE C vs H Q u3
inductive tF(C:Addr)(vs:List V)(H:Hp)(Q:VK)(u3:XK):Prop
 |mk (x dx a r p:Addr) (w:Int) (us:List V) (ps:List Pr) (_:vs=[.ref x]) (_:H x=some (.ins C dx (lE w a r p))) (_:H p=some (.lst us)) (_:f7 H us ps) (_:ps≠[]) (_:∀H' k t,ax H H'→H' k=some (.tup [.int (-w), .ref t])→H' t=some (.tup [.int (mC ps).1, .int (mC ps).2])→Q (.ref k) H'):tF C vs H Q u3
inductive Au(C CF:Addr)(vs:List V)(H:Hp)(Q:VK)(u3:XK):Prop
 |mk (x dx e b:Addr) (es bs:List Addr) (f:Nat→Nat→Option Int) (o p:Int) (n m:Nat) (w:Int) (pr:Addr) (us:List V) (ps:List (Nat×Nat)) (q0:Nat×Nat) (_:vs=[.ref x, .int w, .ref pr]) (_:qv H C x dx e b es bs f o p n m) (_:H pr=some (.lst us)) (_:f7 H us (ps.map aR)) (_:∀q∈ps,q.1<n∧q.2<m) (_:(ps.filter fun q=>decide (dE f o p q.1 q.2=some w))[0]?=some q0) (_:n≤1000) (_:ps.length≤5000)
  (_:∀H' y dy wy rw gY,ax H H'→H y=none→H dy=none→H wy=none→H rw=none→H' y=some (.ins CF dy (lE w wy rw pr))→H' dy=some (.own y)→H' wy=some (.lst gY)→f7 H' gY ((eI f o p q0.1 q0.1 q0.2).map aR)→H' rw=some (.lst ((eI f o p q0.1 q0.1 q0.2).map fun q=>bB (dE f o p q.1 q.2)))→Q (.ref y) H'):Au C CF vs H Q u3
theorem BL{f:Nat→Nat→Option Int}{o p:Int}{n m:Nat}:∀k i j,i<n→j<m→∀q∈eI f o p k i j,q.1<n∧q.2<m
 |0,i,j,hi,hj,q,hq=>by
  have:q=(i,j):=by simpa[eI]using hq
  subst this;exact⟨hi,hj⟩
 |k+1,i,j,hi,hj,q,hq=>by
  by_cases h:gM (Bq f o p i j)=true
  ·rw[eI,Zk h]at hq;obtain⟨a,b,c⟩:=j7 h;have hl:=(kx f o p i j a b).resolve_right c;rcases List.mem_append.mp hq with z|z
   ·exact BL k _ _ (Zx) (Zx) q z
   ·have:q=(i,j):=by simpa using z
    subst this;exact⟨hi,hj⟩
  ·rw[gQ h]at hq;have:q=(i,j):=by simpa using hq
   subst this;exact⟨hi,hj⟩
theorem yS{f:Nat→Nat→Option Int}{o p:Int}:∀k i j,(eI f o p k i j).length≤k+1
 |0,i,j=>by simp[eI]
 |k+1,i,j=>by
  by_cases h:gM (Bq f o p i j)=true
  ·rw[eI,Zk h,List.length_append];have:=yS (f:=f) (o:=o) (p:=p) k (cN f o p i j).1 (cN f o p i j).2;simp;omega
  ·rw[gQ h];simp
end QF
namespace L2
open PySem PySem.Spec PyProof.Rows PySem.W PySem.Calls
section
variable{X:Cx}
inductive Hl(K:Frag)(x:V)(y:V)(H:Hp)(Q:VK):Prop
 |mk (p q:Addr) (xs ys:List V) (_:x= .ref p) (_:y= .ref q) (_:DG K H p xs) (_:DG K H q ys) (_:xs.all rh=true) (_:ys.all rh=true) (_:Q (.bl (!uA xs ys)) H):Hl K x y H Q
theorem CS(K:Frag)(hu:X.A.units<cLine)(hK:X.K=K:=by rfl):rJ X (compareOp .NotEq) (Hl K):=by
 subst hK;intro pins s σ H x y v u Q I rx ry h;obtain⟨p,q,xs,ys,rfl,rfl,hp,hq,f1,f2,k⟩:=h;cases rx;cases ry;obtain⟨its,r,pl,hz⟩:=I.tuple hp;obtain⟨fD,r2,Kl,NP⟩:=I.tuple hq;have he:=yB (A:=X.A.in1) (s:=s) r r2 f1 f2;obtain⟨⟨cls,dd,data,sl⟩,ho,hc,n,hd⟩:=id pl;obtain⟨⟨NQ,Ep,data2,xW⟩,ZC,wu,n2,hd2⟩:=id Kl;simp only at hc hd wu hd2;subst hc hd wu hd2;refine richCompare_meets_room (op:= .NotEq) ⟨_,ho,rfl⟩ ⟨_,ZC,rfl⟩ F.slot_tuple_ne F.entry_tuple_ne (F.args_tuple_ne_2 _ _) (SeqAt.tuple_neAt p q its.toArray fD.toArray n n2 dd Ep sl xW _) ⟨ho,ZC,he,?_⟩ hu;have e:(!((List.range (min its.toArray.size fD.toArray.size)).all (fun j=>we (xs.getD j .cO) (ys.getD j .cO))&&its.toArray.size==fD.toArray.size))=!uA xs ys:=by
  rw[←nh,r.length,r2.length];simp
 rw[e];exact⟨(fun x=>nomatch x), .bl (!uA xs ys),H,I,rfl,k⟩
end
end L2
namespace QF
open PySem L2
theorem dj{p q:Pr}(h:a9 p=a9 q):p=q:=by
 simp only[a9,List.cons.injEq,Sum.inl.injEq,and_true]at h;exact Prod.ext h.1 h.2
theorem len_sub{α:Type}[DecidableEq α]:∀(l m:List α),l.Nodup→(∀x∈l,x∈m)→l.length≤m.length
 |[],m,_,_=>ZA
 |x::r,m,hn,h=>by
  have DF:=List.nodup_cons.mp hn;have hx:=h x (ZA);have:=len_sub r (m.erase x) DF.2 fun y hy=>(List.mem_erase_of_ne (fun e:y=x=>DF.1 (by rw[←e];exact hy))).mpr (h y (by simp[hy]))
  rw[List.length_erase_of_mem hx]at this;have:=List.length_pos_of_mem hx;simp;omega
def IX(E:Pr→Pr→Prop)(p:Pr):Pr→Pr→Prop:=fun a b=>E a b∨(a=p∧b=p)
def qx(E:Pr→Pr→Prop)(p q:Pr):Pr→Pr→Prop:=fun a b=>E a b∨((E a p∨E a q)∧(E b p∨E b q))
theorem CU{E:Pr→Pr→Prop}{p q a b:Pr}:qx E p q a b↔qx E q p a b:=by
 unfold qx;rw[or_comm (a:=E a p),or_comm (a:=E b p)]
structure oQ(S:Addr→Prop)(H:Hp)(S':Addr→Prop)(H':Hp):Prop where
 grow:∀a,S' a→S a∨H a=none
 keep:∀a o,¬S a→H a=some o→H' a=some o
theorem oQ.trans{S S' P6:Addr→Prop}{H H' Lj:Hp}(a:oQ S H S' H')(b:oQ S' H' P6 Lj):oQ S H P6 Lj:=by
 refine⟨fun x hx=>?_,fun x o hs hx=>b.keep x o (fun z=>?_) (a.keep x o hs hx)⟩
 ·rcases b.grow x hx with h|h
  ·exact a.grow x h
  ·by_cases hs:S x
   ·exact .inl hs
   ·right
    cases e:H x with
    |none=>rfl
    |some o=>rw[a.keep x o hs e]at h;cases h
 ·rcases a.grow x z with h|h
  ·exact hs h
  ·rw[hx]at h;cases h
theorem oQ.same{S:Addr→Prop}{H H':Hp}(s:ax H H'):oQ S H S H':=⟨fun _ h=> .inl h,fun a o _ h=>s a o h⟩
theorem oQ.put{S:Addr→Prop}{H:Hp}{a:Addr}{o:HO}(h:S a):oQ S H S (upd H a o):=⟨fun _ h=> .inl h,fun b u hb e=>by rw[ao (fun z:b=a=>hb (by rw[z];exact h))];exact e⟩
structure Og(K:W.Frag)(C:Addr):Prop where
 cl:v7 K C
 oR:bZ K C "leads"
 members:bZ K C "members"
def rk(dl dm:Addr):List (Str×V):=[("leads", .ref dl),("members", .ref dm)]
theorem jr(a b:Addr):(rk a b).lookup ("leads":Str)=some (V.ref a):=by kernel_rfl
theorem iT(a b:Addr):(rk a b).lookup ("members":Str)=some (V.ref b):=by kernel_rfl
theorem Oh(a b:Addr):bp "members" (.ref b) (bp "leads" (.ref a) [])=rk a b:=by kernel_rfl
theorem Oi(a b:Addr):(rk a b).lookup ("has":Str)=none:=by kernel_rfl
theorem Ff(a b:Addr):(rk a b).lookup ("take_in":Str)=none:=by kernel_rfl
theorem BM(a b:Addr):(rk a b).lookup ("unite":Str)=none:=by kernel_rfl
theorem Ll(a b:Addr):(rk a b).lookup ("told":Str)=none:=by kernel_rfl
def Lm(H:Hp)(v:Option V):Option Pr→Prop
 |none=>v=none
 |some l=>∃t,v=some (.ref t)∧H t=some (.tup (jo l))
def R9(H:Hp)(S:Addr→Prop)(v:Option V):Option (List Pr)→Prop
 |none=>v=none
 |some ms=>∃a us,v=some (.ref a)∧H a=some (.lst us)∧f7 H us ms∧S a
theorem Lm.cI{H H':Hp}{v:Option V}{o:Option Pr}(h:Lm H v o)(t:e6 H H'):Lm H' v o:=by
 cases o with
 |none=>exact h
 |some l=>obtain⟨a,h1,h2⟩:=h;exact⟨a,h1,t _ _ h2⟩
structure Dx(H:Hp)(S:Addr→Prop)(dl dm:Addr)(kl km:List (List Key×V))(ld:Pr→Option Pr)(mm:Pr→Option (List Pr)):Prop where
 hl:H dl=some (.dT kl)
 hm:H dm=some (.dT km)
 sl:S dl
 sm:S dm
 ne:dl≠dm
 lv:∀p,Lm H (bu kl (a9 p)) (ld p)
 mv:∀p,R9 H S (bu km (a9 p)) (mm p)
 inj:∀p q a,bu km (a9 p)=some (.ref a)→bu km (a9 q)=some (.ref a)→p=q
 key:∀kv∈km,∃p,kv.1=a9 p
 BN:(km.map (·.1)).Nodup
 ms:∀l ms,mm l=some ms→ms.Nodup∧∀p,p∈ms↔ld p=some l
 ml:∀p l,ld p=some l→∃ms,mm l=some ms
 self:∀l ms,mm l=some ms→ld l=some l
theorem Dx.keep{H H':Hp}{S:Addr→Prop}{dl dm:Addr}{kl km:List (List Key×V)}{ld:Pr→Option Pr}{mm:Pr→Option (List Pr)}(d:Dx H S dl dm kl km ld mm)(h:∀a o,S a→H a=some o→H' a=some o)(t:e6 H H'):Dx H' S dl dm kl km ld mm:=by
 refine⟨h _ _ d.sl d.hl,h _ _ d.sm d.hm,d.sl,d.sm,d.ne,fun p=>(d.lv p).cI t,fun p=>?_,d.inj,d.key,d.BN,d.ms,d.ml,d.self⟩;have:=d.mv p;cases e:mm p with
 |none=>rw[e]at this;exact this
 |some ms=>
  rw[e]at this;obtain⟨a,us,h1,h2,h3,h4⟩:=this;exact⟨a,us,h1,h _ _ h4 h2,h3.cI t,h4⟩
theorem Dx.vx{H:Hp}{S:Addr→Prop}{dl dm:Addr}{kl km:List (List Key×V)}{ld:Pr→Option Pr}{mm:Pr→Option (List Pr)}(d:Dx H S dl dm kl km ld mm){ms:List Pr}(hn:ms.Nodup)(h:∀p∈ms,∃l,ld p=some l):ms.length≤kl.length:=by
 have:=len_sub (ms.map a9) (kl.map (·.1)) (List.Pairwise.map _ (fun a b Fg z=>Fg (dj z)) hn) fun k hk=>by
  obtain⟨p,hp,rfl⟩:=List.mem_map.mp hk;obtain⟨l,hl⟩:=h p hp;have:=d.lv p;rw[hl]at this;obtain⟨t,h1,_⟩:=this;exact Be h1
 simpa using this
theorem Dx.take{H H':Hp}{S:Addr→Prop}{dl dm a t:Addr}{kl km:List (List Key×V)}{ld:Pr→Option Pr}{mm:Pr→Option (List Pr)}{p:Pr}(d:Dx H S dl dm kl km ld mm)(hn:ld p=none)(ht:H t=some (.tup (jo p)))(ha:H a=none)
  (h1:H' dl=some (.dT (putK kl (a9 p) (.ref t)))) (h2:H' dm=some (.dT (putK km (a9 p) (.ref a)))) (h3:H' a=some (.lst [.ref t])) (hk:∀b o,b≠dl→b≠dm→H b=some o→H' b=some o):
  Dx H' (fun x=>S x∨x=a) dl dm (putK kl (a9 p) (.ref t)) (putK km (a9 p) (.ref a)) (fun q=>if q=p then some p else ld q) (fun q=>if q=p then some [p]else mm q):=by
 have T:e6 H H':=fun b v hb=>hk b _ (fun z=>by rw[z,d.hl]at hb;cases hb) (fun z=>by rw[z,d.hm]at hb;cases hb) hb
 have Uy:mm p=none:=by
  cases e:mm p with
  |none=>rfl
  |some ms=>have:=d.self p ms e;rw[hn]at this;cases this
 have Fh:bu km (a9 p)=none:=by have:=d.mv p;rw[Uy]at this;exact this
 have Oj:∀q b,bu km (a9 q)=some (.ref b)→b≠a:=fun q b hq z=>by
  have:=d.mv q;cases e:mm q with
  |none=>rw[e]at this;have:bu km (a9 q)=none:=this;rw[this]at hq;cases hq
  |some ms=>
   rw[e]at this;obtain⟨a',us,e1,e2,_⟩:=this;rw[hq]at e1;cases e1;rw[z,ha]at e2;cases e2
 refine⟨h1,h2, .inl d.sl, .inl d.sm,d.ne,fun q=>?_,fun q=>?_,fun q r b hq hr=>?_,fun kv P7=>?_,?_,fun l ms hl=>?_,fun q l hq=>?_,fun l ms hl=>?_⟩
 ·rw[iY];by_cases e:q=p
  ·rw[Zk (by rw[e]),Zk e];exact⟨t,rfl,T _ _ ht⟩
  ·rw[Zh (fun z=>e (dj z)),Zh e];exact(d.lv q).cI T
 ·show R9 _ _ _ (if q=p then some [p]else mm q);rw[iY];by_cases e:q=p
  ·rw[Zk (by rw[e]),Zk e];exact⟨a,_,rfl,h3,f7.one (T _ _ ht), .inr rfl⟩
  ·rw[Zh (fun z=>e (dj z)),Zh e];have:=d.mv q;cases e2:mm q with
   |none=>rw[e2]at this;exact this
   |some ms=>
    rw[e2]at this;obtain⟨b,us,z1,z2,z3,z4⟩:=this;exact⟨b,us,z1,hk b _ (fun z=>by rw[z,d.hl]at z2;cases z2) (fun z=>by rw[z,d.hm]at z2;cases z2) z2,z3.cI T, .inl z4⟩
 ·rw[iY]at hq hr;by_cases e:q=p
  ·by_cases e2:r=p
   ·rw[e,e2]
   ·rw[Zk (by rw[e])]at hq;rw[Zh (fun z=>e2 (dj z))]at hr;cases hq;exact absurd rfl (Oj r _ hr)
  ·rw[Zh (fun z=>e (dj z))]at hq;by_cases e2:r=p
   ·rw[Zk (by rw[e2])]at hr;cases hr;exact absurd rfl (Oj q _ hq)
   ·rw[Zh (fun z=>e2 (dj z))]at hr;exact d.inj q r b hq hr
 ·rw[sJ _ Fh]at P7;rcases List.mem_append.mp P7 with z|z
  ·exact d.key kv z
  ·exact⟨p,by rw[List.mem_singleton.mp z]⟩
 ·rw[sJ _ Fh,List.map_append];refine List.nodup_append.mpr ⟨d.BN,ZA,fun x hx y hy e=>?_⟩;have hy:y=a9 p:=by simpa using hy
  rw[e,hy]at hx;exact yv Fh hx
 ·have hl:(if l=p then some [p]else mm l)=some ms:=hl;by_cases e:l=p
  ·rw[Zk e]at hl;cases hl;refine⟨ZA,fun q=>?_⟩;rw[List.mem_singleton];show q=p↔(if q=p then some p else ld q)=some l;by_cases e2:q=p
   ·rw[Zk e2,e];simp[e2]
   ·rw[Zh e2];refine⟨fun z=>absurd z e2,fun z=>?_⟩;obtain⟨ms,Dy⟩:=d.ml q l z;rw[e,Uy]at Dy;cases Dy
  ·rw[Zh e]at hl;obtain⟨z1,z2⟩:=d.ms l ms hl;refine⟨z1,fun q=>?_⟩;rw[z2];show ld q=some l↔(if q=p then some p else ld q)=some l;by_cases e2:q=p
   ·rw[Zk e2,e2,hn];refine⟨fun z=>(by cases z),fun z=>absurd (Zp z).symm e⟩
   ·rw[Zh e2]
 ·have hq:(if q=p then some p else ld q)=some l:=hq;show ∃ms,(if l=p then some [p]else mm l)=some ms;by_cases e:l=p
  ·exact⟨[p],Zk e⟩
  ·rw[Zh e];by_cases e2:q=p
   ·rw[Zk e2]at hq;exact absurd (Zp hq).symm e
   ·rw[Zh e2]at hq;exact d.ml q l hq
 ·have hl:(if l=p then some [p]else mm l)=some ms:=hl;show(if l=p then some p else ld l)=some l;by_cases e:l=p
  ·rw[Zk e,e]
  ·rw[Zh e]at hl⊢;exact d.self l ms hl
theorem BO{κ:Type}[DecidableEq κ]{k:κ}{v:V}:∀{kvs:List (κ×V)}{i:Nat},(kvs.map (·.1)).Nodup→kvs[i]?=some (k,v)→bu kvs k=some v
 |[],i,_,h=>by simp at h
 |p::r,0,_,h=>by
  have h:p=(k,v):=by simpa using h
  subst h;exact cJ rfl
 |p::r,i+1,hn,h=>by
  have DF:=List.nodup_cons.mp (show(p.1::r.map (·.1)).Nodup from hn);have h:r[i]?=some (k,v):=by simpa using h
  rw[cy (fun e=>DF.1 (by rw[e];exact List.mem_map.mpr ⟨_,Ze h,rfl⟩))];exact BO DF.2 h
theorem yT{κ:Type}[DecidableEq κ]{k:κ}{v:V}:∀{kvs:List (κ×V)},bu kvs k=some v→∃i:Nat,kvs[i]?=some (k,v)
 |[],h=>by cases h
 |p::r,h=>by
  by_cases e:p.1=k
  ·rw[cJ e]at h;exact⟨0,by simp;exact Prod.ext e (Zp h)⟩
  ·rw[cy e]at h;obtain⟨i,hi⟩:=yT h;exact⟨i+1,by simpa using hi⟩
theorem ma{κ:Type}[DecidableEq κ](k j:κ):∀kvs:List (κ×V),bu (iX kvs k) j=if j=k then none else bu kvs j
 |[]=>by simp[iX,bu]
 |p::r=>by
  have ih:=ma k j r;unfold iX at ih⊢;rw[List.filter_cons];by_cases e:p.1=k
  ·rw[Zh (by simpa using e),ih];by_cases e2:j=k
   ·rw[Zk e2,Zk e2]
   ·rw[Zh e2,Zh e2,cy (fun z=>e2 (z.symm.trans e))]
  ·rw[Zk (by simpa using e)];by_cases e2:p.1=j
   ·rw[cJ e2,Zh (fun z=>e (e2.trans z)),cJ e2]
   ·rw[cy e2,ih,cy e2]
theorem Dx.Ol{H H':Hp}{S:Addr→Prop}{dl dm al tl:Addr}{kl uB km:List (List Key×V)}{ld:Pr→Option Pr}{mm:Pr→Option (List Pr)}{l g:Pr}{m1 m2:List Pr}{jt gY:List V}(d:Dx H S dl dm kl km ld mm)(BP:l≠g)(h1:mm l=some m1)(h2:mm g=some m2)(BQ:bu km (a9 l)=some (.ref al))(P1:f7 H jt m1)(P2:f7 H gY m2)(Nn:H al=some (.lst jt))(yU:H tl=some (.tup (jo l)))
  (R_:∀r,bu uB (a9 r)=if r∈m2 then some (.ref tl)else bu kl (a9 r)) (e1:H' dl=some (.dT uB)) (e2:H' dm=some (.dT (iX km (a9 g)))) (e3:H' al=some (.lst (jt++gY))) (hk:∀b o,b≠dl→b≠dm→b≠al→H b=some o→H' b=some o):
  Dx H' S dl dm uB (iX km (a9 g)) (fun r=>if r∈m2 then some l else ld r) (fun r=>if r=g then none else if r=l then some (m1++m2)else mm r):=by
 have T:e6 H H':=fun b v hb=>hk b _ (fun z=>by rw[z,d.hl]at hb;cases hb) (fun z=>by rw[z,d.hm]at hb;cases hb) (fun z=>by rw[z,Nn]at hb;cases hb) hb
 obtain⟨n1,q1⟩:=d.ms l m1 h1;obtain⟨n2,q2⟩:=d.ms g m2 h2;refine⟨e1,e2,d.sl,d.sm,d.ne,fun r=>?_,fun r=>?_,fun p q a hp hq=>?_,fun kv P7=>d.key kv (List.mem_filter.mp P7).1,d.BN.sublist (List.filter_sublist.map _),fun x ms hx=>?_,fun p x hp=>?_,fun x ms hx=>?_⟩
 ·show Lm H' _ (if r∈m2 then some l else ld r);rw[R_];by_cases e:r∈m2
  ·rw[Zk e,Zk e];exact⟨tl,rfl,T _ _ yU⟩
  ·rw[Zh e,Zh e];exact(d.lv r).cI T
 ·show R9 H' S _ (if r=g then none else if r=l then some (m1++m2)else mm r);rw[ma];by_cases e:r=g
  ·rw[Zk (by rw[e]),Zk e];rfl
  ·rw[Zh (fun z=>e (dj z)),Zh e];by_cases e4:r=l
   ·rw[Zk e4,e4,BQ];have:=d.mv l;rw[h1]at this;obtain⟨a,us,z1,_,_,z4⟩:=this;rw[BQ]at z1;cases z1;exact⟨al,_,rfl,e3,(P1.append P2).cI T,z4⟩
   ·rw[Zh e4];have:=d.mv r;cases e5:mm r with
    |none=>rw[e5]at this;exact this
    |some ms=>
     rw[e5]at this;obtain⟨a,us,z1,z2,z3,z4⟩:=this;exact⟨a,us,z1,hk a _ (fun z=>by rw[z,d.hl]at z2;cases z2) (fun z=>by rw[z,d.hm]at z2;cases z2) (fun z=>e4 (d.inj r l al (by rw[z1,z]) BQ)) z2,z3.cI T,z4⟩
 ·rw[ma]at hp hq;by_cases e:p=g
  ·rw[Zk (by rw[e])]at hp;cases hp
  ·by_cases e4:q=g
   ·rw[Zk (by rw[e4])]at hq;cases hq
   ·rw[Zh (fun z=>e (dj z))]at hp;rw[Zh (fun z=>e4 (dj z))]at hq;exact d.inj p q a hp hq
 ·have hx:(if x=g then none else if x=l then some (m1++m2)else mm x)=some ms:=hx;by_cases e:x=g
  ·rw[Zk e]at hx;cases hx
  ·rw[Zh e]at hx;by_cases e4:x=l
   ·rw[Zk e4]at hx;cases hx;refine⟨List.nodup_append.mpr ⟨n1,n2,fun a ha b hb z=>?_⟩,fun p=>?_⟩
    ·have ha:=(q1 a).mp ha;have hb:=(q2 b).mp hb;rw[z,hb]at ha;exact BP (Zp ha).symm
    ·rw[List.mem_append];show p∈m1∨p∈m2↔(if p∈m2 then some l else ld p)=some x;rw[e4];by_cases e5:p∈m2
     ·rw[Zk e5];simp[e5]
     ·rw[Zh e5,←q1];simp[e5]
   ·rw[Zh e4]at hx;obtain⟨z1,z2⟩:=d.ms x ms hx;refine⟨z1,fun p=>?_⟩;rw[z2];show ld p=some x↔(if p∈m2 then some l else ld p)=some x;by_cases e5:p∈m2
    ·rw[Zk e5,(q2 p).mp e5];exact⟨fun z=>absurd (Zp z).symm e,fun z=>absurd (Zp z).symm e4⟩
    ·rw[Zh e5]
 ·have hp:(if p∈m2 then some l else ld p)=some x:=hp;show ∃ms,(if x=g then none else if x=l then some (m1++m2)else mm x)=some ms;by_cases e5:p∈m2
  ·rw[Zk e5]at hp;cases hp;exact⟨m1++m2,by rw[Zh BP,if_pos rfl]⟩
  ·rw[Zh e5]at hp;have hg:x≠g:=fun z=>e5 ((q2 p).mpr (by rw[hp,z]))
   by_cases e4:x=l
   ·exact⟨m1++m2,by rw[Zh hg,Zk e4]⟩
   ·obtain⟨ms,Dy⟩:=d.ml p x hp;exact⟨ms,by rw[Zh hg,Zh e4];exact Dy⟩
 ·have hx:(if x=g then none else if x=l then some (m1++m2)else mm x)=some ms:=hx;show(if x∈m2 then some l else ld x)=some x;by_cases e:x=g
  ·rw[Zk e]at hx;cases hx
  ·rw[Zh e]at hx;have Uz:ld x=some x:=by
    by_cases e4:x=l
    ·rw[e4];exact d.self l m1 h1
    ·rw[Zh e4]at hx;exact d.self x ms hx
   have:x∉m2:=fun z=>by
    have:=(q2 x).mp z;rw[Uz]at this;exact e (Zp this)
   rw[Zh this,Uz]
theorem Ln{ld:Pr→Option Pr}{l g p q:Pr}{m2:List Pr}(BP:l≠g)(hp:ld p=some l)(hq:ld q=some g)(q2:∀r,r∈m2↔ld r=some g){E:Pr→Pr→Prop}(hE:∀a b,E a b↔∃x,ld a=some x∧ld b=some x)(a b:Pr):
  qx E p q a b↔∃x,(if a∈m2 then some l else ld a)=some x∧(if b∈m2 then some l else ld b)=some x:=by
 have A:∀c,(E c p∨E c q)↔(if c∈m2 then some l else ld c)=some l:=fun c=>by
  rw[hE,hE,hp,hq];by_cases e:c∈m2
  ·rw[Zk e,(q2 c).mp e];simp
  ·rw[Zh e];have:ld c≠some g:=fun z=>e ((q2 c).mpr z)
   constructor
   ·rintro(⟨x,h1,h2⟩|⟨x,h1,h2⟩)
    ·cases h2;exact h1
    ·cases h2;exact absurd h1 this
   ·exact fun z=> .inl ⟨l,z,rfl⟩
 unfold qx;rw[A,A,hE];constructor
 ·rintro(⟨x,h1,h2⟩|⟨h1,h2⟩)
  ·by_cases e:x=g
   ·subst e;exact⟨l,by rw[Zk ((q2 a).mpr h1)],by rw[Zk ((q2 b).mpr h2)]⟩
   ·exact⟨x,by rw[Zh (fun z=>e (by have:=(q2 a).mp z;rw[h1]at this;exact Zp this))];exact h1,by rw[Zh (fun z=>e (by have:=(q2 b).mp z;rw[h2]at this;exact Zp this))];exact h2⟩
  ·exact⟨l,h1,h2⟩
 ·rintro⟨x,h1,h2⟩;by_cases e:x=l
  ·subst e;exact .inr ⟨h1,h2⟩
  ·left
   refine⟨x,?_,?_⟩
   ·by_cases e2:a∈m2
    ·rw[Zk e2]at h1;exact absurd (Zp h1).symm e
    ·rw[Zh e2]at h1;exact h1
   ·by_cases e2:b∈m2
    ·rw[Zk e2]at h2;exact absurd (Zp h2).symm e
    ·rw[Zh e2]at h2;exact h2
def jL(H:Hp)(C g:Addr)(S:Addr→Prop)(E:Pr→Pr→Prop)(B:Nat):Prop:=
 ∃dg dl dm kl km ld mm,H g=some (.ins C dg (rk dl dm))∧¬S g∧Dx H S dl dm kl km ld mm∧(∀a b,E a b↔∃l,ld a=some l∧ld b=some l)∧kl.length≤B∧km.length≤B
theorem jL.keep{H H':Hp}{C g:Addr}{S:Addr→Prop}{E:Pr→Pr→Prop}{B:Nat}(G:jL H C g S E B)(h:∀a o,S a→H a=some o→H' a=some o)(t:e6 H H')(hg:∀o,H g=some o→H' g=some o):jL H' C g S E B:=by
 obtain⟨dg,dl,dm,kl,km,ld,mm,a1,a2,a3,a4⟩:=G;exact⟨dg,dl,dm,kl,km,ld,mm,hg _ a1,a2,a3.keep h t,a4⟩
theorem jL.same{H H':Hp}{C g:Addr}{S:Addr→Prop}{E:Pr→Pr→Prop}{B:Nat}(G:jL H C g S E B)(s:ax H H'):jL H' C g S E B:=G.keep (fun a o _ h=>s a o h) (e6.same s) (fun o h=>s _ _ h)
theorem jL.iff{H:Hp}{C g:Addr}{S:Addr→Prop}{E E':Pr→Pr→Prop}{B B':Nat}(G:jL H C g S E B)(h:∀a b,E' a b↔E a b)(hB:B≤B'):jL H C g S E' B':=by
 obtain⟨dg,dl,dm,kl,km,ld,mm,a1,a2,a3,a4,a5,a6⟩:=G;exact⟨dg,dl,dm,kl,km,ld,mm,a1,a2,a3,fun a b=>(h a b).trans (a4 a b),Zx,Zx⟩
structure Told(E:Pr→Pr→Prop)(gs:List (List Pr)):Prop where
 sq:∀ps∈gs,ps.Pairwise fun p q=>ij p q=true
 ne:∀ps∈gs,ps≠[]
 cls:∀ps∈gs,∀a∈ps,∀b,b∈ps↔E a b
 all:∀a,E a a→∃ps∈gs,a∈ps
 apart:gs.Pairwise fun ps qs=>∀a∈ps,a∉qs
inductive tG(C:Addr)(vs:List V)(H:Hp)(Q:VK)(u3:XK):Prop
 |mk (x dx:Addr) (_:vs=[.ref x]) (_:H x=some (.ins C dx [])) (_:∀H' S,SameBut x H H'→(∀a,S a→H a=none)→jL H' C x S (fun _ _=>False) 0→Q .cO H'):tG C vs H Q u3
inductive Av(C:Addr)(vs:List V)(H:Hp)(Q:VK)(u3:XK):Prop
 |mk (x t:Addr) (p:Pr) (S:Addr→Prop) (E:Pr→Pr→Prop) (B:Nat) (_:vs=[.ref x, .ref t]) (_:jL H C x S E B) (_:H t=some (.tup (jo p))) (_:∀b:Bool,(b=true↔E p p)→Q (.bl b) H):Av C vs H Q u3
inductive w9(C:Addr)(vs:List V)(H:Hp)(Q:VK)(u3:XK):Prop
 |mk (x t:Addr) (p:Pr) (S:Addr→Prop) (E:Pr→Pr→Prop) (B:Nat) (_:vs=[.ref x, .ref t]) (_:jL H C x S E B) (_:H t=some (.tup (jo p))) (_:B≤10000) (_:∀H' S',oQ S H S' H'→jL H' C x S' (IX E p) (B+1)→Q .cO H'):w9 C vs H Q u3
inductive tH(C:Addr)(vs:List V)(H:Hp)(Q:VK)(u3:XK):Prop
 |mk (x t u:Addr) (p q:Pr) (S:Addr→Prop) (E:Pr→Pr→Prop) (B:Nat) (_:vs=[.ref x, .ref t, .ref u]) (_:jL H C x S E B) (_:H t=some (.tup (jo p))) (_:H u=some (.tup (jo q))) (_:E p p) (_:E q q) (_:B≤10000) (_:∀H',oQ S H S H'→jL H' C x S (qx E p q) B→Q .cO H'):tH C vs H Q u3
inductive w_(C:Addr)(vs:List V)(H:Hp)(Q:VK)(u3:XK):Prop
 |mk (x:Addr) (S:Addr→Prop) (E:Pr→Pr→Prop) (B:Nat) (_:vs=[.ref x]) (_:jL H C x S E B) (_:B<10000) (_:∀H' r us gs,oQ S H S H'→H r=none→H' r=some (.lst us)→f9 H' us gs→(∀(k:Nat) a,us[k]?=some (.ref a)→H a=none)→Told E gs→Q (.ref r) H'):w_ C vs H Q u3
theorem Aw(g:Pr→Option Int)(o i:Int){as:List Pr}(eV:as≠[])(q:Pr)(bs:List Pr):vl g o i (as++q::bs)=vl g o i as-gp o i (lstP as) q+vl g o i (q::bs):=by
 rw[wU,oK g o i eV];omega
theorem Wy.app{g:Pr→Option Int}{as:List Pr}{q:Pr}{bs:List Pr}(a:Wy g as)(b:Wy g (q::bs))(s:Z7 (lstP as) q):Wy g (as++q::bs):=by
 refine⟨ZA,fun x hx=>?_,List.pairwise_append.mpr ⟨a.up,b.up,fun x hx y hy=>?_⟩⟩
 ·rcases List.mem_append.mp hx with h|h
  ·exact a.ok x h
  ·exact b.ok x h
 ·have h1:Z7 x q:=by
   rcases pw_lst a.up hx with e|e
   ·rw[e];exact s
   ·exact qr e s
  rcases List.mem_cons.mp hy with e|e
  ·rw[e];exact h1
  ·exact qr h1 ((List.pairwise_cons.mp b.up).1 y e)
theorem Wy.left{g:Pr→Option Int}{as bs:List Pr}(w:Wy g (as++bs))(h:as≠[]):Wy g as:=⟨h,fun x hx=>w.ok x (List.mem_append_left _ hx),(List.pairwise_append.mp w.up).1⟩
theorem Wy.right{g:Pr→Option Int}{as bs:List Pr}(w:Wy g (as++bs))(h:bs≠[]):Wy g bs:=⟨h,fun x hx=>w.ok x (List.mem_append_right _ hx),(List.pairwise_append.mp w.up).2.1⟩
section
variable(f:Nat→Nat→Option Int)(o p W:Int)
def BW(ps:List Pr):Prop:=Wy (lf f) ps∧vl (lf f) o p ps=W
def e_:Prop:=∀ps,Wy (lf f) ps→vl (lf f) o p ps≤W
inductive gK:Pr→Pr→Prop
 |way {a b:Pr} (ps:List Pr) (_:BW f o p W ps) (_:a∈ps) (_:b∈ps):gK a b
 |tr {a b c:Pr} (_:gK a b) (_:gK b c):gK a c
def uC(as:List Pr)(x y:Int):Int:=vl (lf f) o p as-(o*(x-1-(lstP as).1)+p*(y-1-(lstP as).2))
def Om(q:Pr)(bs:List Pr)(x y:Int):Int:=vl (lf f) o p (q::bs)-(o*(q.1-x)+p*(q.2-y))
def Over(x y:Int)(r:Pr):Prop:=∃as q bs,Wy (lf f) as∧Wy (lf f) (q::bs)∧(lstP as).1<x∧(lstP as).2<y∧x≤q.1∧y≤q.2∧vl (lf f) o p (as++q::bs)=W∧r∈q::bs
end
section
variable{f:Nat→Nat→Option Int}{o p W:Int}
theorem gK.symm{a b:Pr}(h:gK f o p W a b):gK f o p W b a:=by
 induction h with
 |way ps h1 h2 h3=>exact .way ps h1 h3 h2
 |tr _ _ i1 i2=>exact .tr i2 i1
theorem gK.left{a b:Pr}(h:gK f o p W a b):gK f o p W a a:= .tr h h.symm
theorem gK.on{a b:Pr}(h:gK f o p W a b):∃ps,BW f o p W ps∧a∈ps:=by
 induction h with
 |way ps h1 h2 h3=>exact⟨ps,h1,h2⟩
 |tr _ _ i1 _=>exact i1
theorem nr{as:List Pr}{q:Pr}{bs:List Pr}(eV:as≠[])(x y:Int):vl (lf f) o p (as++q::bs)=uC f o p as x y+Om f o p q bs x y:=by
 rw[Aw _ _ _ eV];unfold uC Om gp;have e1:q.1-(lstP as).1-1=(x-1-(lstP as).1)+(q.1-x):=Zx;have e2:q.2-(lstP as).2-1=(y-1-(lstP as).2)+(q.2-y):=Zx;rw[e1,e2,Int.mul_add,Int.mul_add];omega
theorem me(T:e_ f o p W){as xY:List Pr}{q:Pr}{bs:List Pr}{x y:Int}(a:Wy (lf f) as)(b:Wy (lf f) (q::bs))(h3:x≤q.1)(h4:y≤q.2)(hW:vl (lf f) o p (as++q::bs)=W)
  (a':Wy (lf f) xY) (l1:(lstP xY).1<x) (l2:(lstP xY).2<y) (hb:uC f o p as x y≤uC f o p xY x y):BW f o p W (xY++q::bs):=by
 have w:=a'.app b ⟨Zx,Zx⟩;refine⟨w,?_⟩;have:=T _ w;rw[nr a'.ne x y]at this⊢;rw[nr a.ne x y]at hW;omega
theorem xa{as:List Pr}{i j:Nat}(a:Wy (lf f) as)(l1:(lstP as).1<(i:Int))(l2:(lstP as).2<(j:Int)):∃b,Bq f o p i j=some b∧uC f o p as i j≤b:=by
 have m:=fU f o p i j;cases e:Bq f o p i j with
 |none=>rw[e]at m;exact absurd ⟨as,a,l1,l2,rfl⟩ (m _)
 |some b=>rw[e]at m;exact⟨b,rfl,m.2 _ ⟨as,a,l1,l2,rfl⟩⟩
theorem xb{i j:Nat}{b:Int}(e:Bq f o p i j=some b):∃as,Wy (lf f) as∧(lstP as).1<(i:Int)∧(lstP as).2<(j:Int)∧uC f o p as i j=b:=by
 have m:=fU f o p i j;rw[e]at m;obtain⟨as,h1,h2,h3,h4⟩:=m.1;exact⟨as,h1,h2,h3,h4.symm⟩
theorem mf{i j:Nat}{b:Int}(e:dE f o p i j=some b):∃as,Wy (lf f) as∧lstP as=aR (i,j)∧vl (lf f) o p as=b:=by
 have m:=tf f o p i j;rw[e]at m;obtain⟨as,h1,h2,h3⟩:=m.1;exact⟨as,h1,h2,h3.symm⟩
theorem xc{as:List Pr}{i j:Nat}(a:Wy (lf f) as)(l:lstP as=aR (i,j)):∃b,dE f o p i j=some b∧vl (lf f) o p as≤b:=by
 have m:=tf f o p i j;cases e:dE f o p i j with
 |none=>rw[e]at m;exact absurd ⟨as,a,l,rfl⟩ (m _)
 |some b=>rw[e]at m;exact⟨b,rfl,m.2 _ ⟨as,a,l,rfl⟩⟩
theorem Fi{i j:Nat}(e:dE f o p i j=some W):gK f o p W (aR (i,j)) (aR (i,j)):=by
 obtain⟨as,h1,h2,h3⟩:=mf e;have:aR (i,j)∈as:=by rw[←h2];exact cR h1.ne
 exact .way as ⟨h1,h3⟩ this this
theorem CV(T:e_ f o p W){i j:Nat}{r:Pr}(h:Over f o p W ((i+1:Nat):Int) ((j+1:Nat):Int) r)(e:dE f o p i j=Bq f o p (i+1) (j+1)):gK f o p W (aR (i,j)) r:=by
 obtain⟨as,q,bs,a,b,l1,l2,l3,l4,hW,hr⟩:=h;obtain⟨v,hv,hle⟩:=xa (o:=o) (p:=p) a l1 l2;rw[hv]at e;obtain⟨xY,a',k1,k2⟩:=mf e;have hb:uC f o p xY ((i+1:Nat):Int) ((j+1:Nat):Int)=v:=by
  unfold uC;rw[k1,k2];have e1:((i+1:Nat):Int)-1-(aR (i,j)).1=0:=by show((i+1:Nat):Int)-1-(i:Int)=0;omega
  have e2:((j+1:Nat):Int)-1-(aR (i,j)).2=0:=by show((j+1:Nat):Int)-1-(j:Int)=0;omega
  rw[e1,e2,Int.mul_zero,Int.mul_zero];omega
 have:=me T a b l3 l4 hW a' (by rw[k1];simp[aR];omega) (by rw[k1];simp[aR];omega) (by rw[hb];exact hle);refine .way _ this (List.mem_append_left _ ?_) (List.mem_append_right _ hr);rw[←k1];exact cR a'.ne
theorem rm(T:e_ f o p W){i j x y:Nat}{r:Pr}{c:Int}(h:Over f o p W ((i+1:Nat):Int) ((j+1:Nat):Int) r)(hx:x≤i+1)(hy:y≤j+1)(hc:c=o*((i+1:Nat)-x:Int)+p*((j+1:Nat)-y:Int))(e:bA (Bq f o p x y) c=Bq f o p (i+1) (j+1)):Over f o p W (x:Int) (y:Int) r:=by
 obtain⟨as,q,bs,a,b,l1,l2,l3,l4,hW,hr⟩:=h;obtain⟨v,hv,hle⟩:=xa (o:=o) (p:=p) a l1 l2;rw[hv]at e;cases e2:Bq f o p x y with
 |none=>rw[e2]at e;cases e
 |some v2=>
  rw[e2]at e;have e:v2-c=v:=by simpa[bA]using e
  obtain⟨xY,a',k1,k2,k3⟩:=xb e2;have hb:uC f o p xY ((i+1:Nat):Int) ((j+1:Nat):Int)=v:=by
   unfold uC at k3⊢;have e1:((i+1:Nat):Int)-1-(lstP xY).1=((x:Int)-1-(lstP xY).1)+((i+1:Nat)-x:Int):=by lia
   have e2:((j+1:Nat):Int)-1-(lstP xY).2=((y:Int)-1-(lstP xY).2)+((j+1:Nat)-y:Int):=by lia
   rw[e1,e2,Int.mul_add,Int.mul_add]
   lia
  have:=me T a b l3 l4 hW a' Zu (by lia) (by rw[hb];exact hle);exact⟨xY,q,bs,a',b,k1,k2,by lia,by lia,this.2,hr⟩
theorem Hm(T:e_ f o p W){i j:Nat}(h:gK f o p W (aR (i,j)) (aR (i,j)))(g:gM (Bq f o p i j)=true):Over f o p W (i:Int) (j:Int) (aR (i,j)):=by
 obtain⟨ws,⟨hw,hW⟩,hm⟩:=h.on;obtain⟨u,v,rfl⟩:=List.append_of_mem hm;cases e:Bq f o p i j with
 |none=>rw[e]at g;cases g
 |some b=>
  rw[e]at g;have g:0≤b:=by simpa[gM]using g
  obtain⟨as,a,k1,k2,k3⟩:=xb e;have hr:Wy (lf f) (aR (i,j)::v):=hw.right Zr;have ws:=a.app hr ⟨k1,k2⟩;have hle:=T _ ws;have cv:=nr (f:=f) (o:=o) (p:=p) (q:=aR (i,j)) (bs:=v) a.ne (i:Int) (j:Int);have ha:Om f o p (aR (i,j)) v (i:Int) (j:Int)=vl (lf f) o p (aR (i,j)::v):=by
   unfold Om;have e1:(aR (i,j)).1-(i:Int)=0:=by simp[aR]
   have e2:(aR (i,j)).2-(j:Int)=0:=by simp[aR]
   rw[e1,e2,Int.mul_zero,Int.mul_zero];omega
  have Yw:W≤b+vl (lf f) o p (aR (i,j)::v):=by
   by_cases hu:u=[]
   ·subst hu;simp only[List.nil_append]at hW;omega
   ·have cu:=nr (f:=f) (o:=o) (p:=p) (q:=aR (i,j)) (bs:=v) hu (i:Int) (j:Int);have P8:Wy (lf f) u:=hw.left hu;have hs:Z7 (lstP u) (aR (i,j)):=(List.pairwise_append.mp hw.up).2.2 _ (cR hu) _ (ZA);obtain⟨b2,xf,WR⟩:=xa (o:=o) (p:=p) P8 (i:=i) (j:=j) hs.1 hs.2;rw[e]at xf;cases xf;omega
  exact⟨as,aR (i,j),v,a,hr,k1,k2,by simp[aR],by simp[aR],Zx,ZA⟩
theorem over_over(T:e_ f o p W){x y:Int}{r r':Pr}(h:Over f o p W x y r)(h':Over f o p W x y r'):gK f o p W r r':=by
 obtain⟨as,q,bs,a,b,l1,l2,l3,l4,hW,hr⟩:=h;obtain⟨xY,q',WS,a',b',k1,k2,k3,k4,UA,Lo⟩:=h';have w1:BW f o p W (as++q::bs):=⟨a.app b ⟨Zx,Zx⟩,hW⟩
 have w2:BW f o p W (xY++q'::WS):=⟨a'.app b' ⟨Zx,Zx⟩,UA⟩
 by_cases hb:uC f o p as x y≤uC f o p xY x y
 ·have:=me T a b l3 l4 hW a' k1 k2 hb;exact .tr (.way (b:=lstP xY) _ this (List.mem_append_right _ hr) (List.mem_append_left _ (cR a'.ne))) (.way _ w2 (List.mem_append_left _ (cR a'.ne)) (List.mem_append_right _ Lo))
 ·have:=me T a' b' k3 k4 UA a l1 l2 Zt;exact .tr (.way (b:=lstP as) _ w1 (List.mem_append_right _ hr) (List.mem_append_left _ (cR a.ne))) (.way _ this (List.mem_append_left _ (cR a.ne)) (List.mem_append_right _ Lo))
theorem between(T:e_ f o p W){u v:List Pr}{q r:Nat×Nat}(w:BW f o p W (u++aR q::aR r::v)):
  (∀x y:Nat,q.1<x→q.2<y→x≤r.1→y≤r.2→Bq f o p x y=some (uC f o p (u++[aR q]) x y))∧dE f o p q.1 q.2=some (vl (lf f) o p (u++[aR q]))∧0≤uC f o p (u++[aR q]) r.1 r.2:=by
 obtain⟨w,hW⟩:=w;have e:u++aR q::aR r::v=(u++[aR q])++aR r::v:=ZA;rw[e]at w hW;have hl:Wy (lf f) (u++[aR q]):=w.left Zr;have hr:Wy (lf f) (aR r::v):=w.right Zr;have ls:lstP (u++[aR q])=aR q:=dJ;have vi:Z7 (aR q) (aR r):=by
  have:=(List.pairwise_append.mp w.up).2.2 _ (cR hl.ne) (aR r) (ZA);rw[ls]at this;exact this
 refine⟨fun x y h1 h2 h3 h4=>?_,?_,?_⟩
 ·have c1:(lstP (u++[aR q])).1<(x:Int):=by rw[ls];simp[aR];omega
  have c2:(lstP (u++[aR q])).2<(y:Int):=by rw[ls];simp[aR];omega
  obtain⟨b,hb,hle⟩:=xa (o:=o) (p:=p) hl c1 c2;rw[hb]
  congr 1
  obtain⟨as,a,k1,k2,k3⟩:=xb hb;have wa:=a.app hr ⟨by simp[aR];omega,by simp[aR];omega⟩;have:=T _ wa;rw[nr a.ne (x:Int) (y:Int)]at this;rw[nr hl.ne (x:Int) (y:Int)]at hW;omega
 ·obtain⟨b,hb,hle⟩:=xc (o:=o) (p:=p) hl (i:=q.1) (j:=q.2) ls;rw[hb]
  congr 1
  obtain⟨as,a,k1,k2⟩:=mf hb;have wa:=a.app hr (by rw[k1];exact vi);have:=T _ wa;rw[Aw _ _ _ a.ne,k1,show aR (q.1,q.2)=aR q from rfl]at this;rw[Aw _ _ _ hl.ne,ls]at hW;omega
 ·have:=T _ hr;rw[nr hl.ne (r.1:Int) (r.2:Int)]at hW;unfold Om at hW;have e1:(aR r).1-(r.1:Int)=0:=by simp[aR]
  have e2:(aR r).2-(r.2:Int)=0:=by simp[aR]
  rw[e1,e2,Int.mul_zero,Int.mul_zero]at hW;omega
end
abbrev GS:=(Pr→Pr→Prop)×(Pr→Option Pr)
def yV(s:GS)(c r:Pr):GS:=
 match s.2 c with
 |some r0=>(qx s.1 r0 r,s.2)
 |none=>(s.1,fun x=>if x=c then some r else s.2 x)
section
variable(f:Nat→Nat→Option Int)(o p W:Int)
def IY(i j:Nat)(s:GS)(r:Pr):GS:=(if dE f o p i j=Bq f o p (i+1) (j+1)then qx (IX s.1 (aR (i,j))) (aR (i,j)) r else s.1,s.2)
def Lp(i j:Nat)(s:GS)(r:Pr):GS:=(bq f o p i j).foldl (fun s c=>yV s c r) (IY f o p i j s r)
def Hn(i j:Nat)(s:GS):GS:=(if dE f o p i j=some W then IX s.1 (aR (i,j))else s.1,s.2)
def Dz(i j:Nat)(s:GS):GS:=
 match s.2 (aR (i+1,j+1))with
 |some r=>Lp f o p i j (Hn f o p W i j s) r
 |none=>Hn f o p W i j s
open Classical in
noncomputable def Z1(i j:Nat)(s:GS):GS:=if (Dz f o p W i j s).1 (aR (i,j)) (aR (i,j))∧gM (Bq f o p i j)=true then yV (Dz f o p W i j s) (aR (i,j)) (aR (i,j))else Dz f o p W i j s
structure ik(s:GS):Prop where
 sy:∀a b,s.1 a b→s.1 b a
 tr:∀a b c,s.1 a b→s.1 b c→s.1 a c
 hg:∀a b,s.1 a b→gK f o p W a b
 mr:∀c r,s.2 c=some r→s.1 r r∧∃i j:Nat,c=aR (i,j)∧Over f o p W (i:Int) (j:Int) r
end
structure Gw(s s':GS)(N:Pr→Prop)(M:Pr→Prop):Prop where
 e:∀a b,s.1 a b→s'.1 a b
 n:∀a,s'.1 a a→s.1 a a∨N a
 m:∀c r,s.2 c=some r→s'.2 c=some r
 k:∀c r,s'.2 c=some r→s.2 c=some r∨M c
theorem Gw.refl{s:GS}{N M:Pr→Prop}:Gw s s N M:=⟨fun _ _ h=>h,fun _ h=> .inl h,fun _ _ h=>h,fun _ _ h=> .inl h⟩
theorem Gw.trans{s s' v9:GS}{N M:Pr→Prop}(a:Gw s s' N M)(b:Gw s' v9 N M):Gw s v9 N M:=
 ⟨fun x y h=>b.e x y (a.e x y h),fun x h=>(b.n x h).elim (a.n x) .inr,fun c r h=>b.m c r (a.m c r h),fun c r h=>(b.k c r h).elim (a.k c r) .inr⟩
theorem Gw.wide{s s':GS}{N M N' M':Pr→Prop}(a:Gw s s' N M)(hN:∀x,N x→N' x)(hM:∀x,M x→M' x):Gw s s' N' M':=⟨a.e,fun x h=>(a.n x h).imp id (hN x),a.m,fun c r h=>(a.k c r h).imp id (hM c)⟩
section
variable{f:Nat→Nat→Option Int}{o p W:Int}{s:GS}
theorem ik.UB(k:ik f o p W s){a b:Pr}(ha:s.1 a a)(hb:s.1 b b)(h:gK f o p W a b):ik f o p W (qx s.1 a b,s.2):=by
 have hc:∀c,s.1 c a∨s.1 c b→gK f o p W c a:=fun c h'=>h'.elim (k.hg c a) fun z=> .tr (k.hg c b z) h.symm
 refine⟨fun x y h=>?_,fun x y z h1 h2=>?_,fun x y h=>?_,fun c r h=>⟨.inl (k.mr c r h).1,(k.mr c r h).2⟩⟩
 ·exact h.imp (k.sy x y) fun h=>⟨h.2,h.1⟩
 ·rcases h1 with h1|⟨h1,L3⟩
  ·rcases h2 with h2|⟨h2,IE⟩
   ·exact .inl (k.tr _ _ _ h1 h2)
   ·exact .inr ⟨h2.imp (k.tr _ _ _ h1) (k.tr _ _ _ h1),IE⟩
  ·rcases h2 with h2|⟨h2,IE⟩
   ·exact .inr ⟨h1,L3.imp (k.tr _ _ _ (k.sy _ _ h2)) (k.tr _ _ _ (k.sy _ _ h2))⟩
   ·exact .inr ⟨h1,IE⟩
 ·rcases h with h|⟨h1,h2⟩
  ·exact k.hg x y h
  ·exact .tr (hc x h1) (hc y h2).symm
theorem ik.take(k:ik f o p W s){a:Pr}(h:gK f o p W a a):ik f o p W (IX s.1 a,s.2):=by
 refine⟨fun x y h=>?_,fun x y z h1 h2=>?_,fun x y h'=>?_,fun c r h=>⟨.inl (k.mr c r h).1,(k.mr c r h).2⟩⟩
 ·exact h.imp (k.sy x y) fun h=>⟨h.2,h.1⟩
 ·rcases h1 with h1|⟨h1,L3⟩
  ·rcases h2 with h2|⟨h2,IE⟩
   ·exact .inl (k.tr _ _ _ h1 h2)
   ·subst h2 IE;exact .inl h1
  ·subst h1 L3;exact h2
 ·rcases h' with h'|⟨h1,h2⟩
  ·exact k.hg x y h'
  ·subst h1 h2;exact h
theorem Fj(sy:∀a b,s.1 a b→s.1 b a)(tr:∀a b c,s.1 a b→s.1 b c→s.1 a c){a b:Pr}:Gw s (qx s.1 a b,s.2) (fun _=>False) (fun _=>False):=by
 refine⟨fun _ _ h=> .inl h,fun x h=> .inl ?_,fun _ _ h=>h,fun _ _ h=> .inl h⟩;rcases h with h|⟨h,_⟩
 ·exact h
 ·exact h.elim (fun z=>tr _ _ _ z (sy _ _ z)) fun z=>tr _ _ _ z (sy _ _ z)
theorem ik.mark(T:e_ f o p W)(k:ik f o p W s){i j:Nat}{r:Pr}(hr:s.1 r r)(ov:Over f o p W (i:Int) (j:Int) r):ik f o p W (yV s (aR (i,j)) r):=by
 unfold yV;cases e:s.2 (aR (i,j))with
 |some r0=>
  obtain⟨h1,i2,j2,h2,h3⟩:=k.mr _ _ e;have h2:(i:Int)=i2∧(j:Int)=j2:=by simpa[aR]using h2
  rw[←h2.1,←h2.2]at h3;exact k.UB h1 hr (over_over T h3 ov)
 |none=>
  refine⟨k.sy,k.tr,k.hg,fun c r' h=>?_⟩;have h:(if c=aR (i,j)then some r else s.2 c)=some r':=h;by_cases e2:c=aR (i,j)
  ·rw[Zk e2]at h;cases h;exact⟨hr,i,j,e2,ov⟩
  ·rw[Zh e2]at h;exact k.mr c r' h
theorem IZ(k:ik f o p W s){c r:Pr}:Gw s (yV s c r) (fun _=>False) (·=c):=by
 unfold yV;cases e:s.2 c with
 |some r0=>exact(Fj k.sy k.tr).wide (fun _ h=>h) fun _ h=>h.elim
 |none=>
  refine⟨fun _ _ h=>h,fun _ h=> .inl h,fun c' r' h=>?_,fun c' r' h=>?_⟩
  ·show(if c'=c then some r else s.2 c')=some r';rw[Zh (fun z=>by rw[z,e]at h;cases h)];exact h
  ·have h:(if c'=c then some r else s.2 c')=some r':=h;by_cases e2:c'=c
   ·exact .inr e2
   ·rw[Zh e2]at h;exact .inl h
theorem Fl(k:ik f o p W s){c r:Pr}(hr:s.1 r r):∃r',(yV s c r).2 c=some r'∧(yV s c r).1 r r':=by
 unfold yV;cases e:s.2 c with
 |some r0=>exact⟨r0,e, .inr ⟨.inr hr, .inl (k.mr _ _ e).1⟩⟩
 |none=>exact⟨r,ZA,hr⟩
theorem tI(T:e_ f o p W){r:Pr}:∀(cs:List Pr)(s:GS),ik f o p W s→s.1 r r→(∀c∈cs,∃i j:Nat,c=aR (i,j)∧Over f o p W (i:Int) (j:Int) r)→
  ik f o p W (cs.foldl (fun s c=>yV s c r) s)∧Gw s (cs.foldl (fun s c=>yV s c r) s) (fun _=>False) (·∈cs)∧∀c∈cs,∃r',(cs.foldl (fun s c=>yV s c r) s).2 c=some r'∧(cs.foldl (fun s c=>yV s c r) s).1 r r'
 |[],s,k,_,_=>⟨k, .refl,fun c h=>by cases h⟩
 |c::cs,s,k,hr,h=>by
  obtain⟨i,j,rfl,ov⟩:=h c (ZA);have k1:=k.mark T hr ov;have g1:=IZ k (c:=aR (i,j)) (r:=r);obtain⟨r',m1,m2⟩:=Fl k (c:=aR (i,j)) hr;obtain⟨a1,a2,a3⟩:=tI T cs _ k1 (g1.e _ _ hr) fun c hc=>h c (by simp[hc])
  refine⟨a1,(g1.wide (fun _ h=>h) fun x hx=>?_).trans (a2.wide (fun _ h=>h) fun x hx=>?_),fun c hc=>?_⟩
  ·show x∈_::_;rw[hx];simp
  ·exact List.mem_cons_of_mem _ hx
  ·rcases List.mem_cons.mp hc with rfl|hc
   ·exact⟨r',a2.m _ _ m1,a2.e _ _ m2⟩
   ·exact a3 c hc
theorem rn(T:e_ f o p W){i j:Nat}{r:Pr}(h:Over f o p W ((i+1:Nat):Int) ((j+1:Nat):Int) r):∀c∈bq f o p i j,∃x y:Nat,c=aR (x,y)∧Over f o p W (x:Int) (y:Int) r:=by
 intro c hc;unfold bq at hc;rcases List.mem_append.mp hc with hc|hc
 ·split at hc
  ·rename_i e
   have:c=aR (i,j+1):=by simpa[aR]using hc
   refine⟨i,j+1,this,rm T h Zt (Zx) ?_ e⟩;have e1:((i+1:Nat):Int)-(i:Int)=1:=Zx;have e2:((j+1:Nat):Int)-((j+1:Nat):Int)=0:=Zx;rw[e1,e2];omega
  ·cases hc
 ·split at hc
  ·rename_i e
   have:c=aR (i+1,j):=by simpa[aR]using hc
   refine⟨i+1,j,this,rm T h Zt (Zx) ?_ e⟩;have e1:((i+1:Nat):Int)-((i+1:Nat):Int)=0:=Zx;have e2:((j+1:Nat):Int)-(j:Int)=1:=Zx;rw[e1,e2];omega
  ·cases hc
theorem Fm(T:e_ f o p W)(k:ik f o p W s){i j:Nat}{r:Pr}(hr:s.1 r r)(ov:Over f o p W ((i+1:Nat):Int) ((j+1:Nat):Int) r):
  ik f o p W (IY f o p i j s r)∧Gw s (IY f o p i j s r) (·=aR (i,j)) (·∈bq f o p i j)∧(dE f o p i j=Bq f o p (i+1) (j+1)→(IY f o p i j s r).1 (aR (i,j)) r):=by
 unfold IY;by_cases e:dE f o p i j=Bq f o p (i+1) (j+1)
 ·rw[Zk e];have h:=CV T ov e;have k1:=k.take h.left;have k2:=k1.UB (a:=aR (i,j)) (b:=r) (.inr ⟨rfl,rfl⟩) (.inl hr) h;refine⟨k2,⟨fun a b h=> .inl (.inl h),fun a h=>?_,fun _ _ h=>h,fun _ _ h=> .inl h⟩,fun _=> .inr ⟨.inl (.inr ⟨rfl,rfl⟩), .inr (.inl hr)⟩⟩;rcases(Fj (s:=(IX s.1 (aR (i,j)),s.2)) k1.sy k1.tr).n a h with h|h
  ·exact h.imp id And.left
  ·exact h.elim
 ·rw[Zh e];exact⟨⟨k.sy,k.tr,k.hg,k.mr⟩, .refl,fun z=>absurd z e⟩
theorem Oo(T:e_ f o p W)(k:ik f o p W s){i j:Nat}{r:Pr}(hr:s.1 r r)(ov:Over f o p W ((i+1:Nat):Int) ((j+1:Nat):Int) r):
  ik f o p W (Lp f o p i j s r)∧Gw s (Lp f o p i j s r) (·=aR (i,j)) (·∈bq f o p i j)∧(dE f o p i j=Bq f o p (i+1) (j+1)→(Lp f o p i j s r).1 (aR (i,j)) r)∧∀c∈bq f o p i j,∃r',(Lp f o p i j s r).2 c=some r'∧(Lp f o p i j s r).1 r r':=by
 obtain⟨b1,b2,b3⟩:=Fm T k hr ov;obtain⟨a1,a2,a3⟩:=tI T (bq f o p i j) _ b1 (b2.e _ _ hr) (rn T ov);exact⟨a1,b2.trans (a2.wide (fun _ h=>h.elim) fun _ h=>h),fun e=>a2.e _ _ (b3 e),a3⟩
theorem Fn(k:ik f o p W s)(i j:Nat):ik f o p W (Hn f o p W i j s)∧Gw s (Hn f o p W i j s) (·=aR (i,j)) (fun _=>False)∧(dE f o p i j=some W→(Hn f o p W i j s).1 (aR (i,j)) (aR (i,j))):=by
 unfold Hn;by_cases e:dE f o p i j=some W
 ·rw[Zk e];exact⟨k.take (Fi e),⟨fun _ _ h=> .inl h,fun _ h=>h.imp id And.left,fun _ _ h=>h,fun _ _ h=> .inl h⟩,fun _=> .inr ⟨rfl,rfl⟩⟩
 ·rw[Zh e];exact⟨⟨k.sy,k.tr,k.hg,k.mr⟩, .refl,fun z=>absurd z e⟩
def Lq(f:Nat→Nat→Option Int)(o p:Int)(i j:Nat)(c:Pr):Prop:=c∈bq f o p i j∨c=aR (i,j)
theorem Fo(T:e_ f o p W)(k:ik f o p W s)(i j:Nat):ik f o p W (Dz f o p W i j s)∧Gw s (Dz f o p W i j s) (·=aR (i,j)) (Lq f o p i j)∧(dE f o p i j=some W→(Dz f o p W i j s).1 (aR (i,j)) (aR (i,j)))∧∀r,s.2 (aR (i+1,j+1))=some r→
  (dE f o p i j=Bq f o p (i+1) (j+1)→(Dz f o p W i j s).1 (aR (i,j)) r)∧∀c∈bq f o p i j,∃r',(Dz f o p W i j s).2 c=some r'∧(Dz f o p W i j s).1 r r':=by
 obtain⟨k1,g1,e1⟩:=Fn k i j;unfold Dz;cases e:s.2 (aR (i+1,j+1))with
 |none=>exact⟨k1,g1.wide (fun _ h=>h) fun _ h=>h.elim,e1,fun r h=>by cases h⟩
 |some r=>
  obtain⟨h1,i2,j2,h2,h3⟩:=k.mr _ _ e;have h2:((i+1:Nat):Int)=i2∧((j+1:Nat):Int)=j2:=by simpa[aR]using h2
  rw[←h2.1,←h2.2]at h3;obtain⟨a1,a2,a3,a4⟩:=Oo T k1 (g1.e _ _ h1) h3;refine⟨a1,(g1.wide (fun _ h=>h) fun _ h=>h.elim).trans (a2.wide (fun _ h=>h) fun _ h=> .inl h),fun z=>a2.e _ _ (e1 z),fun r' h=>?_⟩;cases h;exact⟨a3,a4⟩
theorem Oq(T:e_ f o p W)(k:ik f o p W s)(i j:Nat):ik f o p W (Z1 f o p W i j s)∧Gw s (Z1 f o p W i j s) (·=aR (i,j)) (Lq f o p i j)∧(dE f o p i j=some W→(Z1 f o p W i j s).1 (aR (i,j)) (aR (i,j)))∧(∀r,s.2 (aR (i+1,j+1))=some r→
  (dE f o p i j=Bq f o p (i+1) (j+1)→(Z1 f o p W i j s).1 (aR (i,j)) r)∧∀c∈bq f o p i j,∃r',(Z1 f o p W i j s).2 c=some r'∧(Z1 f o p W i j s).1 r r')∧
  ((Z1 f o p W i j s).1 (aR (i,j)) (aR (i,j))→gM (Bq f o p i j)=true→∃r,(Z1 f o p W i j s).2 (aR (i,j))=some r∧(Z1 f o p W i j s).1 (aR (i,j)) r):=by
 obtain⟨k1,g1,e1,o1⟩:=Fo T k i j;unfold Z1;split
 ·rename_i h
  have k2:=k1.mark T h.1 (Hm T (k1.hg _ _ h.1) h.2);have g2:=IZ k1 (c:=aR (i,j)) (r:=aR (i,j));refine⟨k2,g1.trans (g2.wide (fun _ h=>h.elim) fun _ h=> .inr h),fun z=>g2.e _ _ (e1 z),fun r hr=>?_,fun _ _=>Fl k1 h.1⟩;obtain⟨a1,a2⟩:=o1 r hr;refine⟨fun z=>g2.e _ _ (a1 z),fun c hc=>?_⟩;obtain⟨r',b1,b2⟩:=a2 c hc;exact⟨r',g2.m _ _ b1,g2.e _ _ b2⟩
 ·rename_i h
  exact⟨k1,g1,e1,o1,fun h1 h2=>absurd ⟨h1,h2⟩ h⟩
end
structure Vd(f:Nat→Nat→Option Int)(o p W:Int)(V:Nat→Nat→Prop)(s:GS):Prop where
 ok:ik f o p W s
 WT:∀a,s.1 a a→∃i j:Nat,a=aR (i,j)∧V i j
 en:∀i j,V i j→dE f o p i j=some W→s.1 (aR (i,j)) (aR (i,j))
 on:∀i j,V i j→s.1 (aR (i,j)) (aR (i,j))→gM (Bq f o p i j)=true→∃r,s.2 (aR (i,j))=some r∧s.1 (aR (i,j)) r
 ov:∀i j r,V i j→s.2 (aR (i+1,j+1))=some r→(dE f o p i j=Bq f o p (i+1) (j+1)→s.1 (aR (i,j)) r)∧∀c∈bq f o p i j,∃r',s.2 c=some r'∧s.1 r r'
theorem iH{a b c d:Nat}(h:aR (a,b)=aR (c,d)):a=c∧b=d:=by
 have h:(a:Int)=c∧(b:Int)=d:=by simpa[aR]using h
 omega
theorem Fp{f:Nat→Nat→Option Int}{o p:Int}{i j a b:Nat}(h:Lq f o p i j (aR (a+1,b+1))):(a+1=i∧b+1=j)∨(a+1=i∧b=j)∨(a=i∧b+1=j):=by
 rcases h with h|h
 ·unfold bq at h;rcases List.mem_append.mp h with h|h
  ·split at h
   ·have:aR (a+1,b+1)=aR (i,j+1):=by simpa[aR]using h
    have:=iH this;omega
   ·cases h
  ·split at h
   ·have:aR (a+1,b+1)=aR (i+1,j):=by simpa[aR]using h
    have:=iH this;omega
   ·cases h
 ·have:=iH h;omega
def Vb(n m i j:Nat)(a b:Nat):Prop:=a<n∧b<m∧(i<a∨(i=a∧j≤b))
theorem Vd.start(f:Nat→Nat→Option Int)(o p W:Int)(n m:Nat):Vd f o p W (Vb n m n 0) (fun _ _=>False,fun _=>none):=by
 have no:∀a b,¬Vb n m n 0 a b:=fun a b ⟨h1,_,h2⟩=>Zx
 exact⟨⟨fun _ _ h=>h.elim,fun _ _ _ h=>h.elim,fun _ _ h=>h.elim,fun _ _ h=>(by cases h)⟩,fun _ h=>h.elim,fun i j h=>absurd h (no i j),fun i j h=>absurd h (no i j),fun i j r h=>absurd h (no i j)⟩
theorem Vd.turn{f:Nat→Nat→Option Int}{o p W:Int}{n m i:Nat}{s:GS}(v:Vd f o p W (Vb n m (i+1) 0) s):Vd f o p W (Vb n m i m) s:=by
 have e:Vb n m (i+1) 0=Vb n m i m:=by
  funext a b
  simp only[Vb,eq_iff_iff];omega
 rw[←e];exact v
theorem Vd.next{f:Nat→Nat→Option Int}{o p W:Int}{n m i j:Nat}{s:GS}(T:e_ f o p W)(hi:i<n)(hj:j<m)(v:Vd f o p W (Vb n m i (j+1)) s):Vd f o p W (Vb n m i j) (Z1 f o p W i j s):=by
 obtain⟨k,g,e,ov,on⟩:=Oq T v.ok i j;have cut:∀a b,Vb n m i j a b→(a=i∧b=j)∨Vb n m i (j+1) a b:=fun a b h=>by
  unfold Vb at h⊢
  lia
 have old:∀a b r,Vb n m i j a b→(Z1 f o p W i j s).2 (aR (a+1,b+1))=some r→s.2 (aR (a+1,b+1))=some r:=fun a b r h hr=>by
  rcases g.k _ _ hr with z|z
  ·exact z
  ·have:=Fp z;unfold Vb at h
   lia
 refine⟨k,fun a ha=>?_,fun a b h he=>?_,fun a b h h1 h2=>?_,fun a b r h hr=>?_⟩
 ·rcases g.n a ha with z|z
  ·obtain⟨x,y,h1,h2⟩:=v.WT a z;exact⟨x,y,h1,by unfold Vb at h2⊢;lia⟩
  ·exact⟨i,j,z,by unfold Vb;lia⟩
 ·rcases cut a b h with⟨rfl,rfl⟩|h'
  ·exact e he
  ·exact g.e _ _ (v.en a b h' he)
 ·rcases cut a b h with⟨rfl,rfl⟩|h'
  ·exact on h1 h2
  ·have hs:s.1 (aR (a,b)) (aR (a,b)):=by
    rcases g.n _ h1 with z|z
    ·exact z
    ·have:=iH z;unfold Vb at h'
     lia
   obtain⟨r,z1,z2⟩:=v.on a b h' hs h2;exact⟨r,g.m _ _ z1,g.e _ _ z2⟩
 ·have Lo:=old a b r h hr;rcases cut a b h with⟨rfl,rfl⟩|h'
  ·exact ov r Lo
  ·obtain⟨z1,z2⟩:=v.ov a b r h' Lo;refine⟨fun z=>g.e _ _ (z1 z),fun c hc=>?_⟩;obtain⟨r',y1,y2⟩:=z2 c hc;exact⟨r',g.m _ _ y1,g.e _ _ y2⟩
theorem jM{f:Nat→Nat→Option Int}{n m:Nat}(t:Ds f n m){ps:List Pr}(w:Wy (lf f) ps){a:Pr}(h:a∈ps):∃i j:Nat,a=aR (i,j)∧i<n∧j<m:=by
 have hs:=w.ok a h;obtain⟨i,j,rfl⟩:=Bw hs;rw[qt]at hs;obtain⟨h1,h2⟩:=t i j hs;exact⟨i,j,rfl,h1,h2⟩
theorem Vd.step{f:Nat→Nat→Option Int}{o p W:Int}{n m:Nat}{s:GS}(T:e_ f o p W)(v:Vd f o p W (Vb n m 0 0) s){us vs:List Pr}{q r:Nat×Nat}(w:BW f o p W (us++aR q::aR r::vs))(hr:r.1<n)(Z0:r.2<m)(hq:q.1<r.1)(Fq:q.2<r.2)(hE:s.1 (aR r) (aR r)):s.1 (aR q) (aR r):=by
 obtain⟨b1,b2,b3⟩:=between T w;have ok:=v.ok;have V0:∀a b,a<n→b<m→Vb n m 0 0 a b:=fun a b h1 h2=>⟨h1,h2,by lia⟩
 have top:=b1 r.1 r.2 hq Fq (Nat.le_refl _) (Nat.le_refl _);obtain⟨r0,m0,e0⟩:=v.on r.1 r.2 (V0 _ _ hr Z0) hE (by rw[top];simpa[gM]using b3);have WU:∀x y:Nat,uC f o p (us++[aR q]) (x:Int) (y:Int)-o=uC f o p (us++[aR q]) ((x+1:Nat):Int) (y:Int):=fun x y=>by
  unfold uC;have e1:((x+1:Nat):Int)-1-(lstP (us++[aR q])).1=((x:Int)-1-(lstP (us++[aR q])).1)+1:=by lia
  rw[e1,Int.mul_add];lia
 have WV:∀x y:Nat,uC f o p (us++[aR q]) (x:Int) (y:Int)-p=uC f o p (us++[aR q]) (x:Int) ((y+1:Nat):Int):=fun x y=>by
  unfold uC;have e1:((y+1:Nat):Int)-1-(lstP (us++[aR q])).2=((y:Int)-1-(lstP (us++[aR q])).2)+1:=by lia
  rw[e1,Int.mul_add];lia
 have go:∀d x y:Nat,(r.1-x)+(r.2-y)=d→q.1<x→q.2<y→x≤r.1→y≤r.2→∃r',s.2 (aR (x,y))=some r'∧s.1 (aR r) r':=by
  intro d
  induction d with
  |zero=>
   intro x y hd h1 h2 h3 h4;have:x=r.1:=by lia
   have:y=r.2:=by lia
   subst x y;exact⟨r0,m0,e0⟩
  |succ d ih=>
   intro x y hd h1 h2 h3 h4;by_cases hx:x<r.1
   ·obtain⟨r1,m1,e1⟩:=ih (x+1) y Zu (by lia) h2 Zu h4;obtain⟨y,rfl⟩:∃y',y=y'+1:=⟨y-1,by lia⟩
    obtain⟨_,z⟩:=v.ov x y r1 (V0 _ _ (by lia) (by lia)) m1;have hc:aR (x,y+1)∈bq f o p x y:=by
     unfold bq;refine List.mem_append_left _ ?_;rw[if_pos]
     ·simp[aR]
     ·rw[b1 x (y+1) h1 h2 h3 h4,b1 (x+1) (y+1) (by lia) h2 Zu h4];simp only[bA];rw[WU]
    obtain⟨r2,m2,e2⟩:=z _ hc;exact⟨r2,m2,ok.tr _ _ _ e1 e2⟩
   ·obtain⟨r1,m1,e1⟩:=ih x (y+1) (by lia) h1 Zu h3 Zu;obtain⟨x,rfl⟩:∃x',x=x'+1:=⟨x-1,by lia⟩
    obtain⟨_,z⟩:=v.ov x y r1 (V0 _ _ (by lia) (by lia)) m1;have hc:aR (x+1,y)∈bq f o p x y:=by
     unfold bq;refine List.mem_append_right _ ?_;rw[if_pos]
     ·simp[aR]
     ·rw[b1 (x+1) y h1 h2 h3 h4,b1 (x+1) (y+1) h1 Zu h3 Zu];simp only[bA];rw[WV]
    obtain⟨r2,m2,e2⟩:=z _ hc;exact⟨r2,m2,ok.tr _ _ _ e1 e2⟩
 obtain⟨r1,m1,e1⟩:=go _ (q.1+1) (q.2+1) rfl (by lia) (by lia) (by lia) (by lia);obtain⟨z,_⟩:=v.ov q.1 q.2 r1 (V0 _ _ (by lia) (by lia)) m1;have:=z (by
  rw[b2,b1 (q.1+1) (q.2+1) (by lia) (by lia) (by lia) (by lia)]
  congr 1
  unfold uC;rw[dJ];have z1:((q.1+1:Nat):Int)-1-(aR q).1=0:=by show((q.1+1:Nat):Int)-1-(q.1:Int)=0;lia
  have z2:((q.2+1:Nat):Int)-1-(aR q).2=0:=by show((q.2+1:Nat):Int)-1-(q.2:Int)=0;lia
  rw[z1,z2,Int.mul_zero,Int.mul_zero];lia)
 exact ok.tr _ _ _ this (ok.sy _ _ e1)
theorem Vd.all{f:Nat→Nat→Option Int}{o p W:Int}{n m:Nat}{s:GS}(T:e_ f o p W)(t:Ds f n m)(v:Vd f o p W (Vb n m 0 0) s){ws:List Pr}(w:BW f o p W ws):
  ∀(vs us:List Pr),ws=us++vs→vs≠[]→∀a∈vs,s.1 a (mC vs)
 |[],_,_,h=>absurd rfl h
 |[l],us,e,_=>fun a ha=>by
  have ha:a=l:=by simpa using ha
  subst ha;show s.1 a a;obtain⟨i,j,rfl,hi,hj⟩:=jM t w.1 (a:=a) (by rw[e];simp);have hl:lstP ws=aR (i,j):=by rw[e];exact dJ
  obtain⟨b,hb,hle⟩:=xc (o:=o) (p:=p) w.1 hl;obtain⟨as,a1,a2,a3⟩:=mf hb;have:=T _ a1;have hW:=w.2;exact v.en i j ⟨hi,hj,Zx⟩ (by rw[hb];congr 1;omega)
 |q::r::vs,us,e,_=>fun a ha=>by
  have ih:=Vd.all T t v w (r::vs) (us++[q]) (by rw[e];simp) (ZA);have Mb:s.1 r r:=ih r Zr;have ok:=v.ok;obtain⟨i,j,hq,hi,hj⟩:=jM t w.1 (a:=q) (by rw[e];simp);obtain⟨x,y,hr,hx,hy⟩:=jM t w.1 (a:=r) (by rw[e];simp);have vi:Z7 q r:=by
   have:=w.1.up;rw[e]at this;exact(List.pairwise_cons.mp (List.pairwise_append.mp this).2.1).1 r Zr
  rw[hq,hr]at vi;have h1:(i:Int)<x:=vi.1;have h2:(j:Int)<y:=vi.2;rw[e,hq,hr]at w;have key:=v.step T w (q:=(i,j)) (r:=(x,y)) hx hy (by show i<x;omega) (by show j<y;omega) (by rw[←hr];exact Mb);rw[←hq,←hr]at key;show s.1 a q;rcases List.mem_cons.mp ha with rfl|ha
  ·exact ok.tr _ _ _ key (ok.sy _ _ key)
  ·exact ok.tr _ _ _ (ih a ha) (ok.sy _ _ key)
theorem Vd.R'{f:Nat→Nat→Option Int}{o p W:Int}{n m:Nat}{s:GS}(T:e_ f o p W)(t:Ds f n m)(v:Vd f o p W (Vb n m 0 0) s)(a b:Pr):s.1 a b↔gK f o p W a b:=by
 refine⟨v.ok.hg a b,fun h=>?_⟩
 induction h with
 |way ps w h1 h2=>
  have k:=Vd.all T t v w ps [] rfl w.1.ne;exact v.ok.tr _ _ _ (k _ h1) (v.ok.sy _ _ (k _ h2))
 |tr _ _ i1 i2=>exact v.ok.tr _ _ _ i1 i2
theorem Told.iff{E E':Pr→Pr→Prop}{gs:List (List Pr)}(t:Told E gs)(h:∀a b,E a b↔E' a b):Told E' gs:=
 ⟨t.sq,t.ne,fun ps hp a ha b=>(t.cls ps hp a ha b).trans (h a b),fun a ha=>t.all a ((h a a).mpr ha),t.apart⟩
def NT(H:Hp)(a:Addr):Prop:=∃o,H a=some o∧∀v,o≠ .tup v
theorem NT.same{H H':Hp}{a:Addr}(h:NT H a)(s:ax H H'):NT H' a:=let ⟨o,h1,h2⟩:=h;⟨o,s _ _ h1,h2⟩
theorem oQ.cI{S S':Addr→Prop}{H H':Hp}(u:oQ S H S' H')(h:∀a,S a→NT H a):e6 H H':=fun t v e=>u.keep t _ (fun z=>by
 obtain⟨o,h1,h2⟩:=h t z;rw[e]at h1;cases h1;exact h2 v rfl) e
theorem oQ.out{S S':Addr→Prop}{H H':Hp}(u:oQ S H S' H'){a:Addr}{o:HO}(h:¬S a)(e:H a=some o):¬S' a:=fun z=>by
 rcases u.grow a z with z|z
 ·exact h z
 ·rw[e]at z;cases z
theorem jL.nt{H:Hp}{C g:Addr}{S:Addr→Prop}{E:Pr→Pr→Prop}{B:Nat}(G:jL H C g S E B):jL H C g (fun a=>S a∧NT H a) E B:=by
 obtain⟨dg,dl,dm,kl,km,ld,mm,a1,a2,D,a4⟩:=G;refine⟨dg,dl,dm,kl,km,ld,mm,a1,fun z=>a2 z.1,⟨D.hl,D.hm,⟨D.sl,_,D.hl,fun v=>(ZA)⟩,⟨D.sm,_,D.hm,fun v=>(ZA)⟩,D.ne,D.lv,fun p=>?_,D.inj,D.key,D.BN,D.ms,D.ml,D.self⟩,a4⟩;have:=D.mv p;cases e:mm p with
 |none=>rw[e]at this;exact this
 |some ms=>
  rw[e]at this;obtain⟨a,us,h1,h2,h3,h4⟩:=this;exact⟨a,us,h1,h2,h3,h4,_,h2,fun v=>(ZA)⟩
structure I0(K:W.Frag)(C:Addr):Prop where
 cl:v7 K C
 tJ:bZ K C "trails"
 worth:bZ K C "worth"
 groups:bZ K C "groups"
 marks:bZ K C "marks"
def jN(tr:Addr)(W:Int)(g dk:Addr):List (Str×V):=[("trails", .ref tr),("worth", .int W),("groups", .ref g),("marks", .ref dk)]
theorem mh(a:Addr)(W:Int)(b c:Addr):(jN a W b c).lookup ("trails":Str)=some (V.ref a):=by kernel_rfl
theorem Fs(a:Addr)(W:Int)(b c:Addr):(jN a W b c).lookup ("worth":Str)=some (V.int W):=by kernel_rfl
theorem iU(a:Addr)(W:Int)(b c:Addr):(jN a W b c).lookup ("groups":Str)=some (V.ref b):=by kernel_rfl
theorem lF(a:Addr)(W:Int)(b c:Addr):(jN a W b c).lookup ("marks":Str)=some (V.ref c):=by kernel_rfl
theorem BR(a:Addr)(W:Int)(b c:Addr):(jN a W b c).lookup ("mark":Str)=none:=by kernel_rfl
theorem Ho(a:Addr)(W:Int)(b c:Addr):(jN a W b c).lookup ("go_over":Str)=none:=by kernel_rfl
theorem Ft(a:Addr)(W:Int)(b c:Addr):(jN a W b c).lookup ("visit":Str)=none:=by kernel_rfl
theorem Lr(a:Addr)(W:Int)(b c:Addr):bp "marks" (.ref c) (bp "groups" (.ref b) (bp "worth" (.int W) (bp "trails" (.ref a) [])))=jN a W b c:=by kernel_rfl
structure Ls(H:Hp)(C CG x tr:Addr)(W:Int)(S:Addr→Prop)(s:GS)(B M:Nat)(dx g dk:Addr)(km:List (List Key×V))(S1:Addr→Prop):Prop where
 ob:H x=some (.ins C dx (jN tr W g dk))
 gr:jL H CG g S1 s.1 B
 hk:H dk=some (.dT km)
 mv:∀c,Lm H (bu km (a9 c)) (s.2 c)
 len:km.length≤M
 sS:∀a,S a↔S1 a∨a=dk
 BN:¬S1 dk
 nx:¬S x
 ng:¬S g
 nt:∀a,S a→NT H a
def il(H:Hp)(C CG x tr:Addr)(W:Int)(S:Addr→Prop)(s:GS)(B M:Nat):Prop:=∃dx g dk km S1,Ls H C CG x tr W S s B M dx g dk km S1
theorem il.nt{H:Hp}{C CG x tr:Addr}{W:Int}{S:Addr→Prop}{s:GS}{B M:Nat}(G:il H C CG x tr W S s B M):∀a,S a→NT H a:=let ⟨_,_,_,_,_,D⟩:=G;D.nt
theorem il.same{H H':Hp}{C CG x tr:Addr}{W:Int}{S:Addr→Prop}{s:GS}{B M:Nat}(G:il H C CG x tr W S s B M)(t:ax H H'):il H' C CG x tr W S s B M:=by
 obtain⟨dx,g,dk,km,S1,D⟩:=G;exact⟨dx,g,dk,km,S1,t _ _ D.ob,D.gr.same t,t _ _ D.hk,fun c=>(D.mv c).cI (e6.same t),D.len,D.sS,D.BN,D.nx,D.ng,fun a h=>(D.nt a h).same t⟩
theorem il.out{H:Hp}{C CG x tr:Addr}{W:Int}{S:Addr→Prop}{s:GS}{B M:Nat}(G:il H C CG x tr W S s B M){a:Addr}(h:H a=none):¬S a:=fun z=>by
 obtain⟨o,e,_⟩:=G.nt a z;rw[h]at e;cases e
theorem il.cast{H:Hp}{C CG x tr:Addr}{W:Int}{S:Addr→Prop}{s s':GS}{B M B' M':Nat}(G:il H C CG x tr W S s B M)(h:s=s')(hB:B≤B')(hM:M≤M'):il H C CG x tr W S s' B' M':=by
 subst h;obtain⟨dx,g,dk,km,S1,D⟩:=G;exact⟨dx,g,dk,km,S1,D.ob,D.gr.iff (fun _ _=>Iff.rfl) hB,D.hk,D.mv,by have:=D.len;omega,D.sS,D.BN,D.nx,D.ng,D.nt⟩
section
variable{H H':Hp}{C CG x tr dx g dk:Addr}{W:Int}{S S1 Lu:Addr→Prop}{s:GS}{B M B':Nat}{km:List (List Key×V)}
theorem Ls.P9(D:Ls H C CG x tr W S s B M dx g dk km S1){E':Pr→Pr→Prop}(u:oQ S1 H Lu H')(G:jL H' CG g Lu E' B'):∃S' S2,oQ S H S' H'∧Ls H' C CG x tr W S' (E',s.2) B' M dx g dk km S2:=by
 have s1:∀a,S1 a→S a:=fun a h=>(D.sS a).mpr (.inl h)
 have WW:∀a,S1 a→NT H a:=fun a h=>D.nt a (s1 a h)
 have T:=u.cI WW;have Ey:=u.keep dk _ D.BN D.hk;obtain⟨dg,dl,dm,kl,Hq,ld,mm,og,_⟩:=id D.gr;have gone:∀{a o},¬S a→H a=some o→a≠dk→¬((Lu a∧NT H' a)∨a=dk):=fun{a o} h1 h2 h3 z=>by
  rcases z with z|z
  ·exact u.out (fun y=>h1 (s1 _ y)) h2 z.1
  ·exact h3 z
 have Ax:S dk:=(D.sS dk).mpr (.inr rfl);refine⟨fun a=>(Lu a∧NT H' a)∨a=dk,fun a=>Lu a∧NT H' a,⟨fun a h=>?_,fun a o h e=>u.keep a o (fun z=>h (s1 a z)) e⟩,⟨u.keep x _ (fun z=>D.nx (s1 _ z)) D.ob,G.nt,Ey,fun c=>(D.mv c).cI T,D.len,fun a=>Iff.rfl,fun z=>u.out D.BN D.hk z.1,gone D.nx D.ob (fun z=>D.nx (by rw[z];exact Ax)),gone D.ng og (fun z=>D.ng (by rw[z];exact Ax)),fun a h=>?_⟩⟩
 ·rcases h with h|h
  ·exact(u.grow a h.1).imp (s1 a) id
  ·exact .inl (by rw[h];exact Ax)
 ·rcases h with h|h
  ·exact h.2
  ·exact⟨_,by rw[h];exact Ey,fun v=>(ZA)⟩
theorem Ls.put(D:Ls H C CG x tr W S s B M dx g dk km S1){c r:Pr}{t:Addr}(ht:H t=some (.tup (jo r))):oQ S H S (upd H dk (.dT (putK km (a9 c) (.ref t))))∧Ls (upd H dk (.dT (putK km (a9 c) (.ref t)))) C CG x tr W S (s.1,fun y=>if y=c then some r else s.2 y) B (M+1) dx g dk (putK km (a9 c) (.ref t)) S1:=by
 have Ax:S dk:=(D.sS dk).mpr (.inr rfl);have nx:x≠dk:=fun z=>D.nx (by rw[z];exact Ax)
 have ng:g≠dk:=fun z=>D.ng (by rw[z];exact Ax)
 have T:e6 H (upd H dk (.dT (putK km (a9 c) (.ref t)))):=fun b v hb=>by
  rw[ao (fun z=>by rw[z,D.hk]at hb;cases hb)];exact hb
 refine⟨.put Ax,⟨by rw[ao nx];exact D.ob,D.gr.keep (fun a o h e=>by rw[ao (fun z=>D.BN (by rw[←z];exact h))];exact e) T (fun o e=>by rw[ao ng];exact e),ae,fun y=>?_,Nat.le_trans (eY _ _ _) (by have:=D.len;omega),D.sS,D.BN,D.nx,D.ng,fun a h=>?_⟩⟩
 ·show Lm _ _ (if y=c then some r else s.2 y);rw[iY];by_cases e:y=c
  ·rw[Zk (by rw[e]),Zk e];exact⟨t,rfl,T _ _ ht⟩
  ·rw[Zh (fun z=>e (dj z)),Zh e];exact(D.mv y).cI T
 ·by_cases e:a=dk
  ·exact⟨_,by rw[e];exact ae,fun v=>(ZA)⟩
  ·obtain⟨o,h1,h2⟩:=D.nt a h;exact⟨o,by rw[ao e];exact h1,h2⟩
end
structure Base(H0 H:Hp)(S:Addr→Prop):Prop where
 same:ax H0 H
 free:∀a,S a→H0 a=none
theorem Base.ups{H0 H H':Hp}{S S':Addr→Prop}(b:Base H0 H S)(u:oQ S H S' H'):Base H0 H' S':=by
 refine⟨fun a o h=>u.keep a o (fun z=>by rw[b.free a z]at h;cases h) (b.same a o h),fun a h=>?_⟩;rcases u.grow a h with z|z
 ·exact b.free a z
 ·exact b.same.free z
theorem Base.more{H0 H H':Hp}{S:Addr→Prop}(b:Base H0 H S)(s:ax H H'):Base H0 H' S:=⟨b.same.trans s,b.free⟩
inductive qy(C CG:Addr)(vs:List V)(H:Hp)(Q:VK)(u3:XK):Prop
 |mk (x dx tr:Addr) (W:Int) (_:vs=[.ref x, .ref tr, .int W]) (_:H x=some (.ins C dx [])) (_:∀H' S,SameBut x H H'→(∀a,S a→H a=none)→il H' C CG x tr W S (fun _ _=>False,fun _=>none) 0 0→Q .cO H'):qy C CG vs H Q u3
inductive tK(C CG:Addr)(vs:List V)(H:Hp)(Q:VK)(u3:XK):Prop
 |mk (x tc tp tr:Addr) (W:Int) (c r:Pr) (S:Addr→Prop) (s:GS) (B M:Nat) (_:vs=[.ref x, .ref tc, .ref tp]) (_:il H C CG x tr W S s B M) (_:H tc=some (.tup (jo c))) (_:H tp=some (.tup (jo r))) (_:s.1 r r) (_:∀r0,s.2 c=some r0→s.1 r0 r0) (_:B≤10000) (_:M≤10000) (_:∀H' S',oQ S H S' H'→il H' C CG x tr W S' (yV s c r) B (M+1)→Q .cO H'):tK C CG vs H Q u3
inductive tL(C CG CT:Addr)(vs:List V)(H:Hp)(Q:VK)(u3:XK):Prop
 |mk (x tc tp tr dt e b:Addr) (es bs:List Addr) (f:Nat→Nat→Option Int) (o p:Int) (n m:Nat) (W:Int) (i j:Nat) (r:Pr) (S:Addr→Prop) (s:GS) (B M:Nat) (H0:Hp) (_:vs=[.ref x, .ref tc, .ref tp]) (_:il H C CG x tr W S s B M) (_:qv H0 CT tr dt e b es bs f o p n m) (_:Base H0 H S) (_:H tc=some (.tup (jo (aR (i+1,j+1))))) (_:H tp=some (.tup (jo (aR (i,j))))) (_:i<n) (_:j<m) (_:e_ f o p W) (_:ik f o p W s) (_:s.2 (aR (i+1,j+1))=some r) (_:B<10000) (_:M+2≤10000)
  (_:∀H' S',oQ S H S' H'→il H' C CG x tr W S' (Lp f o p i j s r) (B+1) (M+2)→Q .cO H'):tL C CG CT vs H Q u3
inductive qz(C CG CT:Addr)(vs:List V)(H:Hp)(Q:VK)(u3:XK):Prop
 |mk (x tr dt e b:Addr) (es bs:List Addr) (f:Nat→Nat→Option Int) (o p:Int) (n m:Nat) (W:Int) (i j:Nat) (S:Addr→Prop) (s:GS) (B M:Nat) (H0:Hp) (_:vs=[.ref x, .int i, .int j]) (_:il H C CG x tr W S s B M) (_:qv H0 CT tr dt e b es bs f o p n m) (_:Base H0 H S) (_:i<n) (_:j<m) (_:n≤1000) (_:m≤1000) (_:e_ f o p W) (_:ik f o p W s) (_:B+2≤10000) (_:M+3≤10000)
  (_:∀H' S',oQ S H S' H'→il H' C CG x tr W S' (Z1 f o p W i j s) (B+2) (M+3)→Q .cO H'):qz C CG CT vs H Q u3
inductive Ay(CT:Addr)(vs:List V)(H:Hp)(Q:VK)(u3:XK):Prop
 |mk (tr dt e b:Addr) (es bs:List Addr) (f:Nat→Nat→Option Int) (o p:Int) (n m:Nat) (W:Int) (_:vs=[.ref tr, .int W]) (_:qv H CT tr dt e b es bs f o p n m) (_:Ds f n m) (_:n*m≤3000) (_:n≤1000) (_:m≤1000) (_:e_ f o p W)
  (_:∀H' r us gs,ax H H'→H r=none→H' r=some (.lst us)→f9 H' us gs→(∀(k:Nat) a,us[k]?=some (.ref a)→H a=none)→Told (gK f o p W) gs→Q (.ref r) H'):Ay CT vs H Q u3
structure Fd where
 worth:Int
 way:List Pr
 row:List Int
 pairs:List Pr
def Z6(g:Pr→Option Int)(o p:Int)(ps:List Pr):List Int:=(List.range ps.length).map fun k=>vl g o p (ps.take (k+1))
theorem Fu(g:Pr→Option Int)(o p:Int)(ps:List Pr)(q:Pr):Z6 g o p (ps++[q])=Z6 g o p ps++[vl g o p (ps++[q])]:=by
 unfold Z6;rw[List.length_append,List.length_singleton,List.range_succ,List.map_append]
 congr 1
 ·apply List.map_congr_left;intro k hk;have:k<ps.length:=by simpa using hk
  rw[List.take_append_of_le_length Zt]
 ·simp;rw[List.take_of_length_le Zr]
structure Ot(f:Nat→Nat→Option Int)(o p W:Int)(d:Fd):Prop where
 worth:d.worth=W
 way:BW f o p W d.way
 row:d.row=Z6 (lf f) o p d.way
 sub:∀q∈d.way,q∈d.pairs
def kU(f:Nat→Nat→Option Int)(ps:List Pr):Nat→Nat→Option Int:=fun i j=>if aR (i,j)∈ps then none else f i j
def Stop(f:Nat→Nat→Option Int)(o p least:Int):Prop:=∀ps,Wy (lf f) ps→vl (lf f) o p ps<least
structure mi(f:Nat→Nat→Option Int)(o p least W:Int)(gs:List (List Pr))(ds:List Fd):Prop where
 top:e_ f o p W
 ex:∃ps,BW f o p W ps
 least:least≤W
 told:Told (gK f o p W) gs
 Hr:ds.map Fd.pairs=gs
 ok:∀d∈ds,Ot f o p W d
inductive Reach(f0:Nat→Nat→Option Int)(o p least:Int):List Fd→(Nat→Nat→Option Int)→Prop
 |start:Reach f0 o p least [] f0
 |round {done:List Fd} {f:Nat→Nat→Option Int} {W:Int} {gs:List (List Pr)} {ds:List Fd} (_:Reach f0 o p least done f) (_:mi f o p least W gs ds):Reach f0 o p least (done++ds) (kU f gs.flatten)
theorem Fv{f:Nat→Nat→Option Int}{n m:Nat}(t:Ds f n m)(ps:List Pr):Ds (kU f ps) n m:=fun i j h=>t i j (by
 unfold kU at h;split at h
 ·cases h
 ·exact h)
theorem Reach.Se{f0 f:Nat→Nat→Option Int}{o p least:Int}{ds:List Fd}{n m:Nat}(t:Ds f0 n m)(r:Reach f0 o p least ds f):Ds f n m:=by
 induction r with
 |start=>exact t
 |round _ _ ih=>exact Fv ih _
theorem sD(f:Nat→Nat→Option Int)(ps:List Pr)(q:Pr):lf (kU f ps) q=if q∈ps then none else lf f q:=by
 unfold lf kU;by_cases h:0≤q.1∧0≤q.2
 ·rw[Zk h,Zk h];have:aR (q.1.toNat,q.2.toNat)=q:=Prod.ext (by simp[aR];omega) (by simp[aR];omega);rw[this]
 ·rw[Zh h,Zh h];split<;>rfl
theorem gK.open{f:Nat→Nat→Option Int}{o p W:Int}{a b:Pr}(h:gK f o p W a b):(lf f a).isSome=true:=by
 obtain⟨ps,⟨w,_⟩,hm⟩:=h.on;exact w.ok a hm
theorem Told.mem{E:Pr→Pr→Prop}{gs:List (List Pr)}(t:Told E gs){ps:List Pr}(h:ps∈gs){a:Pr}(ha:a∈ps):E a a:=(t.cls ps h a ha a).mp ha
structure Apart(f0 f:Nat→Nat→Option Int)(ds:List Fd):Prop where
 sub:∀q,(lf f q).isSome=true→lf f q=lf f0 q
 shut:∀d∈ds,∀q∈d.pairs,lf f q=none∧(lf f0 q).isSome=true
 ap:ds.Pairwise fun a b=>∀q∈a.pairs,q∉b.pairs
 sq:∀d∈ds,d.pairs.Pairwise (fun p q=>ij p q=true)∧d.pairs≠[]
 gone:∀q,lf f q=none→(lf f0 q).isSome=true→∃d∈ds,q∈d.pairs
theorem Reach.apart{f0 f:Nat→Nat→Option Int}{o p least:Int}{ds:List Fd}(r:Reach f0 o p least ds f):Apart f0 f ds:=by
 induction r with
 |start=>exact⟨fun _ _=>rfl,fun d h=>(by cases h), .nil,fun d h=>(by cases h),fun q h1 h2=>by rw[h1]at h2;cases h2⟩
 |@round done f W gs ds r R ih=>
  have mem:∀d∈ds,d.pairs∈gs:=fun d h=>by rw[←R.Hr];exact List.mem_map.mpr ⟨d,h,rfl⟩
  have op:∀d∈ds,∀q∈d.pairs,(lf f q).isSome=true:=fun d h q hq=>(R.told.mem (mem d h) hq).open
  refine⟨fun q h=>?_,fun d h q hq=>?_,?_,fun d h=>?_,fun q h1 h2=>?_⟩
  ·rw[sD]at h⊢;split at h
   ·cases h
   ·rename_i hn
    rw[Zh hn];exact ih.sub q h
  ·rw[sD];rcases List.mem_append.mp h with h|h
   ·obtain⟨h1,h2⟩:=ih.shut d h q hq;exact⟨by split;rfl;exact h1,h2⟩
   ·rw[Zk (List.mem_flatten.mpr ⟨_,mem d h,hq⟩)];have:=op d h q hq;exact⟨rfl,by rw[←ih.sub q this];exact this⟩
  ·refine List.pairwise_append.mpr ⟨ih.ap,?_,fun a ha b hb q hq Fq=>?_⟩
   ·have:=R.told.apart;rw[←R.Hr,List.pairwise_map]at this;exact this
   ·have h1:=(ih.shut a ha q hq).1;have h2:=op b hb q Fq;rw[h1]at h2;cases h2
  ·rcases List.mem_append.mp h with h|h
   ·exact ih.sq d h
   ·exact⟨R.told.sq _ (mem d h),R.told.ne _ (mem d h)⟩
  ·rw[sD]at h1;by_cases hm:q∈gs.flatten
   ·obtain⟨ps,Dv,hq⟩:=List.mem_flatten.mp hm;rw[←R.Hr]at Dv;obtain⟨d,hd,rfl⟩:=List.mem_map.mp Dv;exact⟨d,List.mem_append_right _ hd,hq⟩
   ·rw[Zh hm]at h1;obtain⟨d,hd,hq⟩:=ih.gone q h1 h2;exact⟨d,List.mem_append_left _ hd,hq⟩
theorem tM(f:Nat→Nat→Option Int)(o p:Int):∀i j v,Bq f o p i j=some v→∃e,dE f o p (cN f o p i j).1 (cN f o p i j).2=some e∧v=e-(o*((i:Int)-1-(cN f o p i j).1)+p*((j:Int)-1-(cN f o p i j).2))
 |0,j,v,h=>by rw[iG]at h;cases h
 |i+1,0,v,h=>by unfold Bq at h;cases h
 |i+1,j+1,v,hB=>by
  unfold cN;by_cases h1:dE f o p i j=Bq f o p (i+1) (j+1)
  ·rw[Zk h1];refine⟨v,by rw[h1,hB],?_⟩;have e1:((i+1:Nat):Int)-1-((i,j).1:Int)=0:=by show((i+1:Nat):Int)-1-(i:Int)=0;omega
   have e2:((j+1:Nat):Int)-1-((i,j).2:Int)=0:=by show((j+1:Nat):Int)-1-(j:Int)=0;omega
   rw[e1,e2,Int.mul_zero,Int.mul_zero];omega
  ·rw[Zh h1];by_cases h2:bA (Bq f o p i (j+1)) o=Bq f o p (i+1) (j+1)
   ·rw[Zk h2];cases e:Bq f o p i (j+1)with
    |none=>rw[e,hB]at h2;cases h2
    |some v2=>
     rw[e,hB]at h2;have h2:v2-o=v:=by simpa[bA]using h2
     obtain⟨x,hx,hv⟩:=tM f o p i (j+1) v2 e;refine⟨x,hx,?_⟩;have e1:((i+1:Nat):Int)-1-((cN f o p i (j+1)).1:Int)=((i:Int)-1-(cN f o p i (j+1)).1)+1:=Zx;rw[e1,Int.mul_add];omega
   ·rw[Zh h2];have e0:Bq f o p (i+1) (j+1)=oI [dE f o p i j,bA (Bq f o p i (j+1)) o,bA (Bq f o p (i+1) j) p]:=by rw[Bq];rfl
    have key:∀a b c:Option Int,oI [a,b,c]≠a→oI [a,b,c]≠b→c=oI [a,b,c]:=fun a b c=>by
     cases a<;>cases b<;>cases c<;>simp[oI]<;>omega
    have h3:bA (Bq f o p (i+1) j) p=Bq f o p (i+1) (j+1):=by
     rw[e0];exact key _ _ _ (fun z=>h1 (by rw[e0];exact z.symm)) (fun z=>h2 (by rw[e0];exact z.symm))
    cases e:Bq f o p (i+1) j with
    |none=>rw[e,hB]at h3;cases h3
    |some v2=>
     rw[e,hB]at h3;have h3:v2-p=v:=by simpa[bA]using h3
     obtain⟨x,hx,hv⟩:=tM f o p (i+1) j v2 e;refine⟨x,hx,?_⟩;have e1:((j+1:Nat):Int)-1-((cN f o p (i+1) j).2:Int)=((j:Int)-1-(cN f o p (i+1) j).2)+1:=Zx;rw[e1,Int.mul_add];omega
termination_by i j=>(i,j)
theorem Hs(f:Nat→Nat→Option Int)(o p:Int):∀(k i j:Nat)(v:Int),i≤k→dE f o p i j=some v→Wy (lf f) ((eI f o p i i j).map aR)∧lstP ((eI f o p i i j).map aR)=aR (i,j)∧vl (lf f) o p ((eI f o p i i j).map aR)=v∧(eI f o p i i j).map (fun q=>dE f o p q.1 q.2)=(Z6 (lf f) o p ((eI f o p i i j).map aR)).map some:=by
 intro k
 induction k with
 |zero=>
  intro i j v hi he;have:i=0:=Zx;subst this;rw[gQ (fun h=>by rw[iG]at h;cases h)];have hw:f 0 j=some v:=by
   unfold dE at he;rw[iG]at he;cases e:f 0 j with
   |none=>rw[e]at he;cases he
   |some w=>rw[e]at he;exact he
  have hl:lf f (aR (0,j))=some v:=by rw[←hw];exact qt f 0 j
  refine⟨.one (by rw[hl];rfl),rfl,by simp[vl,hl],?_⟩;simp[Z6,vl,hl,he]
 |succ k ih=>
  intro i j v hi he;by_cases hg:gM (Bq f o p i j)=true
  ·obtain⟨a1,a2,a3⟩:=j7 hg;obtain⟨l1,l2⟩:=(kx f o p i j a1 a2).resolve_right a3;rw[vN hg,List.map_append,List.map_append];cases eb:Bq f o p i j with
   |none=>exact absurd eb a3
   |some b=>
    obtain⟨x,hx,hb⟩:=tM f o p i j b eb;obtain⟨w1,w2,w3,w4⟩:=ih _ _ x (Zx) hx;have Yx:0≤b:=by rw[eb]at hg;simpa[gM]using hg
    have hw:∃w,f i j=some w∧v=w+b:=by
     unfold dE at he;rw[eb]at he;cases e:f i j with
     |none=>rw[e]at he;cases he
     |some w=>
      rw[e]at he;simp only[G0,show ¬b<0 by omega,if_false,Option.some.injEq]at he;exact⟨w,rfl,Zx⟩
    obtain⟨w,hw,hv⟩:=hw;have hl:lf f (aR (i,j))=some w:=by rw[←hw];exact qt f i j
    have st:Z7 (lstP ((eI f o p (cN f o p i j).1 (cN f o p i j).1 (cN f o p i j).2).map aR)) (aR (i,j)):=by
     rw[w2];exact⟨by simp[aR];omega,by simp[aR];omega⟩
    have ev:vl (lf f) o p ((eI f o p (cN f o p i j).1 (cN f o p i j).1 (cN f o p i j).2).map aR++[aR (i,j)])=v:=by
     rw[oK _ _ _ w1.ne,w2,w3,hl];simp only[gp,Option.getD_some];have e1:(aR (i,j)).1-(aR ((cN f o p i j).1,(cN f o p i j).2)).1-1=(i:Int)-1-(cN f o p i j).1:=by show(i:Int)-((cN f o p i j).1:Int)-1=_;omega
     have e2:(aR (i,j)).2-(aR ((cN f o p i j).1,(cN f o p i j).2)).2-1=(j:Int)-1-(cN f o p i j).2:=by show(j:Int)-((cN f o p i j).2:Int)-1=_;omega
     rw[e1,e2];omega
    refine⟨w1.snoc (by rw[hl];rfl) st,dJ,ev,?_⟩;show _++[dE f o p i j]=(Z6 (lf f) o p (_++[aR (i,j)])).map some;rw[Fu,List.map_append,w4,he];show _++[some v]=_++[some _];rw[ev]
  ·rw[gQ hg];have hw:f i j=some v:=by
    unfold dE at he;cases e:f i j with
    |none=>rw[e]at he;cases he
    |some w=>
     rw[e]at he;cases eb:Bq f o p i j with
     |none=>rw[eb]at he;exact he
     |some b=>
      rw[eb]at he hg;have:b<0:=by
       have:¬0≤b:=fun z=>hg (by simpa[gM]using z)
       omega
      simp only[G0,this,if_true]at he;exact he
   have hl:lf f (aR (i,j))=some v:=by rw[←hw];exact qt f i j
   refine⟨.one (by rw[hl];rfl),rfl,by simp[vl,hl],?_⟩;simp[Z6,vl,hl,he]
def Ht(f:Nat→Nat→Option Int)(o p:Int)(n m:Nat):Option Int:=oI ((List.range n).map fun i=>oI ((List.range m).map (dE f o p i)))
theorem Fw{f:Nat→Nat→Option Int}{n m:Nat}(t:Ds f n m)(o p:Int):fT (fun v=>∃ps,Wy (lf f) ps∧v=vl (lf f) o p ps) (Ht f o p n m):=by
 refine(kr _).Uk (fun v hv=>?_) (fun v hv=>?_)
 ·obtain⟨i,_,h2⟩:=List.mem_map.mp hv;have h3:=kr ((List.range m).map (dE f o p i));rw[h2]at h3;obtain⟨j,_,h4⟩:=List.mem_map.mp h3.1;obtain⟨as,a1,_,a3⟩:=mf h4;exact⟨as,a1,a3.symm⟩
 ·obtain⟨ps,w,rfl⟩:=hv;obtain⟨i,j,hl,hi,hj⟩:=jM t w (cR w.ne);obtain⟨b,hb,hle⟩:=xc (o:=o) (p:=p) w hl;have h3:=kr ((List.range m).map (dE f o p i));have n6:some b∈(List.range m).map (dE f o p i):=List.mem_map.mpr ⟨j,by simpa using hj,hb⟩;cases e:oI ((List.range m).map (dE f o p i))with
  |none=>rw[e]at h3;exact absurd n6 (h3 b)
  |some u=>
   rw[e]at h3;refine⟨u,List.mem_map.mpr ⟨i,by simpa using hi,e⟩,?_⟩;have:=h3.2 b n6;omega
theorem CW{f:Nat→Nat→Option Int}{o p W:Int}(T:e_ f o p W){n m:Nat}(t:Ds f n m){a b:Pr}(h:gK f o p W a b):∃i j:Nat,dE f o p i j=some W∧i<n∧j<m∧gK f o p W a (aR (i,j)):=by
 obtain⟨ps,w,hm⟩:=h.on;obtain⟨i,j,hl,hi,hj⟩:=jM t w.1 (cR w.1.ne);obtain⟨v,hb,hle⟩:=xc (o:=o) (p:=p) w.1 hl;obtain⟨as,a1,_,a3⟩:=mf hb;have:=T _ a1;have hW:=w.2;refine⟨i,j,by rw[hb];congr 1;omega,hi,hj, .way ps w hm ?_⟩;rw[←hl];exact cR w.1.ne
def uD(n m:Nat):List Pr:=(List.range n).flatMap fun i=>(List.range m).map fun j=>aR (i,j)
theorem oS(n m:Nat):(uD n m).length=n*m:=by
 unfold uD
 induction n with
 |zero=>simp
 |succ n ih=>
  rw[List.range_succ,List.flatMap_append,List.length_append,ih,Nat.succ_mul];simp
theorem oT{n m i j:Nat}(hi:i<n)(hj:j<m):aR (i,j)∈uD n m:=List.mem_flatMap.mpr ⟨i,by simpa using hi,List.mem_map.mpr ⟨j,by simpa using hj,rfl⟩⟩
theorem Told.vx{E:Pr→Pr→Prop}{gs:List (List Pr)}{n m:Nat}(t:Told E gs)(h:∀g∈gs,∀a∈g,∃i j:Nat,a=aR (i,j)∧i<n∧j<m):gs.length≤n*m:=by
 have hf:∀g∈gs,mC g∈g:=fun g hg=>by
  cases e:g with
  |nil=>exact absurd e (t.ne g hg)
  |cons a r=>simp[mC]
 have:=len_sub (gs.map mC) (uD n m) (List.pairwise_map.mpr (List.Pairwise.imp_of_mem (fun{a b} ha hb Fg e=>Fg (mC a) (hf a ha) (by rw[e];exact hf b hb)) t.apart)) fun x hx=>by
  obtain⟨g,hg,rfl⟩:=List.mem_map.mp hx;obtain⟨i,j,e,hi,hj⟩:=h g hg _ (hf g hg);rw[e];exact oT hi hj
 rw[List.length_map,oS]at this;exact this
structure rp(P:Addr→Prop)(H:Hp)(CF a:Addr)(d:Fd)(dy wy rw pr:Addr)(jt gY:List V):Prop where
 ob:H a=some (.ins CF dy (lE d.worth wy rw pr))
 hw:H wy=some (.lst jt)
 pw:f7 H jt d.way
 hr:H rw=some (.lst (d.row.map V.int))
 hp:H pr=some (.lst gY)
 pp:f7 H gY d.pairs
 fa:P a
 fw:P wy
 fr:P rw
 fp:P pr
def cG(P:Addr→Prop)(H:Hp)(CF:Addr)(us:List V)(ds:List Fd):Prop:=us.length=ds.length∧∀(k:Nat) d,ds[k]?=some d→∃a dy wy rw pr jt gY,us[k]?=some (V.ref a)∧rp P H CF a d dy wy rw pr jt gY
theorem rp.keep{P P':Addr→Prop}{H H':Hp}{CF a:Addr}{d:Fd}{dy wy rw pr:Addr}{jt gY:List V}(F:rp P H CF a d dy wy rw pr jt gY)(h:∀b o,P b→H b=some o→H' b=some o)(t:e6 H H')(hP:∀b,P b→P' b):rp P' H' CF a d dy wy rw pr jt gY:=
 ⟨h _ _ F.fa F.ob,h _ _ F.fw F.hw,F.pw.cI t,h _ _ F.fr F.hr,h _ _ F.fp F.hp,F.pp.cI t,hP _ F.fa,hP _ F.fw,hP _ F.fr,hP _ F.fp⟩
theorem cG.keep{P P':Addr→Prop}{H H':Hp}{CF:Addr}{us:List V}{ds:List Fd}(F:cG P H CF us ds)(h:∀b o,P b→H b=some o→H' b=some o)(t:e6 H H')(hP:∀b,P b→P' b):cG P' H' CF us ds:=
 ⟨F.1,fun k d e=>let ⟨a,dy,wy,rw,pr,jt,gY,h1,h2⟩:=F.2 k d e;⟨a,dy,wy,rw,pr,jt,gY,h1,h2.keep h t hP⟩⟩
theorem cG.nil{P:Addr→Prop}{H:Hp}{CF:Addr}:cG P H CF [] []:=⟨rfl,fun k d e=>by simp at e⟩
theorem cG.append{P:Addr→Prop}{H:Hp}{CF:Addr}{us vs:List V}{ds es:List Fd}(F:cG P H CF us ds)(G:cG P H CF vs es):cG P H CF (us++vs) (ds++es):=by
 refine⟨by rw[List.length_append,List.length_append,F.1,G.1],fun k d e=>?_⟩;by_cases hk:k<ds.length
 ·rw[List.getElem?_append_left hk]at e;rw[List.getElem?_append_left (by rw[F.1];exact hk)];exact F.2 k d e
 ·rw[List.getElem?_append_right Zt]at e;rw[List.getElem?_append_right (by rw[F.1];omega),F.1];exact G.2 _ d e
inductive tN(CT:Addr)(vs:List V)(H:Hp)(Q:VK)(u3:XK):Prop
 |mk (f g t:Addr) (v:V) (c:Case) (shut:List Pr) (_:vs=[.ref f, .ref g, .ref t,v]) (_:H f=some (.lst (c.xs.map V.str))) (_:H g=some (.lst (c.ys.map V.str))) (_:wM H CT t c) (_:EF H v shut) (_:shut.length≤1000) (_:c.xs.length≤1000) (_:c.ys.length≤1000) (_:∀H' e as,ax H H'→H' e=some (.lst (as.map V.ref))→H e=none→i8 H' as (i7 c shut) c.xs.length c.ys.length→as.Nodup→e∉as→(∀a∈as,H a=none)→Q (.ref e) H'):tN CT vs H Q u3
inductive oU(CT CF:Addr)(vs:List V)(H:Hp)(Q:VK)(u3:XK):Prop
 |mk (w t:Addr) (as:List Addr) (c:Case) (f:Nat→Nat→Option Int) (n m:Nat) (_:vs=[.ref w, .ref t]) (_:H w=some (.lst (as.map V.ref))) (_:i8 H as f n m) (_:wM H CT t c) (_:Ds f n m) (_:n*m≤3000) (_:n≤1000) (_:m≤1000)
  (_:Stop f c.out c.into c.least→∀H' r,ax H H'→H r=none→H' r=some (.lst [])→Q (.ref r) H')
  (_:∀W gs ds,mi f c.out c.into c.least W gs ds→gs≠[]→∀H' r us,ax H H'→H r=none→H' r=some (.lst us)→cG (fun b=>H b=none) H' CF us ds→Q (.ref r) H'):oU CT CF vs H Q u3
inductive tO(CF:Addr)(vs:List V)(H:Hp)(Q:VK)(u3:XK):Prop
 |mk (w md:Addr) (as:List Addr) (us:List V) (ds:List Fd) (f:Nat→Nat→Option Int) (n m:Nat) (_:vs=[.ref w, .ref md]) (_:H w=some (.lst (as.map V.ref))) (_:as.Nodup) (_:w∉as) (_:i8 H as f n m) (_:H md=some (.lst us)) (_:md∉as) (_:cG (fun b=>b∉as) H CF us ds) (_:∀d∈ds,∀q∈d.pairs,∃i j:Nat,q=aR (i,j)∧i<n∧j<m)
  (_:∀H',(∀b o,b∉as→H b=some o→H' b=some o)→e6 H H'→i8 H' as (kU f (ds.map Fd.pairs).flatten) n m→Q .cO H'):tO CF vs H Q u3
def Ou(a b:Fd):Bool:=if a.worth=b.worth then ij (mC a.pairs) (mC b.pairs)else decide (b.worth<a.worth)
structure dM(f0:Nat→Nat→Option Int)(o p least:Int)(es:List Fd):Prop where
 Sg:∃ds f,Reach f0 o p least ds f∧Stop f o p least∧es.Perm ds
 vx:es.length≤20
 sq:es.Pairwise fun a b=>Ou a b=true
inductive xg(CT CF CX:Addr)(vs:List V)(H:Hp)(Q:VK)(E:XK):Prop
 |mk (a b t:Addr) (c:Case) (_:vs=[.ref a, .ref b, .ref t]) (_:H a=some (.lst (c.xs.map V.str))) (_:H b=some (.lst (c.ys.map V.str))) (_:wM H CT t c) (_:c.xs.length≤50) (_:c.ys.length≤50)
  (_:∀es,dM (i7 c []) c.out c.into c.least es→∀H' r us,ax H H'→H r=none→H' r=some (.lst us)→cG (fun b=>H b=none) H' CF us es→Q (.ref r) H')
  (_:∀ds f,Reach (i7 c []) c.out c.into c.least ds f→20<ds.length→∀H',ax H H'→E (.ref CX) none H'):xg CT CF CX vs H Q E
def Fx(c:Case)(i m:Nat):Nat:=((List.range m).filter fun j=>(c.pw (aR (i,j))).isSome).length
def manyN(c:Case):Nat→Nat
 |0=>0
 |n+1=>manyN c n+Fx c n c.ys.length
theorem CY(c:Case)(i m:Nat):Fx c i (m+1)=Fx c i m+if (c.pw (aR (i,m))).isSome=true then 1 else 0:=by
 unfold Fx;rw[List.range_succ,List.filter_append,List.length_append]
 congr 1
 by_cases h:(c.pw (aR (i,m))).isSome=true
 ·rw[Zk h,List.filter_cons,Zk h];rfl
 ·rw[Zh h,List.filter_cons,Zh h];rfl
theorem tP(c:Case):∀n,((uD n c.ys.length).filter fun q=>(c.pw q).isSome).length=manyN c n
 |0=>rfl
 |n+1=>by
  unfold uD;rw[List.range_succ,List.flatMap_append,List.filter_append,List.length_append];have ih:=tP c n;unfold uD at ih;rw[ih,manyN]
  congr 1
  simp only[List.flatMap_cons,List.flatMap_nil,List.append_nil];rw[List.filter_map,List.length_map];rfl
def bV(c:Case):Nat:=manyN c c.xs.length/21+1
def eK(c:Case):Int:=min c.same (999999/(bV c:Int))
def f_(c:Case):Case:={c with same:=eK c,least:=max c.least (((bV c:Int)-1)*eK c+1)}
theorem Az(s t:Int)(fs:List Form)(x y:Str):(dD s fs x y).isSome=(dD t fs x y).isSome:=by
 unfold dD;split
 ·rfl
 ·simp
theorem CZ(c:Case)(q:Pr):((f_ c).pw q).isSome=(c.pw q).isSome:=by
 unfold Case.pw;show((wd c.xs q.1).bind fun x=>(wd c.ys q.2).bind fun y=>dD (f_ c).same c.fs x y).isSome=_;cases wd c.xs q.1 with
 |none=>rfl
 |some x=>
  cases wd c.ys q.2 with
  |none=>rfl
  |some y=>exact Az _ _ _ _ _
theorem C0{fs:List Form}(g:bO fs=true){x y:Str}{p:Int}(h:dY fs x y=some p):0≤p:=by
 unfold dY at h;cases e:fs.find? fun f=>decide (f.1=x∧f.2.1=y)with
 |none=>rw[e]at h;cases h
 |some f=>
  rw[e]at h;have h:f.2.2=p:=by simpa using h
  have hm:=List.mem_of_find?_eq_some e;simp only[bO,Bool.and_eq_true,List.all_eq_true]at g;have:=g.1.2 f hm;simp only[Dr,iu,inR,Bool.and_eq_true,decide_eq_true_eq]at this;omega
theorem pw_le{c:Case}(g:bO c.fs=true){q:Pr}{w:Int}(h:c.pw q=some w):w≤c.same:=by
 unfold Case.pw at h;cases e1:wd c.xs q.1 with
 |none=>rw[e1]at h;cases h
 |some x=>
  cases e2:wd c.ys q.2 with
  |none=>rw[e1,e2]at h;cases h
  |some y=>
   rw[e1,e2]at h;have h:dD c.same c.fs x y=some w:=h;unfold dD at h;split at h
   ·cases h;exact Int.le_refl _
   ·cases e3:dY c.fs x y with
    |none=>rw[e3]at h;cases h
    |some p=>
     rw[e3]at h;have h:c.same-p=w:=by simpa using h
     have:=C0 g e3;omega
theorem BS(c:Case)(n:Nat):manyN c n≤n*c.ys.length:=by
 rw[←tP,←oS];exact List.length_filter_le _ _
theorem BU{m:Nat}{c:Case}(k:e7 m c)(hm:m≤60):e7 m (f_ c):=by
 have h1:manyN c c.xs.length≤3600:=by
  have:=BS c c.xs.length;have h2:=Nat.mul_le_mul (Nat.le_trans k.x hm) (Nat.le_trans k.y hm);omega
 have he:(1:Int)≤bV c∧(bV c:Int)≤172:=by unfold bV;omega
 have hq:(bV c:Int)*(999999/(bV c:Int))≤999999:=by
  have:=Int.mul_ediv_self_le (x:=999999) (k:=(bV c:Int)) (Zx);exact this
 have Ov:1≤999999/(bV c:Int):=by
  have:(172:Int)≤999999:=Zy;exact(Int.le_ediv_iff_mul_le Zt).mpr Zt
 have hs:=k.same;have hl:=k.least;have s1:1≤eK c∧eK c≤999999∧eK c≤999999/(bV c:Int):=by unfold eK;omega
 refine⟨k.x,k.y,k.good,⟨s1.1,s1.2.1⟩,k.out,k.into,?_⟩;show 1≤max c.least (((bV c:Int)-1)*eK c+1)∧max c.least (((bV c:Int)-1)*eK c+1)≤999999;have h3:((bV c:Int)-1)*eK c+1≤999999:=by
  have h4:(bV c:Int)*eK c≤(bV c:Int)*(999999/(bV c:Int)):=Int.mul_le_mul_of_nonneg_left s1.2.2 Zt;rw[Int.sub_mul];omega
 omega
theorem i_{g g':Pr→Option Int}(o p:Int):∀{ps:List Pr},(∀q∈ps,g q=g' q)→vl g o p ps=vl g' o p ps
 |[],_=>rfl
 |[a],h=>by simp only[vl];rw[h a (ZA)]
 |a::b::r,h=>by
  have ih:=i_ (g:=g) (g':=g') o p (ps:=b::r) fun q hq=>h q (by simp[hq])
  simp only[vl];rw[ih,h a (ZA)]
theorem C4{g g':Pr→Option Int}(o p:Int){ps:List Pr}(h:∀q∈ps,g q=g' q):Z6 g o p ps=Z6 g' o p ps:=by
 unfold Z6;apply List.map_congr_left;intro k _;exact i_ o p fun q hq=>h q (List.mem_of_mem_take hq)
theorem Wy.congr{g g':Pr→Option Int}{ps:List Pr}(w:Wy g ps)(h:∀q∈ps,g q=g' q):Wy g' ps:=⟨w.ne,fun q hq=>by rw[←h q hq];exact w.ok q hq,w.up⟩
theorem Lv{o p:Int}(ho:0≤o)(hp:0≤p){a b:Pr}(s:Z7 a b):0≤gp o p a b:=by
 have h1:=s.1;have h2:=s.2;have:=Int.mul_nonneg ho (show 0≤b.1-a.1-1 by omega);have:=Int.mul_nonneg hp (show 0≤b.2-a.2-1 by omega);unfold gp;omega
theorem I_{g:Pr→Option Int}{o p S:Int}(ho:0≤o)(hp:0≤p):∀{ps:List Pr},ps.Pairwise Z7→(∀q∈ps,∃w,g q=some w∧w≤S)→vl g o p ps≤ps.length*S
 |[],_,_=>by simp[vl]
 |[a],_,h=>by
  obtain⟨w,h1,h2⟩:=h a (ZA);simp[vl,h1,h2]
 |a::b::r,hs,h=>by
  have mQ:=List.pairwise_cons.mp hs;have ih:=I_ ho hp mQ.2 fun q hq=>h q (by simp[hq])
  obtain⟨w,h1,h2⟩:=h a (ZA);have:=Lv ho hp (mQ.1 b (ZA));simp only[vl,h1,Option.getD_some];have e:((a::b::r).length:Int)*S=((b::r).length:Int)*S+S:=by
   rw[List.length_cons (as:=b::r),Int.natCast_add,Int.add_mul];simp
  rw[e];omega
structure Ow(f0:Nat→Nat→Option Int)(o p least:Int)(d:Fd):Prop where
 way:Wy (lf f0) d.way
 worth:vl (lf f0) o p d.way=d.worth
 least:least≤d.worth
 row:d.row=Z6 (lf f0) o p d.way
 sub:∀q∈d.way,q∈d.pairs
 sq:d.pairs.Pairwise fun p q=>ij p q=true
 op:∀q∈d.pairs,(lf f0 q).isSome=true
 part:∀a b,d.way=a++b→a≠[]→b≠[]→vl (lf f0) o p a≤d.worth∧vl (lf f0) o p b≤d.worth
theorem Reach.fe{f0 f:Nat→Nat→Option Int}{o p least:Int}{ds:List Fd}(r:Reach f0 o p least ds f):∀d∈ds,Ow f0 o p least d:=by
 induction r with
 |start=>exact fun d h=>by cases h
 |@round done f W gs ds r R ih=>
  intro d hd;rcases List.mem_append.mp hd with hd|hd
  ·exact ih d hd
  have ap:=r.apart;have k:=R.ok d hd;have hg:d.pairs∈gs:=by rw[←R.Hr];exact List.mem_map.mpr ⟨d,hd,rfl⟩
  have cg:∀q∈d.way,lf f q=lf f0 q:=fun q hq=>ap.sub q (k.way.1.ok q hq)
  refine⟨k.way.1.congr cg,?_,by rw[k.worth];exact R.least,by rw[k.row];exact C4 o p cg,k.sub,R.told.sq _ hg,fun q hq=>?_,fun a b e ha hb=>?_⟩
  ·rw[←i_ o p cg,k.way.2,k.worth]
  ·have:=(R.told.mem hg hq).open;rw[←ap.sub q this];exact this
  ·have w:=k.way.1;rw[e]at w;rw[←i_ o p (fun q hq=>cg q (by rw[e];exact List.mem_append_left _ hq)),←i_ o p (fun q hq=>cg q (by rw[e];exact List.mem_append_right _ hq)),k.worth];exact⟨R.top _ (w.left ha),R.top _ (w.right hb)⟩
theorem Reach.met{f0 f:Nat→Nat→Option Int}{o p least:Int}{ds:List Fd}(r:Reach f0 o p least ds f){ws:List Pr}(w:Wy (lf f0) ws):(∀q∈ws,(lf f q).isSome=true)∨∃d∈ds,vl (lf f0) o p ws≤d.worth∧∃q∈ws,q∈d.pairs:=by
 induction r with
 |start=>exact .inl w.ok
 |@round done f W gs ds r R ih=>
  rcases ih with h|⟨d,h1,h2⟩
  ·have ap:=r.apart;by_cases hm:∃q∈ws,q∈gs.flatten
   ·obtain⟨q,hq,hg⟩:=hm;obtain⟨g,UC,WX⟩:=List.mem_flatten.mp hg;rw[←R.Hr]at UC;obtain⟨d,hd,rfl⟩:=List.mem_map.mp UC;refine .inr ⟨d,List.mem_append_right _ hd,?_,q,hq,WX⟩;have cg:∀q∈ws,lf f0 q=lf f q:=fun q hq=>(ap.sub q (h q hq)).symm
    rw[i_ o p cg,(R.ok d hd).worth];exact R.top _ (w.congr cg)
   ·refine .inl fun q hq=>?_
    rw[sD,Zh (fun z=>hm ⟨q,hq,z⟩)];exact h q hq
  ·exact .inr ⟨d,List.mem_append_left _ h1,h2⟩
theorem dM.met{f0:Nat→Nat→Option Int}{o p least:Int}{es:List Fd}(t:dM f0 o p least es){ws:List Pr}(w:Wy (lf f0) ws)(h:least≤vl (lf f0) o p ws):∃d∈es,vl (lf f0) o p ws≤d.worth∧∃q∈ws,q∈d.pairs:=by
 obtain⟨ds,f,r,st,pm⟩:=t.Sg;rcases r.met w with z|⟨d,h1,h2⟩
 ·exfalso;have cg:∀q∈ws,lf f0 q=lf f q:=fun q hq=>(r.apart.sub q (z q hq)).symm
  have:=st ws (w.congr cg);rw[←i_ o p cg]at this;omega
 ·exact⟨d,pm.mem_iff.mpr h1,h2⟩
theorem dM.fe{f0:Nat→Nat→Option Int}{o p least:Int}{es:List Fd}(t:dM f0 o p least es):∀d∈es,Ow f0 o p least d:=fun d hd=>by
 obtain⟨ds,f,r,_,pm⟩:=t.Sg;exact r.fe d (pm.mem_iff.mp hd)
theorem dM.apart{f0:Nat→Nat→Option Int}{o p least:Int}{es:List Fd}(t:dM f0 o p least es):es.Pairwise fun a b=>∀q∈a.pairs,q∉b.pairs:=by
 obtain⟨ds,f,r,_,pm⟩:=t.Sg;exact(pm.pairwise_iff fun{a b} h q hq Fq=>h q Fq hq).mpr r.apart.ap
theorem dM.ne{f0:Nat→Nat→Option Int}{o p least:Int}{es:List Fd}(t:dM f0 o p least es):∀d∈es,d.pairs≠[]:=fun d hd z=>by
 have k:=t.fe d hd;have:=k.sub _ (cR k.way.ne);rw[z]at this;cases this
theorem Fy{l:List (List Pr)}{k:Nat}(h:∀x∈l,k≤x.length):l.length*k≤l.flatten.length:=by
 induction l with
 |nil=>simp
 |cons a r ih=>
  have h1:=h a (ZA);have h2:=ih fun x hx=>h x (by simp[hx])
  rw[List.flatten_cons,List.length_append,List.length_cons,Nat.succ_mul];omega
theorem ny:∀{ds:List Fd},ds.Pairwise (fun a b=>∀q∈a.pairs,q∉b.pairs)→(∀d∈ds,d.pairs.Nodup)→(ds.map Fd.pairs).flatten.Nodup
 |[],_,_=>ZA
 |d::r,h,h2=>by
  have h':=List.pairwise_cons.mp h;rw[List.map_cons,List.flatten_cons];refine List.nodup_append.mpr ⟨h2 d (ZA),ny h'.2 fun x hx=>h2 x (by simp[hx]),fun a ha b hb e=>?_⟩;obtain⟨ps,hp,hq⟩:=List.mem_flatten.mp hb;obtain⟨x,hx,rfl⟩:=List.mem_map.mp hp;exact h'.1 x hx a ha (by rw[e];exact hq)
theorem qA{ps:List Pr}(h:ps.Pairwise fun p q=>ij p q=true):ps.Nodup:=h.imp fun{a b} h e=>by
 rw[e]at h;unfold ij at h;simp at h
theorem AA(c:Case)(q:Pr):lf (i7 c []) q=c.pw q:=by
 rw[wV];simp[n8]
theorem Fz{m:Nat}{c:Case}(k:e7 m (f_ c)){ds:List Fd}{f:Nat→Nat→Option Int}(r:Reach (i7 (f_ c) []) (f_ c).out (f_ c).into (f_ c).least ds f):ds.length≤20:=by
 have each:∀d∈ds,bV c≤d.pairs.length:=fun d hd=>by
  have F:=r.fe d hd;have h1:=I_ (g:=lf (i7 (f_ c) [])) (S:=(f_ c).same) k.out.1 k.into.1 F.way.up fun q hq=>by
   obtain⟨w,hw⟩:=Option.isSome_iff_exists.mp (F.way.ok q hq);refine⟨w,hw,?_⟩;rw[AA]at hw;exact pw_le k.good hw
  rw[F.worth]at h1;have h2:=F.least;have h3:((bV c:Int)-1)*eK c+1≤(f_ c).least:=by show _≤max c.least _;omega
  have hs:1≤eK c:=k.same.1;have h4:((bV c:Int)-1)*eK c<(d.way.length:Int)*eK c:=by
   have:(f_ c).same=eK c:=rfl;rw[this]at h1;omega
  have h5:(bV c:Int)-1<(d.way.length:Int):=Int.lt_of_mul_lt_mul_right h4 Zt;have h6:=len_sub d.way d.pairs (F.way.up.imp fun{a b} h e=>by
   rw[e]at h;have:=h.1;omega) F.sub
  omega
 have h1:=Fy (l:=ds.map Fd.pairs) (k:=bV c) fun x hx=>by
  obtain⟨d,hd,rfl⟩:=List.mem_map.mp hx;exact each d hd
 have h2:=ny r.apart.ap fun d hd=>qA (r.fe d hd).sq
 have h3:=len_sub _ ((uD c.xs.length c.ys.length).filter fun q=>(c.pw q).isSome) h2 fun q hq=>by
  obtain⟨ps,hp,hq⟩:=List.mem_flatten.mp hq;obtain⟨d,hd,rfl⟩:=List.mem_map.mp hp;have:=(r.fe d hd).op q hq;rw[AA,CZ]at this;refine List.mem_filter.mpr ⟨?_,this⟩;obtain⟨w,hw⟩:=Option.isSome_iff_exists.mp this;obtain⟨⟨a1,a2⟩,a3,a4⟩:=c.pw_in hw;have:=oT (n:=c.xs.length) (m:=c.ys.length) (i:=q.1.toNat) (j:=q.2.toNat) (Zx) (Zx);have e:aR (q.1.toNat,q.2.toNat)=q:=Prod.ext (by simp[aR];omega) (by simp[aR];omega);rw[e]at this;exact this
 rw[tP]at h3;rw[List.length_map]at h1;have h4:ds.length*bV c≤manyN c c.xs.length:=Nat.le_trans h1 h3;rcases Nat.lt_or_ge 20 ds.length with h|h
 ·exfalso;have h5:21*bV c≤ds.length*bV c:=Nat.mul_le_mul_right _ h;unfold bV at h4 h5;omega
 ·exact h
inductive xh(vs:List V)(H:Hp)(Q:VK)(u3:XK):Prop
 |mk (a:Addr) (c:Case) (f g m l:Addr) (us:List V) (_:vs=[.ref a]) (_:j4 H a c f g m l us) (_:e7 60 c) (_:∀H' b m',ax H H'→H b=none→H' b=some (.lst [.ref f, .ref g, .ref m', .ref l])→j4 H' b (f_ c) f g m' l us→Q (.ref b) H'):xh vs H Q u3
end QF
namespace QF
open PySem L2 PySem.Spec PyProof.Rows PySem.W PySem.Calls
section
variable{X:Cx}
inductive Ox(K:Frag)(neg:Bool)(x:V)(y:V)(H:Hp)(Q:VK):Prop
 |mk (p q:Addr) (r:Pr) (vs:List V) (ps:List Pr) (_:x= .ref p) (_:y= .ref q) (_:H p=some (.tup (jo r))) (_:iA K H q vs) (_:f7 H vs ps) (_:Q (.bl (xor neg (decide (r∈ps)))) H):Ox K neg x y H Q
open Classical in
theorem FA{pins:List (Addr×Obj)}{s:Shared}{σ:L2.St}{H:Hp}{p q:Addr}{r:Pr}{vs:List V}{ps:List Pr}(hu:X.A.units+1<cLine)(I:Inv X pins σ H s)(hp:H p=some (.tup (jo r)))(hq:iA X.K H q vs)(P:f7 H vs ps):
  ∃(its:List Value)(e:Value→Bool),s.heap.IsList q its.toArray∧(∀y∈its.toArray,SeqAt.EqAt X.A.in1 s y (.ref p) (e y))∧its.toArray.any e=decide (r∈ps):=by
 obtain⟨its,r1,pl,hz⟩:=I.tuple (xs:=jo r) (.of hp);obtain⟨fD,r2,Kl,NP⟩:=I.list hq;have lc:=P.1;have l2:=r2.length;have key:∀j,j<fD.length→∃g t,ps[j]?=some g∧fD[j]?=some (.ref t)∧H t=some (.tup (jo g)):=fun j hj=>by
  have hc:ps[j]?=some ps[j]:=by simp[show j<ps.length by omega]
  obtain⟨t,h1,h2⟩:=P.2 j _ hc;obtain⟨u,eu,ru⟩:=r2.get h1;cases ru;exact⟨_,t,hc,eu,h2⟩
 let e:Value→Bool:=fun y=>decide (∃t,y=Value.ref t∧H t=some (.tup (jo r)))
 have ee:∀{t g},H t=some (.tup (jo g))→e (.ref t)=decide (g=r):=fun{t g} h=>by
  show decide _=_;rw[Bool.eq_iff_iff,decide_eq_true_iff,decide_eq_true_iff];constructor
  ·rintro⟨t',e1,e2⟩;cases e1;rw[h]at e2;have:=HO.tup.inj (Zp e2);simp only[jo,List.cons.injEq,V.int.injEq,and_true]at this;exact Prod.ext this.1 this.2
  ·rintro rfl;exact⟨t,rfl,h⟩
 refine⟨fD,e,Kl.isList,fun y hy=>?_,?_⟩
 ·obtain⟨j,hj,rfl⟩:=Array.mem_iff_getElem.mp hy;have Du:j<fD.length:=by simpa using hj
  obtain⟨g,t,h1,h2,h3⟩:=key j Du;have ej:fD.toArray[j]= .ref t:=by
   have:=(Y7 h2).2;simpa using this
  rw[ej,ee h3];by_cases hn:t=p
  ·subst hn;rw[hp]at h3;have:=HO.tup.inj (Zp h3);simp only[jo,List.cons.injEq,V.int.injEq,and_true]at this;have:r=g:=Prod.ext this.1 this.2;rw[decide_eq_true this.symm];exact SeqAt.EqAt.same _
  ·obtain⟨WY,r3,WZ,Yy⟩:=I.tuple (xs:=jo g) (.of h3);have:=SeqAt.EqAt.of_refs hn (SeqAt.RcAt.tuples (A:=X.A.in1) WZ pl (show X.A.in1.units<cLine from hu) (yB r3 r1 rfl rfl));rw[←Bv,←nh,r3.length,r1.length];simpa using this
 ·rw[Bool.eq_iff_iff,Array.any_eq_true,decide_eq_true_iff];constructor
  ·rintro⟨j,hj,hh⟩;have Du:j<fD.length:=by simpa using hj
   obtain⟨g,t,h1,h2,h3⟩:=key j Du;have ej:fD.toArray[j]= .ref t:=by
    have:=(Y7 h2).2;simpa using this
   rw[ej,ee h3,decide_eq_true_iff]at hh;rw[←hh];exact Ze h1
  ·intro hm;obtain⟨j,hj,hg⟩:=List.mem_iff_getElem.mp hm;have Du:j<fD.length:=Zx;obtain⟨g,t,h1,h2,h3⟩:=key j Du;refine⟨j,by simpa using Du,?_⟩;have ej:fD.toArray[j]'(by simpa using Du)= .ref t:=by
    have:=(Y7 h2).2;simpa using this
   rw[ej,ee h3,decide_eq_true_iff];rw[List.getElem?_eq_getElem hj,hg]at h1;exact(Zp h1).symm
theorem mS(K:Frag)(hu:X.A.units+1<cLine)(hK:X.K=K:=by rfl):rJ X (compareOp .NotIn) (Ox K true):=by
 subst hK;intro pins s σ H x y v u Q I rx ry h;obtain⟨p,q,r,vs,ps,rfl,rfl,hp,hq,P,k⟩:=h;cases rx;cases ry;obtain⟨its,e,pl,h1,h2⟩:=FA hu I hp hq P;refine SeqAt.notIn_listAt e pl h1 ⟨.bl (!decide (r∈ps)),H,I,?_,by simpa using k⟩;rw[h2];rfl
end
end QF
namespace QF
open PySem L2
theorem oJ.of{c:Case}{ps:List Pr}(h:i5 c ps=true):oJ c [] ps:=⟨h,fun p _=>ZA⟩
theorem BV{c:Case}{ps:List Pr}(h:i5 c ps=true):Wy (lf (i7 c [])) ps∧dF c ps (ps.length-1)=vl (lf (i7 c [])) c.out c.into ps:=⟨yG.mp (.of h),G7 (.of h)⟩
end QF
namespace L2
open PySem PySem.Spec PyProof.Rows PySem.W PySem.Calls
inductive fG(K:Frag)(x q:Str)(st:Stmt)(f:Addr):Prop
 |mk {oc kV dc pm cd ct:Value} {od an:Option Addr} {sl:Array (Option Value)} (l:K.lookup f=some ⟨oc,od, .func (fnOf x q (fv st) (eJ st) (ar st) .none kV dc pm an cd ct),sl⟩) (c:codeIn K cd q=true) (k:keepIn K (.ref f)=true):fG K x q st f
theorem C9{Φ:Value→Value→Value→Option Addr→Value→Value→List Value→Prop}(h:∀k d p n c t a,Φ k d p n c t [a])(k d p:Value)(n:Option Addr)(c t:Value)(us:List Value)(e:us.length=1):Φ k d p n c t us:=QF.Wh (h k d p n c t) us e
theorem uE{Φ:Value→Value→Value→Option Addr→Value→Value→List Value→Prop}(h:∀k d p n c t a b,Φ k d p n c t [a,b])(k d p:Value)(n:Option Addr)(c t:Value)(us:List Value)(e:us.length=2):Φ k d p n c t us:=QF.Wi (h k d p n c t) us e
theorem AB{Φ:Value→Value→Value→Option Addr→Value→Value→List Value→Prop}(h:∀k d p n c t x y z,Φ k d p n c t [x,y,z])(k d p:Value)(n:Option Addr)(c t:Value)(us:List Value)(e:us.length=3):Φ k d p n c t us:=QF.Wj (h k d p n c t) us e
theorem Sh{Φ:Value→Value→Value→Option Addr→Value→Value→List Value→Prop}(h:∀k d p n c t x y z u,Φ k d p n c t [x,y,z,u])(k d p:Value)(n:Option Addr)(c t:Value)(us:List Value)(e:us.length=4):Φ k d p n c t us:=QF.Wl (h k d p n c t) us e
theorem UD{Φ:Value→Value→Value→Option Addr→Value→Value→List Value→Prop}(h:∀k d p n c t x y z u v,Φ k d p n c t [x,y,z,u,v])(k d p:Value)(n:Option Addr)(c t:Value)(us:List Value)(e:us.length=5):Φ k d p n c t us:=QF.Wm (h k d p n c t) us e
theorem W0{Φ:Value→Value→Value→Option Addr→Value→Value→List Value→Prop}(h:∀k d p n c t x y z u v w,Φ k d p n c t [x,y,z,u,v,w])(k d p:Value)(n:Option Addr)(c t:Value)(us:List Value)(e:us.length=6):Φ k d p n c t us:=QF.Wn (h k d p n c t) us e
section
variable{P:Program}{w:World}{K:Frag}{mg:Str→Option Value}{base h:Heap}{cm:Bool}{k:Nat}{x q:Str}{st:Stmt}{f C:Addr}{ps:List Str}{sp:Sp}
def P_(x q:Str)(st:Stmt)(ps:List Str):Prop:=∀(kV doc pm:Value)(an:Option Addr)(bT ct:Value)(us:List Value),us.length=ps.length→bindArgs (fnOf x q (fv st) (eJ st) (ar st) .none kV doc pm an bT ct) ⟨us,[]⟩=pure (ps.zip us)
theorem fG.df(d:fG K x q st f)(X:K.In h)(G:h.Ns mainGlobals mg)(a:nsIn K mainGlobals x=some (some (.ref f)))(ok:∀fd,jh K x q st f fd→a7 P w K mg base (cW P w) cm k f fd ps sp)(b:P_ x q st ps):bK P w K mg base cm k x ps sp:=by
 obtain⟨l,c,z⟩:=d;have F:=D_ (st:=st) l c z;exact Eh F (mg_of X G a) (F.binds b) (ok _ F)
theorem fG.ok(d:fG K x q st f){R:FuncData→Prop}(ok:∀fd,ir K x q st f fd→R fd)(b:P_ x q st ps):∃fd,R fd∧Binds K fd ps []:=by
 obtain⟨l,c,z⟩:=d;exact⟨_,ok _ (Bi (st:=st) l c z), .all fun us e=>b _ _ _ _ _ _ us e⟩
theorem fG.mt(d:fG K x q st f)(cl:v7 K C)(a:findIn K (.ref C) x=some (some (.ref f)))(i:isFn K (.ref f)=true)(ok:∀fd,ir K x q st f fd→a7 P w K mg base (cW P w) cm k f fd ps sp)(b:P_ x q st ps):eG P w K mg base cm k C x ps sp:=by
 obtain⟨fd,h1,h2⟩:=d.ok (R:=fun fd=>a7 P w K mg base (cW P w) cm k f fd ps sp) ok b;obtain⟨l,c,z⟩:=d;exact Cq h1 ⟨a,i,z⟩ h2 cl
theorem fG.nw{y:Str}(d:fG K x q st f)(m:mg y=some (.ref C))(g1:makesIn K C=true)(g2:keepIn K (.ref C)=true)(a:findIn K (.ref C) "__init__"=some (some (.ref f)))(i:isFn K (.ref f)=true)(ok:∀fd,ir K x q st f fd→a7 P w K mg base (cW P w) cm k f fd ps sp)(b:P_ x q st ps):mO P w K mg base cm k y C ps [] sp:=by
 obtain⟨fd,h1,h2⟩:=d.ok (R:=fun fd=>a7 P w K mg base (cW P w) cm k f fd ps sp) ok b;exact yw h1 ⟨g1,a,i,g2⟩ m h2 .nil
structure Oy(K:Frag)(x:Str)(C:Addr):Prop where
 a:nsIn K mainGlobals x=some (some (.ref C))
 b:excIn K C [.type "ValueError", .type "Exception", .type "BaseException", .type "object"] "ValueError.__new__"=true
 c:findIn K (.ref C) "__class__"=some (some (.builtin "object.__class__"))
 d:mroIn K C (.type "object")=some true
 e:mroIn K C (.type "BaseException")=some true
 f:findIn K (.ref C) "__getattribute__"=some (some (.builtin "BaseException.__getattribute__"))
 g:findIn K (.ref C) "__getattr__"=some none
 h:instIn K (.ref C) (.type "tuple")=some false
 i:keepIn K (.ref C)=true
theorem Oy.er{x:Str}{C:Addr}(e:Oy K x C)(X:K.In h)(G:h.Ns mainGlobals mg):QF.Er K mg x C:=⟨mg_of X G e.a,e.b,e.c,e.d,e.e,e.f,e.g,e.h,e.i⟩
structure Oz(K:Frag)(x:Str)(C:Addr):Prop where
 a:nsIn K mainGlobals x=some (some (.ref C))
 b:makesIn K C=true
 c:keepIn K (.ref C)=true
def zA(K:Frag)(x:Str):Prop:=nsIn K mainGlobals x=some none
structure TZ(K:Frag):Prop where
 a:zA K "len"
 b:zA K "range"
 c:zA K "isinstance"
 d:zA K "int"
 e:zA K "bool"
 f:zA K "str"
 g:zA K "list"
 h:zA K "tuple"
 i:zA K "dict"
 j:zA K "all"
 k:zA K "any"
 l:zA K "min"
 m:zA K "max"
 n:zA K "enumerate"
 o:zA K "ValueError"
theorem nz{x:Str}(z:zA K x)(X:K.In h)(G:h.Ns mainGlobals mg):mg x=none:=mg_none_of X G z
theorem TZ.tb(z:TZ K)(X:K.In h)(G:h.Ns mainGlobals mg):QF.TB mg:=⟨nz z.a X G,nz z.b X G,nz z.c X G,nz z.d X G,nz z.e X G,nz z.f X G,nz z.g X G,nz z.h X G,nz z.i X G,nz z.j X G,nz z.k X G,nz z.l X G,nz z.m X G,nz z.n X G,nz z.o X G⟩
end
end L2
namespace QF
open PySem L2
def DA(H:Hp)(us:List V)(ts:List (Pr×Int)):Prop:=us.length=ts.length∧∀(k:Nat)(x:Pr×Int),ts[k]?=some x→∃t,us[k]?=some (V.ref t)∧H t=some (.tup [.int x.1.1, .int x.1.2, .int x.2])
theorem DA.cI{H H':Hp}{us:List V}{ts:List (Pr×Int)}(S:DA H us ts)(t:e6 H H'):DA H' us ts:=⟨S.1,fun k x e=>let ⟨a,h1,h2⟩:=S.2 k x e;⟨a,h1,t _ _ h2⟩⟩
theorem DA.nil{H:Hp}:DA H [] []:=⟨rfl,fun k x e=>by simp at e⟩
theorem DA.snoc{H:Hp}{us:List V}{ts:List (Pr×Int)}(S:DA H us ts){t:Addr}{x:Pr×Int}(h:H t=some (.tup [.int x.1.1, .int x.1.2, .int x.2])):DA H (us++[.ref t]) (ts++[x]):=by
 refine⟨by simp[S.1],fun k y e=>?_⟩;by_cases hk:k<ts.length
 ·rw[List.getElem?_append_left hk]at e;rw[List.getElem?_append_left (by rw[S.1];exact hk)];exact S.2 k y e
 ·rw[List.getElem?_append_right Zt]at e;have Z2:k-ts.length=0:=by
   have:=(Y7 e).1;simp at this;omega
  rw[Z2]at e;cases e;refine⟨t,?_,h⟩;rw[List.getElem?_append_right (by rw[S.1];omega),S.1,Z2];rfl
def lG(c:Case)(sh:List Pr)(i:Nat):Nat→List (Pr×Int)
 |0=>[]
 |j+1=>lG c sh i j++match n8 c sh (aR (i,j))with|some w=>[(aR (i,j),w)]|none=>[]
def j8(c:Case)(sh:List Pr):Nat→List (Pr×Int)
 |0=>[]
 |n+1=>j8 c sh n++lG c sh n c.ys.length
theorem qB(c:Case)(sh:List Pr)(i:Nat):∀j,(lG c sh i j).length≤j
 |0=>Nat.le_refl _
 |j+1=>by
  have:=qB c sh i j;simp only[lG,List.length_append];split<;>simp<;>omega
theorem vO(c:Case)(sh:List Pr):∀n,(j8 c sh n).length≤n*c.ys.length
 |0=>by simp[j8]
 |n+1=>by
  have:=vO c sh n;have:=qB c sh n c.ys.length;simp only[j8,List.length_append,Nat.succ_mul];omega
theorem vP{c:Case}{sh:List Pr}{i:Nat}{x:Pr×Int}:∀{j},x∈lG c sh i j→n8 c sh x.1=some x.2
 |0,h=>by cases h
 |j+1,h=>by
  rcases List.mem_append.mp h with h|h
  ·exact vP h
  ·split at h
   ·rename_i w e
    have:x=(aR (i,j),w):=by simpa using h
    rw[this];exact e
   ·cases h
theorem vQ{c:Case}{sh:List Pr}{x:Pr×Int}:∀{n},x∈j8 c sh n→n8 c sh x.1=some x.2
 |0,h=>by cases h
 |n+1,h=>by
  rcases List.mem_append.mp h with h|h
  ·exact vQ h
  ·exact vP h
inductive tQ(vs:List V)(H:Hp)(Q:VK)(u3:XK):Prop
 |mk (a s:Addr) (c:Case) (f g m l:Addr) (us ws:List V) (sh:List Pr) (_:vs=[.ref a, .ref s]) (_:j4 H a c f g m l us) (_:H s=some (.lst ws)) (_:f7 H ws sh) (_:c.xs.length≤50) (_:c.ys.length≤50) (_:∀H' r vs,ax H H'→H r=none→H' r=some (.lst vs)→DA H' vs (j8 c sh c.xs.length)→Q (.ref r) H'):tQ vs H Q u3
inductive tR(CF:Addr)(vs:List V)(H:Hp)(Q:VK)(u3:XK):Prop
 |mk (y:Addr) (P:Addr→Prop) (d:Fd) (dy wy rw pr:Addr) (jt gY:List V) (_:vs=[.ref y]) (_:rp P H CF y d dy wy rw pr jt gY) (_:d.row.length=d.way.length) (_:d.way≠[]) (_:∀H',ax H H'→Q (.bl true) H'):tR CF vs H Q u3
inductive qC(CF:Addr)(vs:List V)(H:Hp)(Q:VK)(u3:XK):Prop
 |mk (a t:Addr) (c:Case) (f g m l:Addr) (us ws:List V) (es:List Fd) (_:vs=[.ref a, .ref t]) (_:j4 H a c f g m l us) (_:e7 50 c) (_:H t=some (.lst ws)) (_:cG (fun _=>True) H CF ws es) (_:dM (i7 c []) c.out c.into c.least es) (_:∀H',ax H H'→Q (.bl true) H'):qC CF vs H Q u3
theorem tS{c:Case}{ps:List Pr}(w:Wy (lf (i7 c [])) ps):i5 c ps=true:=(yG.mpr w).1
theorem xi(g:Pr→Option Int)(o p:Int)(ps:List Pr):(Z6 g o p ps).length=ps.length:=by simp[Z6]
theorem dM.pair{c:Case}{es:List Fd}(t:dM (i7 c []) c.out c.into c.least es){q:Pr}{w:Int}(h:n8 c [] q=some w)(hl:c.least≤w):∃d∈es,q∈d.pairs:=by
 have hq:lf (i7 c []) q=some w:=by rw[wV];exact h
 obtain⟨d,hd,_,p,hp,Cf⟩:=t.met (ws:=[q]) (.one (by rw[hq];rfl)) (by simp[vl,hq];exact hl);have:p=q:=by simpa using hp
 exact⟨d,hd,this▸Cf⟩
theorem dM.FC{m:Nat}{c:Case}(ok:e7 m c){es:List Fd}(t:dM (i7 c []) c.out c.into c.least es){ds:List Fd}(hs:ds.Sublist es):(ds.map Fd.pairs).flatten.length≤m*m:=by
 have h2:=ny (t.apart.sublist hs) fun d hd=>qA (t.fe d (hs.subset hd)).sq
 have h3:=len_sub _ (uD c.xs.length c.ys.length) h2 fun q hq=>by
  obtain⟨ps,hp,hq⟩:=List.mem_flatten.mp hq;obtain⟨d,hd,rfl⟩:=List.mem_map.mp hp;have:=(t.fe d (hs.subset hd)).op q hq;rw[AA]at this;obtain⟨w,hw⟩:=Option.isSome_iff_exists.mp this;obtain⟨⟨a1,a2⟩,a3,a4⟩:=c.pw_in hw;have:=oT (n:=c.xs.length) (m:=c.ys.length) (i:=q.1.toNat) (j:=q.2.toNat) (Zx) (Zx);have e:aR (q.1.toNat,q.2.toNat)=q:=Prod.ext (by simp[aR];omega) (by simp[aR];omega);rw[e]at this;exact this
 rw[oS]at h3;exact Nat.le_trans h3 (Nat.mul_le_mul ok.x ok.y)
end QF
namespace L2
open PySem PySem.Spec PyProof.Rows PySem.W PySem.Calls
open AutoSeq1 (wpAny_loadPart')
theorem OA{prog:Program}{w:World}{A:Around}{E:Value→Shared→Prop}{s:Shared}{i j:Int}{t u:Tok}{Q:Value→Shared→Prop}(h:Q (.bool (decide (j≤i))) s):wpAny (model prog w) A (richCompare .GtE (.int i t) (.int j u)) Q E s:=PyProof.Rows.ge_int h
end L2
namespace QF
open PySem L2 PySem.Spec PyProof.Rows PySem.W PySem.Calls
section
variable{X:Cx}
theorem Ja{pins:List (Addr×Obj)}{s:Shared}{σ:L2.St}{H:Hp}{p:Addr}{r:Pr}(I:Inv X pins σ H s)(hp:H p=some (.tup (jo r))):nq s.heap p r:=by
 obtain⟨its,rr,pl,hz⟩:=I.tuple (xs:=jo r) (.of hp);cases rr with
 |cons r1 rr=>
  cases rr with
  |cons r2 rr=>
   cases rr;obtain⟨t,rfl⟩:=r1;obtain⟨u,rfl⟩:=r2;obtain⟨o,h1,h2,n,h3⟩:=pl;exact⟨o,t,u,n,h1,h2,h3⟩
end
def lH(es:List Fd)(k:Nat):List Pr:=((es.take k).map Fd.pairs).flatten
theorem oV{es:List Fd}{k:Nat}{d:Fd}(ek:es[k]?=some d):lH es (k+1)=lH es k++d.pairs:=by
 unfold lH;rw[List.take_succ,ek];simp
theorem Hu{es:List Fd}{k:Nat}{q:Pr}(h:q∈lH es k):∃d∈es.take k,q∈d.pairs:=by
 obtain⟨ps,hp,hq⟩:=List.mem_flatten.mp h;obtain⟨d,hd,rfl⟩:=List.mem_map.mp hp;exact⟨d,hd,hq⟩
theorem Lw{es:List Fd}{d:Fd}{q:Pr}(hd:d∈es)(hq:q∈d.pairs):q∈lH es es.length:=by
 unfold lH;rw[List.take_length];exact List.mem_flatten.mpr ⟨_,List.mem_map.mpr ⟨d,hd,rfl⟩,hq⟩
theorem dM.Hv{c:Case}{es:List Fd}(t:dM (i7 c []) c.out c.into c.least es){k:Nat}{d:Fd}(ek:es[k]?=some d){q:Pr}(hq:q∈d.pairs):q∉lH es k:=fun h=>by
 obtain⟨e,he,h2⟩:=Hu h;obtain⟨hk,rfl⟩:=Y7 ek;obtain⟨i,hi,rfl⟩:=List.mem_iff_getElem.mp he;rw[List.length_take]at hi;rw[List.getElem_take]at h2;exact List.pairwise_iff_getElem.mp t.apart i k (Zx) hk Zt q h2 hq
theorem dM.AD{m:Nat}{c:Case}(ok:e7 m c){es:List Fd}(t:dM (i7 c []) c.out c.into c.least es)(k:Nat):(lH es k).length≤m*m:=t.FC ok (List.take_sublist _ _)
theorem Hw{α:Type}{l:List α}{i:Nat}{g:α}(h:l.Nodup)(e:l[i]?=some g):g∉l.take i:=fun m=>by
 obtain⟨hi,rfl⟩:=Y7 e;obtain⟨j,hj,e2⟩:=List.mem_iff_getElem.mp m;rw[List.length_take]at hj;rw[List.getElem_take]at e2;exact List.pairwise_iff_getElem.mp h j i Zt hi Zt e2
theorem FG{kvs:List (List Key×V)}{ps:List Pr}(h:mR kvs ps)(g:Pr)(v:V):mR (putK kvs (a9 g) v) (ps++[g]):=fun p=>by
 rw[iY];by_cases hp:p=g
 ·rw[Zk (by rw[hp])];simp[hp]
 ·rw[Zh (fun z=>hp (dj z)),h p];simp[hp]
inductive Rn(o p least:Int):(Nat→Nat→Option Int)→List Fd→Prop
 |stop {f:Nat→Nat→Option Int} (_:Stop f o p least):Rn o p least f []
 |round {f:Nat→Nat→Option Int} {W:Int} {gs:List (List Pr)} {ds rs:List Fd} (_:mi f o p least W gs ds) (_:Rn o p least (kU f gs.flatten) rs):Rn o p least f (ds++rs)
section
variable{X:Cx}
inductive Hl(K:Frag)(x:V)(y:V)(H:Hp)(Q:VK):Prop
 |mk (p q:Addr) (xs ys:List V) (ps:List Pr) (_:x= .ref p) (_:y= .ref q) (_:iA K H p xs) (_:iA K H q ys) (_:f7 H xs ps) (_:f7 H ys ps) (_:Q (.bl false) H):Hl K x y H Q
end
end QF
namespace QF
open PySem L2
def UE(c:Case):Prop:=∀ds f,Reach (i7 c []) c.out c.into c.least ds f→ds.length≤20
theorem FH{m:Nat}{c:Case}(k:e7 m (f_ c)):UE (f_ c):=fun _ _ r=>Fz k r
end QF
namespace L2
open PySem PySem.Spec PyProof.Rows PySem.W PySem.Calls
open AutoSeq1 (wpAny_loadPart')
theorem FI(l b:Addr)(p q:Int×Int)(t u t' u':Tok)(n n2:Nat)(dd Ep:Option Addr)(sl xW:Array (Option Value)):
  Meets (Builtin.«tuple.__ge__» ⟨[.ref l, .ref b],[]⟩) (fun A R s=>s.heap.get? l=some {cls:= .type "tuple",dict:=dd,data:= .seq #[.int p.1 t, .int p.2 u] n,slots:=sl}∧s.heap.get? b=some {cls:= .type "tuple",dict:=Ep,data:= .seq #[.int q.1 t', .int q.2 u'] n2,slots:=xW}∧
    R (.ok (.ret (.bool (!ij p q)))) s):=
 .of_wp fun prog w A R s h=>by
  obtain⟨hp,g,d,tk,os⟩:=s;obtain⟨hl,hb,h⟩:=h;have f2:=AutoSeq1.sub_tuple_tuple
  wp_walk using wpAny_loadPart' hl,wpAny_loadPart' hb
  refine(show wpAny (model prog w) A.in1 (eqBool (.int p.1 t) (.int q.1 t')) _ _ _ from Lb _ _ _ _ ?_);by_cases a:p.1=q.1
  ·rw[decide_eq_true a]
   wp_walk
   refine(show wpAny (model prog w) A.in1 (eqBool (.int p.2 u) (.int q.2 u')) _ _ _ from Lb _ _ _ _ ?_);by_cases c:p.2=q.2
   ·rw[decide_eq_true c]
    wp_walk
    have e:(!ij p q)=true:=by simp[ij,a,c]
    rw[e]at h;exact⟨_,rfl,h⟩
   ·rw[decide_eq_false c];have e:(!ij p q)=decide (q.2≤p.2):=by
     rw[Bool.eq_iff_iff];simp[ij,a]
    rw[e]at h
    wp_walk using OA
    exact⟨_,rfl,h⟩
  ·rw[decide_eq_false a];have e:(!ij p q)=decide (q.1≤p.1):=by
    rw[Bool.eq_iff_iff];simp[ij,a];try omega
   rw[e]at h
   wp_walk using OA
   exact⟨_,rfl,h⟩
theorem AE{prog:Program}{w:World}{A:Around}{E:Value→Shared→Prop}{s:Shared}{x y:Addr}{p q:Int×Int}{Q:Value→Shared→Prop}(hu:A.units<cLine)(hx:nq s.heap x p)(hy:nq s.heap y q)(h:Q (.bool (!ij p q)) s):wpAny (model prog w) A (compareOp .GtE (.ref x) (.ref y)) Q E s:=by
 obtain⟨⟨c,dd,da,sl⟩,t,u,n,h1,h2,h3⟩:=hx;obtain⟨⟨c',FV,WE,MN⟩,t',u',n',g1,g2,g3⟩:=hy;simp only at h2 h3 g2 g3;subst h2 h3 g2 g3;exact richCompare_meets_room (op:= .GtE) ⟨_,h1,rfl⟩ ⟨_,g1,rfl⟩ F.slot_tuple_ge F.entry_tuple_ge (F.args_tuple_ge_2 _ _) (FI x y p q t u t' u' n n' dd FV sl MN) ⟨h1,g1,show Value.bool (!ij p q)≠Value.notImplemented∧Q (.bool (!ij p q)) s from⟨(fun x=>nomatch x),h⟩⟩ hu
end L2
namespace QF
open PySem L2 PySem.Spec PyProof.Rows PySem.W PySem.Calls
section
variable{X:Cx}
inductive OB(K:Frag)(x:V)(y:V)(H:Hp)(Q:VK):Prop
 |mk (p q:Addr) (r t:Pr) (_:x= .ref p) (_:y= .ref q) (_:H p=some (.tup (jo r))) (_:H q=some (.tup (jo t))) (_:Q (.bl (!ij r t)) H):OB K x y H Q
theorem C_(K:Frag)(hu:X.A.units<cLine)(hK:X.K=K:=by rfl):rJ X (compareOp .GtE) (OB K):=by
 subst hK;intro pins s σ H x y v u Q I rx ry h;obtain⟨p,q,r,t,rfl,rfl,hp,hq,k⟩:=h;cases rx;cases ry;exact AE hu (Ja I hp) (Ja I hq) ⟨.bl (!ij r t),H,I,rfl,k⟩
end
inductive qD(CF:Addr)(vs:List V)(H:Hp)(Q:VK)(u3:XK):Prop
 |mk (a t:Addr) (c:Case) (f g m l:Addr) (us ws:List V) (es:List Fd) (_:vs=[.ref a, .ref t]) (_:j4 H a c f g m l us) (_:e7 50 c) (_:H t=some (.lst ws)) (_:cG (fun _=>True) H CF ws es) (_:dM (i7 c []) c.out c.into c.least es) (_:∀H',ax H H'→Q (.bl true) H'):qD CF vs H Q u3
theorem Hx{c:Case}{q:Pr}(h:(lf (i7 c []) q).isSome=true):i5 c [q]=true:=tS (.one h)
end QF
namespace QF
open PySem L2
structure Lk(H5 H6:Hp)(t:Addr)(vs:List V)(n:Nat)(H':Hp):Prop where
 old:ax H5 H'
 top:H' t=some (.lst vs)
 obj:∀b o,H6 b=some o→(∀xs,o≠ .lst xs)→H' b=some o
 lst:∀b xs,H6 b=some (.lst xs)→∃ys,H' b=some (.lst ys)∧ys.length≤xs.length+n
theorem Lk.start{H5 H6:Hp}{t:Addr}{vs:List V}(s:ax H5 H6)(h:H6 t=some (.lst vs)):Lk H5 H6 t vs 0 H6:=⟨s,h,fun _ _ h _=>h,fun _ xs h=>⟨xs,h,Nat.le_refl _⟩⟩
theorem Lk.same{H5 H6 H' Lj:Hp}{t:Addr}{vs:List V}{n:Nat}(L:Lk H5 H6 t vs n H')(s:ax H' Lj):Lk H5 H6 t vs n Lj:=⟨L.old.trans s,s _ _ L.top,fun b o h1 h2=>s _ _ (L.obj b o h1 h2),fun b xs h=>let ⟨ys,h1,h2⟩:=L.lst b xs h;⟨ys,s _ _ h1,h2⟩⟩
theorem Lk.put{H5 H6 H':Hp}{t:Addr}{vs:List V}{n:Nat}(L:Lk H5 H6 t vs n H'){p:Addr}{xs ys zs:List V}(h5:H5 p=none)(ht:p≠t)(h6:H6 p=some (.lst xs))(hy:H' p=some (.lst ys))(hz:zs.length≤ys.length+1):Lk H5 H6 t vs (n+1) (upd H' p (.lst zs)):=by
 refine⟨L.old.eZ h5,by rw[ao (Ne.symm ht)];exact L.top,fun b o h1 h2=>?_,fun b us h=>?_⟩
 ·have:b≠p:=fun e=>by
   rw[e,h6]at h1;exact h2 xs (Zp h1).symm
  rw[ao this];exact L.obj b o h1 h2
 ·obtain⟨ws,h1,h2⟩:=L.lst b us h;by_cases e:b=p
  ·subst e;rw[hy]at h1;cases h1;exact⟨zs,ae,Zx⟩
  ·exact⟨ws,by rw[ao e];exact h1,Zx⟩
theorem FJ{P:Addr→Prop}{H:Hp}{CF a:Addr}{d:Fd}{dy wy rw pr:Addr}{jt gY vs:List V}{t:Addr}{k:Nat}(F:rp P H CF a d dy wy rw pr jt gY)(ht:H t=some (.lst vs))(hk:vs[0]?=some (.ref k))(hi:∃C dx fs,H k=some (.ins C dx fs))(h1:d.way≠[])(h2:d.pairs≠[])(h3:d.row≠[]):wy≠t∧rw≠t∧pr≠t:=by
 obtain⟨C,dx,fs,hi⟩:=hi;have key:∀{us:List V}{ps:List Pr},f7 H us ps→ps≠[]→us≠vs:=fun{us ps} P n e=>by
  cases ps with
  |nil=>exact n rfl
  |cons x r=>
   obtain⟨tt,g1,g2⟩:=P.2 0 x rfl;rw[e,hk]at g1;cases g1;rw[hi]at g2;cases g2
 refine⟨fun e=>?_,fun e=>?_,fun e=>?_⟩
 ·have:=F.hw;rw[e,ht]at this;cases this;exact key F.pw h1 rfl
 ·have:=F.hr;rw[e,ht]at this;cases e2:d.row with
  |nil=>exact h3 e2
  |cons z r=>
   rw[e2]at this;have:=HO.lst.inj (Zp this);rw[this]at hk;cases hk
 ·have:=F.hp;rw[e,ht]at this;cases this;exact key F.pp h2 rfl
section
variable{m:Nat}{c:Case}
end
section
variable{φ ψ:Pr→Pr}{o p o' p' W least:Int}{f g:Nat→Nat→Option Int}
end
end QF
namespace L2
open PySem PySem.Spec PyProof.Rows PySem.W PySem.Calls
open AutoSeq1 (wpAny_loadPart')
open PySem.SeqAt
end L2
namespace Si
open PySem L2 QF
def top(i:Nat):Stmt:=PySem.Challenge.pw_quotefind_k15_findings_walked.main.body.getD i (.Pass ⟨0,0,0,0⟩)
abbrev f':Stmt:=top 28
abbrev mj:Stmt:=top 29
abbrev kz:Stmt:=top 34
abbrev ja:Stmt:=top 35
abbrev gc:Stmt:=top 36
abbrev gZ:Stmt:=top 37
abbrev br:Stmt:=inClass (top 38) 0
abbrev dZ:Stmt:=inClass (top 38) 1
abbrev kC:Stmt:=top 11
abbrev AF:Stmt:=top 12
abbrev fN:Stmt:=top 13
abbrev dN:Stmt:=inClass (top 14) 1
abbrev eL:Stmt:=inClass (top 14) 0
abbrev gR:Stmt:=inClass (top 14) 2
abbrev d0:Stmt:=inClass (top 14) 4
abbrev cU:Stmt:=inClass (top 14) 3
abbrev ff:Stmt:=inClass (top 14) 5
abbrev iy:Stmt:=inClass (top 14) 6
abbrev fO:Stmt:=inClass (top 20) 0
abbrev nB:Stmt:=top 24
abbrev fg:Stmt:=top 21
abbrev gf:Stmt:=inClass (top 7) 0
abbrev iI:Stmt:=inClass (top 7) 1
abbrev fA:Stmt:=inClass (top 7) 2
abbrev fh:Stmt:=inClass (top 7) 3
abbrev g7:Stmt:=inClass (top 7) 4
abbrev fj:Stmt:=inClass (top 8) 0
abbrev fB:Stmt:=inClass (top 8) 1
abbrev dG:Stmt:=inClass (top 8) 2
abbrev eM:Stmt:=inClass (top 8) 3
abbrev jO:Stmt:=top 9
abbrev mn:Stmt:=top 16
abbrev fH:Stmt:=top 17
abbrev gh:Stmt:=top 22
abbrev kD:Stmt:=top 23
abbrev qE:Stmt:=top 25
abbrev qF:Stmt:=top 40
abbrev kE:Stmt:=top 41
abbrev lI:Stmt:=top 42
abbrev lJ:Stmt:=top 43
abbrev iJ:Stmt:=top 44
abbrev gi:Stmt:=top 45
abbrev lK:Stmt:=top 46
abbrev lL:Stmt:=top 47
abbrev lM:Stmt:=top 48
abbrev kF:Stmt:=top 49
abbrev kG:Stmt:=top 50
abbrev kH:Stmt:=top 53
abbrev kI:Stmt:=top 52
abbrev nC:Stmt:=top 51
abbrev lN:Stmt:=top 54
abbrev gj:Stmt:=top 55
abbrev g8:Stmt:=top 56
abbrev iK:Stmt:=top 57
abbrev g9:Stmt:=top 58
abbrev gk:Stmt:=top 59
abbrev tT:Stmt:=top 60
section
variable{P:Program}{w:World}{K:W.Frag}{mg:Str→Option Value}{base:Heap}
variable{d6 cX aT aA ay aI az j9:Addr}
variable(T:TB mg)
theorem nE:aM ["sign"] ["sign"] (ar f'):=⟨rfl,rfl,rfl,by decide+kernel,rfl,by decide+kernel,by decide+kernel⟩
include T in
theorem nF{f:Addr}{fd:FuncData}(F:jh K "is_small_letter" "is_small_letter" f' f fd):a7 P w K mg base (cW P w) true 1 f fd ["sign"] ZG:=by
 refine F.gI nE Zs (fun bT A outer s H vs Q E hr h hX=>?_)
 ·obtain⟨i,rfl,_⟩:=h;rfl
 ·obtain⟨c,rfl,q⟩:=h;refine⟨_,(Y' (Zm (@v5 _ _ _ _ _ _ _ (@iD _ _ _ _ _ _ _ _ vE dS Zw (aV _)) (@vZ _ _ _ _ _ (@iD _ _ _ _ _ _ _ _ vE Zw dS (aV _)))))),?_⟩;refine⟨_,rfl,_,_,rfl,rfl,_,rfl,?_⟩;have q:Q (.bl (decide (97≤c)&&decide (c≤122))) H:=q;rw[←Rz,←RA]at q;refine a8 (fun h=>?_) (fun h=>?_)
  ·refine⟨_,rfl,_,_,rfl,rfl,?_⟩;rw[h,Bool.true_and]at q;exact q
  ·rw[Bool.not_eq_true]at h;rw[h,Bool.false_and]at q;exact q
variable(ju:DO mg "WORD_MOST" (.int 12))
variable(eO:bK P w K mg base true 1 "is_small_letter" ["sign"] ZG)
theorem AG:aM ["text"] ["text"] (ar mj):=⟨rfl,rfl,rfl,by decide+kernel,rfl,by decide+kernel,by decide+kernel⟩
include T ju eO in
theorem AH{f:Addr}{fd:FuncData}(F:jh K "is_word" "is_word" mj f fd):a7 P w K mg base (cW P w) true 2 f fd ["text"] wC:=by
 refine F.gI AG Zs (fun bT A outer s H vs Q E hr h hX=>?_)
 ·obtain⟨i,rfl,_⟩:=h;rfl
 ·obtain⟨z,rfl,hz,q⟩:=h;refine⟨_,(Za (Zc (@PW.pt _ _ _ (@pw_or _ _ _ _ _ _ _ (Zj mM (Y5 om Zv T.cD (Y1 Zw)) ai (aV _)) (@pw_or1 _ _ _ _ (Zj oh (Y5 om Zv T.cD (Y1 Zw)) (@fJ _ _ _ _ ju (Zz) (Zy)) (aV _))))) aP) (Y' (Zm (Zg (Cs K rfl) (by exact rfl) T.NK PyProof.Rows.Boot.«all» (Y1 (@l8 _ _ _ _ _ _ _ _ _ _ _ _ _ _ (by exact rfl) (show bD ["text"] (ar mj) _ ["sign"] [] []from⟨rfl,by decide+kernel,by decide+kernel,by decide+kernel,rfl,rfl,by decide+kernel,by decide+kernel,by decide+kernel⟩) (@Ke _ _ _ _ (pv 0)) (fun _ _ _ _ _=>(Y2 (0) (show(["sign"]:List Str).Nodup by decide+kernel))) (fun _ _ _ _ _=>iF) (fun _ _ _ _ _=>(YZ eO aQ (Y1 Zw))) (by intro _;rfl))))))),?_⟩;have UG:z.length≤sizeLine:=Nat.le_trans hz (Zy);refine⟨_,rfl,z,rfl,UG,_,_,rfl,rfl,_,rfl,?_⟩;refine a8 (fun h=>?_) (fun h=>?_)
  ·have h:((z.length:Nat):Int)<1:=by simpa using h
   refine jK ?_;have e:sR z=false:=by
    have:¬1≤z.length:=Zx;simp[sR,this]
   have q:=q H (ax.refl H);rw[e]at q;exact q
  have h:¬((z.length:Nat):Int)<1:=by simpa using h
  refine⟨_,rfl,z,rfl,UG,_,_,rfl,rfl,_,rfl,?_⟩;refine a8 (fun h2=>?_) (fun h2=>?_)
  ·have h2:(12:Int)<((z.length:Nat):Int):=by simpa using h2
   have e:sR z=false:=by
    have:¬z.length≤12:=Zx;simp[sR,this]
   have q:=q H (ax.refl H);rw[e]at q;exact q
  have h2:¬(12:Int)<((z.length:Nat):Int):=by simpa using h2
  have hl:z.length≤12:=Zx;have e:sR z=z.cps.toList.all low:=by
   have h3:1≤z.length:=Zx;simp[sR,h3,hl]
  refine⟨_,rfl,z,rfl,fun D hD=>?_⟩;refine Ed (fun i ys σ H'=>(∃v,σ=[v])∧ys=(z.cps.toList.take i).map (fun c=>V.bl (low c))∧H'=upd H D (.lst ys)) ⟨⟨_,rfl⟩,rfl,rfl⟩ ?_ ?_
  ·rintro i c ys σ H' hc ⟨⟨v,rfl⟩,hy,rfl⟩;refine qh ?_;refine⟨_,rfl,c,rfl,ae,?_,⟨_,rfl⟩,?_,?_⟩
   ·rw[hy,List.length_map,List.length_take];exact Nat.lt_of_le_of_lt (Nat.min_le_left _ _) (Nat.lt_of_lt_of_le (Nat.lt_of_lt_of_le (Y7 hc).1 (by simpa[Str.length]using hl)) (Zy))
   ·rw[hy,List.take_succ,hc];simp
   ·rw[fW]
  ·rintro ys σ H' ⟨_,hy,rfl⟩;have yW:ys=(z.cps.toList.map low).map V.bl:=by
    rw[hy,List.take_of_length_le (by simp[Str.length])];simp
   rw[yW];refine⟨D,z.cps.toList.map low,rfl,iA.of ae,?_⟩;have q:=q _ (ax.upd hD:ax H (upd H D (.lst ((z.cps.toList.map low).map V.bl))));rw[e]at q;have e3:(z.cps.toList.map low).all id=z.cps.toList.all low:=by rw[List.all_map];rfl
   rw[←e3]at q;exact q
theorem uF:aM ["low","number","high"] ["low","number","high"] (ar kz):=⟨rfl,rfl,rfl,by decide+kernel,rfl,by decide+kernel,by decide+kernel⟩
include T in
theorem uG{f:Addr}{fd:FuncData}(F:jh K "is_between" "is_between" kz f fd):a7 P w K mg base (cW P w) true 1 f fd ["low","number","high"] m_:=by
 refine F.gI uF Zs (fun bT A outer s H vs Q E hr h hX=>?_)
 ·obtain⟨l,n,h,rfl,_⟩:=h;rfl
 ·obtain⟨l,n,h,rfl,q⟩:=h;refine⟨_,(Y' (Zm (@v5 _ _ _ _ _ _ _ (@iD _ _ _ _ _ _ _ _ A7 Zw (pv 1) (aV _)) (@vZ _ _ _ _ _ (@iD _ _ _ _ _ _ _ _ A7 (pv 1) (pv 2) (aV _)))))),?_⟩;refine⟨_,rfl,_,rfl,_,_,rfl,rfl,_,rfl,?_⟩;refine a8 (fun h1=>?_) (fun h1=>?_)
  ·refine⟨_,rfl,_,rfl,_,_,rfl,rfl,?_⟩;rw[h1,Bool.true_and]at q;exact q
  ·rw[Bool.not_eq_true]at h1;rw[h1,Bool.false_and]at q;exact q
variable(d7:bK P w K mg base true 1 "is_between" ["low","number","high"] m_)
variable(jb:Er K mg "BadTerms" d6)
theorem rN:aM ["name","number","low","high"] ["name","number","low","high"] (ar ja):=⟨rfl,rfl,rfl,by decide+kernel,rfl,by decide+kernel,by decide+kernel⟩
include T d7 jb in
theorem rO{f:Addr}{fd:FuncData}(F:jh K "check_number" "check_number" ja f fd):a7 P w K mg base (cW P w) true 2 f fd ["name","number","low","high"] (qi d6):=by
 refine F.gI rN Zs (fun bT A outer s H vs Q E hr h hX=>?_)
 ·obtain⟨nm,n,l,h,rfl,_⟩:=h;rfl
 ·obtain⟨nm,n,l,h,rfl,hn,hl,hh,q⟩:=h;refine⟨_,(Y' (@aX _ _ _ _ _ _ _ _ (@bR _ _ _ _ (@bE _ _ _ (YZ d7 aQ (Y4 (pv 2) (Y4 (pv 1) (Y1 (pv 3))))) (by intro _;rfl))) (Y' (@iZ _ _ _ _ _ _ _ _ _ _ hX Zv (by exact rfl) jb.m jb.e (Y1 (@l7 _ _ _ _ _ _ (@fz _ _ _ _ _ (@qg _ _ _ _ (pv 0)) (@fz _ _ _ _ _ dS (@fz _ _ _ _ _ (@qg _ _ _ _ (pv 2)) (@fz _ _ _ _ _ dS (@fz _ _ _ _ _ (@qg _ _ _ _ (pv 3)) wm))))))) (Zy) (Zz) (Zz))) aP)),?_⟩;refine⟨_,rfl,_,rfl,_,rfl,l,n,h,rfl,?_⟩;refine⟨_,rfl,?_⟩;refine a8 (fun h1=>?_) (fun h1=>?_)
  ·have h1:inR l n h=false:=(Bool.not_eq_true' _).mp h1;rw[h1]at q;have z1:=oF (i:=l) (by lia);have z2:=oF (i:=h) (by lia);have w1:(Str.ofString " lies between ").length=14:=by decide+kernel
   have w2:(Str.ofString " and ").length=5:=by decide+kernel
   have w3:=l_;refine⟨_,rfl, .inl ⟨nm,rfl,aF Zu,nm,rfl,aF ?_,_,rfl,aF ?_,_,rfl, .inr ⟨l,rfl,z1.1,_,rfl,aF ?_,_,rfl,aF ?_,_,rfl, .inr ⟨h,rfl,z2.1,_,rfl,aF ?_,aF ?_,ie,?_⟩⟩⟩⟩
   ·rw[len_app];lia
   ·rw[len_app,len_app];lia
   ·rw[len_app,len_app,len_app];lia
   ·rw[len_app,len_app,len_app,len_app];lia
   ·rw[len_app,len_app,len_app,len_app,len_app];lia
   ·rw[len_app,len_app,len_app,len_app,len_app];lia
   ·exact q
  ·have h1:inR l n h=true:=by
    have h1:¬(!(inR l n h))=true:=h1;simpa using h1
   rw[h1]at q;exact q
variable(bQ:DO mg "WORTH_MOST" (.int 999999))
variable(j_:bK P w K mg base true 2 "is_word" ["text"] wC)
variable(b_:Er K mg "BadNear" cX)
theorem nG:aM ["x","y","price"] ["x","y","price"] (ar gc):=⟨rfl,rfl,rfl,by decide+kernel,rfl,by decide+kernel,by decide+kernel⟩
include T d7 bQ j_ b_ in
theorem nH{f:Addr}{fd:FuncData}(F:jh K "check_near_form" "check_near_form" gc f fd):a7 P w K mg base (cW P w) true 3 f fd ["x","y","price"] (wD cX):=by
 refine F.gI nG Zs (fun bT A outer s H vs Q E hr h hX=>?_)
 ·obtain⟨x,y,p,rfl,_⟩:=h;rfl
 ·obtain⟨x,y,p,rfl,hx,hy,q⟩:=h;have bad:iu x y p=false→∀H',ax H H'→E (.ref cX) none H':=fun e=>by rw[e]at q;exact q
  have good:iu x y p=true→∀H',ax H H'→Q .cO H':=fun e=>by rw[e]at q;exact q
  refine⟨_,(Za (@aX _ _ _ _ _ _ _ _ (@PW.pt _ _ _ (@pw_or _ _ _ _ _ _ _ (@bR _ _ _ _ (@bE _ _ _ (YZ j_ aQ (Y1 Zw)) (by intro _;rfl))) (@pw_or1 _ _ _ _ (@bR _ _ _ _ (@bE _ _ _ (YZ j_ aQ (Y1 (pv 1))) (by intro _;rfl)))))) (Y' (@iZ _ _ _ _ _ _ _ _ _ _ hX Zv (by exact rfl) b_.m b_.e (Y1 dS) (Zy) (Zz) (Zz))) aP) (Za (@aX _ _ _ _ _ _ _ _ (Zj jm Zw (pv 1) (aV _)) (Y' (@iZ _ _ _ _ _ _ _ _ _ _ hX Zv (by exact rfl) b_.m b_.e (Y1 dS) (Zy) (Zz) (Zz))) aP) (Y' (@aX _ _ _ _ _ _ _ _ (@bR _ _ _ _ (@bE _ _ _ (YZ d7 aQ (Y4 ai (Y4 (pv 2) (Y1 (@fJ _ _ _ _ bQ (Zz) (Zy)))))) (by intro _;rfl))) (Y' (@iZ _ _ _ _ _ _ _ _ _ _ hX Zv (by exact rfl) b_.m b_.e (Y1 (@l7 _ _ _ _ _ _ (@fz _ _ _ _ _ dS (@fz _ _ _ _ _ (@qg _ _ _ _ (@fJ _ _ _ _ bQ (Zz) (Zy))) wm)))) (Zy) (Zz) (Zz))) aP)))),?_⟩;refine⟨_,rfl,x,rfl,hx,fun H1 s1=>⟨_,rfl,?_⟩⟩;refine a8 (fun h1=>?_) (fun h1=>?_)
  ·have h1:(!(sR x))=true:=h1;exact⟨ie,bad (by simp[iu,(Bool.not_eq_true' _).mp h1]) H1 s1⟩
  have h1:¬(!(sR x))=true:=h1;have h1:sR x=true:=by simpa using h1
  refine⟨_,rfl,y,rfl,hy,fun H2 s2=>⟨_,rfl,?_⟩⟩;have s2:=s1.trans s2;refine a8 (fun h2=>?_) (fun h2=>?_)
  ·have h2:(!(sR y))=true:=h2;exact⟨ie,bad (by simp[iu,(Bool.not_eq_true' _).mp h2]) H2 s2⟩
  have h2:¬(!(sR y))=true:=h2;have h2:sR y=true:=by simpa using h2
  refine⟨_,rfl,_,rfl,rfl,_,rfl,?_⟩;refine a8 (fun h3=>?_) (fun h3=>?_)
  ·have h3:x=y:=by simpa using h3
   exact⟨ie,bad (by simp[iu,h3]) H2 s2⟩
  have h3:¬x=y:=by simpa using h3
  refine⟨_,rfl,0,p,999999,rfl,_,rfl,?_⟩;refine a8 (fun h4=>?_) (fun h4=>?_)
  ·have h4:(!(inR 0 p 999999))=true:=h4;have z1:=oF (i:=999999) (Zx);have w1:(Str.ofString "the price of a near form lies between 0 and ").length=44:=by decide+kernel
   have w3:=l_;refine⟨_,rfl,aF ?_, .inr ⟨999999,rfl,z1.1,_,rfl,aF ?_,aF ?_,ie,?_⟩⟩
   ·rw[len_app];omega
   ·rw[len_app,len_app];omega
   ·rw[len_app,len_app];omega
   ·exact bad (by simp[iu,(Bool.not_eq_true' _).mp h4]) H2 s2
  ·have h4:¬(!(inR 0 p 999999))=true:=h4;have h4:inR 0 p 999999=true:=by simpa using h4
   exact good (by simp[iu,h1,h2,h3,h4]) H2 s2
variable(ip:DO mg "NEAR_MOST" (.int 60))
variable(eP:bK P w K mg base true 3 "check_near_form" ["x","y","price"] (wD cX))
theorem fm:aM ["near","prices","x","y","price"] ["near"] (ar gZ):=⟨rfl,rfl,rfl,by decide+kernel,rfl,by decide+kernel,by decide+kernel⟩
include T b_ ip eP in
theorem tU{f:Addr}{fd:FuncData}(F:jh K "near_prices" "near_prices" gZ f fd):a7 P w K mg base (cW P w) true 4 f fd ["near"] (qj cX):=by
 refine F.gI fm Zs (fun bT A outer s H vs Q E hr h hX=>?_)
 ·obtain⟨a,xs,fs,rfl,_⟩:=h;rfl
 ·obtain⟨a,xs,fs,rfl,ha,ht,Nq,q⟩:=h;have bad:bO fs=false→∀H',ax H H'→E (.ref cX) none H':=fun e=>by rw[e]at q;exact q
  have good:bO fs=true→∀H' d,ax H H'→H d=none→H' d=some (.dT (fs.map lz))→Q (.ref d) H':=fun e=>by rw[e]at q;exact q
  have hu:=hr.units;have hu:(A.deeper (PyProof.Rows.envOfC "near_prices" (ar gZ) s.heap.objs.size f bT)).units+1<cLine:=Zx;refine⟨_,(Za (@aX _ _ _ _ _ _ _ _ (Zj oh (Y5 (aG K) (by exact rfl) T.cD (Y1 Zw)) (@fJ _ _ _ _ ip (Zz) (Zy)) (aV _)) (Y' (@iZ _ _ _ _ _ _ _ _ _ _ hX Zv (by exact rfl) b_.m b_.e (Y1 (@l7 _ _ _ _ _ _ (@fz _ _ _ _ _ dS (@fz _ _ _ _ _ (@qg _ _ _ _ (@fJ _ _ _ _ ip (Zz) (Zy))) (@fz _ _ _ _ _ dS wm))))) (Zy) (Zz) (Zz))) aP) (Za (Y0 (1) fm.nd jW) (Za (@bj _ _ _ _ _ _ _ _ hX.own Zv (@bg _ K _ _ _ (pv 0) (Zz)) (@f6 _ K _ _ _ (3) _ (by exact rfl) (@bf _ _ _ _ _ (Y2 (2) fm.nd) (@bf _ _ _ _ _ (Y2 (3) fm.nd) (@bf _ _ _ _ _ (Y2 (4) fm.nd) fX (Zz)) (Zz)) (Zz)) (Zz) (Zz) (Zz)) (Za (Zq (YZ eP hX.pass (Y4 (pv 2) (Y4 (pv 3) (Y1 (pv 4)))))) (Za (@aX _ _ _ _ _ _ _ _ (Zb (@qf _ _ _ _ _ hu (@eX _ _ _ _ _ (Y4 (pv 2) (Y1 (pv 3)))) (pv 1))) (Y' (@iZ _ _ _ _ _ _ _ _ _ _ hX Zv (by exact rfl) b_.m b_.e (Y1 dS) (Zy) (Zz) (Zz))) aP) (Y' (@kn _ _ _ _ _ _ _ _ _ hu (pv 1) (@eX _ _ _ _ _ (Y4 (pv 2) (Y1 (pv 3)))) (pv 4) (by exact rfl))))) (by intro _;rfl)) (Y' (Zm (pv 1)))))),?_⟩;refine⟨_,rfl,a,_,rfl, .inl (.of ha),_,_,rfl,rfl,_,rfl,?_⟩;refine a8 (fun h1=>?_) (fun h1=>?_)
  ·have h1:(60:Int)<(xs.length:Int):=by simpa using h1
   rw[ht.1]at h1;have z1:=oF (i:=60) (Zx);have w1:(Str.ofString "there are at most ").length=18:=by decide+kernel
   have w2:(Str.ofString " near forms").length=11:=by decide+kernel
   have w3:=l_;refine⟨_,rfl,aF ?_, .inr ⟨60,rfl,z1.1,_,rfl,aF ?_,_,rfl,aF ?_,aF ?_,ie,?_⟩⟩
   ·rw[len_app];omega
   ·rw[len_app,len_app];omega
   ·rw[len_app,len_app,len_app];omega
   ·rw[len_app,len_app,len_app];omega
   ·exact bad (by have:¬fs.length≤60:=(Zx);simp[bO,this]) H (.refl H)
  have h1:¬(60:Int)<(xs.length:Int):=by simpa using h1
  rw[ht.1]at h1;refine fun d hd=>?_
  have Yz:H a≠none:=by rw[ha];intro z;cases z
  have eV:a≠d:=aE ha hd;refine⟨_,rfl,a,rfl,⟨xs, .of (by rw[ao eV];exact ha)⟩,?_⟩;refine bJ (xs:=xs) (fun i σ H'=>(∃u v w,σ=[some (.ref a),some (.ref d),u,v,w])∧H' d=some (.dT ((fs.take i).map lz))∧ax H H'∧((fs.take i).all Dr=true)∧((fs.take i).map kY).Nodup) ?_ ?_ ?_ ?_
  ·exact⟨⟨_,_,_,rfl⟩,ae,ax.upd hd,rfl, .nil⟩
  ·rintro i σ H' hi ⟨_,_,s1,_⟩;exact .of (s1 _ _ ha)
  ·rintro i x σ H' hx ⟨⟨u,v,w,rfl⟩,hD,s1,bX,F2⟩;have hi:i<fs.length:=by rw[←ht.1];exact(Y7 hx).1
   have hf:fs[i]?=some fs[i]:=by simp[hi]
   generalize fs[i]=f0 at hf;obtain⟨t,xZ,uw⟩:=ht.2 i f0 hf;rw[hx]at xZ;cases xZ;obtain⟨x,y,p⟩:=f0;have hm:(x,y,p)∈fs:=Ze hf;obtain⟨k8,zB⟩:=Nq.2 _ hm;refine⟨t,_,rfl, .of (s1 _ _ uw),rfl,_,_,rfl,_,_,rfl,_,_,rfl,rfl,?_⟩;refine⟨_,rfl,_,rfl,_,rfl,x,y,p,rfl,k8,zB,?_⟩;refine a8 (fun h2=>?_) (fun h2=>?_)
   rotate_left
   ·have h2:Dr (x,y,p)=false:=by simpa[Dr]using h2
    exact fun H2 s2=>bad (Ek hf h2) H2 (s1.trans s2)
   have h2:Dr (x,y,p)=true:=h2;intro H2 s2;have Qa:=s1.trans s2;have lO:=s2 _ _ hD;refine⟨_,rfl,_,rfl,aF Zr,fun p1 L6=>?_⟩;have n1:d≠p1:=aE lO L6;refine⟨_,rfl,d,_,rfl, .t (k:=kY (x,y,p)) (by rw[ao n1];exact lO) ae,_,rfl,?_⟩;refine a8 (fun h3=>?_) (fun h3=>?_)
   ·obtain⟨v3,h3⟩:=Option.isSome_iff_exists.mp h3;exact⟨ie,bad (Ct hf (Kj h3)) _ (Qa.eZ (Qa.free L6))⟩
   have h3:bu ((fs.take i).map lz) (kY (x,y,p))=none:=by simpa using h3
   have s3:ax H (upd H2 p1 (.tup [.str x, .str y])):=Qa.eZ (Qa.free L6);refine⟨_,rfl,_,rfl,_,rfl,_,rfl,aF Zr,fun p2 Cf=>?_⟩;have x_:upd H2 p1 (.tup [.str x, .str y]) d=some (.dT ((fs.take i).map lz)):=by rw[ao n1];exact lO
   have n2:d≠p2:=aE x_ Cf;have hlen:((fs.take i).map lz).length<sizeLine:=ba (by rw[List.length_map,List.length_take];omega);refine⟨d,_,rfl, .t (k:=kY (x,y,p)) (by rw[ao n2];exact x_) ae hlen,?_⟩;refine⟨⟨_,_,_,rfl⟩,?_,?_,?_,?_⟩
   ·rw[ae,sJ _ h3,Cu hf];rfl
   ·exact(s3.eZ (s3.free Cf)).eZ hd
   ·rw[List.take_succ,hf,List.all_append,bX];simp[h2]
   ·rw[List.take_succ,hf,List.map_append];have:=NL h3;refine List.nodup_append.mpr ⟨F2,ZA,?_⟩;intro a1 Al b1 jP e;have jP:b1=kY (x,y,p):=by simpa using jP
    rw[e,jP]at Al;exact this Al
  ·rintro σ H' ⟨⟨u,v,w,rfl⟩,hD,s1,bX,F2⟩;rw[ht.1,List.take_length]at hD bX F2;refine⟨_,rfl,good ?_ H' d s1 hd hD⟩;have:fs.length≤60:=Zx;simp[bO,this,bX,F2]
variable(jv:DO mg "PART_MOST" (.int 100))
variable(cz:bK P w K mg base true 2 "check_number" ["name","number","low","high"] (qi d6))
variable(g_:bK P w K mg base true 4 "near_prices" ["near"] (qj cX))
variable(Tc:El K aT)
theorem oW:aM ["self","same","out","into","least","part","near"] ["self","same","out","into","least","part","near"] (ar br):=⟨rfl,rfl,rfl,by decide+kernel,rfl,by decide+kernel,by decide+kernel⟩
include T bQ jv cz g_ Tc in
theorem oX{f:Addr}{fd:FuncData}(F:ir K "__init__" "Terms.__init__" br f fd):a7 P w K mg base (cW P w) true 5 f fd ["self","same","out","into","least","part","near"] (si aT d6 cX):=by
 refine F.gI oW Zs (fun bT A outer s H vs Q E hr h hX=>?_)
 ·obtain⟨x,dx,n,nv,xs,fs,rfl,_⟩:=h;rfl
 ·obtain⟨x,dx,n,nv,xs,fs,rfl,hx,EA,W4,Nq,q⟩:=h;have bad:i4 n=false→E (.ref d6) none H:=fun e=>by rw[e]at q;exact q H .refl
  refine⟨_,(Za (Zq (YZ cz hX.pass (Y4 dS (Y4 (pv 1) (Y4 ai (Y1 (@fJ _ _ _ _ bQ (Zz) (Zy)))))))) (Za (Zq (YZ cz hX.pass (Y4 dS (Y4 (pv 2) (Y4 ai (Y1 (@fJ _ _ _ _ bQ (Zz) (Zy)))))))) (Za (Zq (YZ cz hX.pass (Y4 dS (Y4 (pv 3) (Y4 ai (Y1 (@fJ _ _ _ _ bQ (Zz) (Zy)))))))) (Za (Zq (YZ cz hX.pass (Y4 dS (Y4 (pv 4) (Y4 ai (Y1 (@fJ _ _ _ _ bQ (Zz) (Zy)))))))) (Za (Zq (YZ cz hX.pass (Y4 dS (Y4 (pv 5) (Y4 ai (Y1 (@fJ _ _ _ _ jv (Zz) (Zy)))))))) (Za (Zo K Zw (pv 1)) (Za (Zo K Zw (pv 2)) (Za (Zo K Zw (pv 3)) (Za (Zo K Zw (pv 4)) (Za (Zo K Zw (pv 5)) (Zf (Zo K Zw (@oe _ _ _ _ _ _ _ _ (Zb (@ll _ _ _ _ _ (pv 6))) (@bM _ _ _ _ af) (@gO _ _ _ _ _ _ _ _ _ (gW K) (by exact rfl) T.ko PyProof.Rows.Boot.«list» (Y1 (pv 6)) (Zy) (Zy) (Zz) (Zz)))) (Y' (Zo K Zw (YZ g_ hX.pass (Y1 (Y6 K Zw)))))))))))))))),?_⟩;refine⟨_,rfl,"same",n.same,1,999999,rfl,by decide+kernel,Zx,Zx,?_⟩;refine a8 (fun h1=>?_) (fun h1=>bad (by simp[i4,h1]));refine⟨_,rfl,"out",n.out,0,999999,rfl,by decide+kernel,Zx,Zx,?_⟩;refine a8 (fun h2=>?_) (fun h2=>bad (by simp[i4,h2]));refine⟨_,rfl,"into",n.into,0,999999,rfl,by decide+kernel,Zx,Zx,?_⟩;refine a8 (fun h3=>?_) (fun h3=>bad (by simp[i4,h3]));refine⟨_,rfl,"least",n.least,1,999999,rfl,by decide+kernel,Zx,Zx,?_⟩;refine a8 (fun h4=>?_) (fun h4=>bad (by simp[i4,h4]));refine⟨_,rfl,"part",n.part,1,100,rfl,by decide+kernel,Zx,Zx,?_⟩;refine a8 (fun h5=>?_) (fun h5=>bad (by simp[i4,h5]));have bX:i4 n=true:=by simp[i4,h1,h2,h3,h4,h5]
  rw[bX]at q;have hl:∀k:Nat,k<10→k<1000:=fun k h=>Zx
  refine⟨_,rfl,_,rfl,x,aT,dx,_,rfl,hx,Tc.cl,Tc.same,Zy,?_⟩;refine⟨_,rfl,_,rfl,x,aT,dx,_,rfl,ae,Tc.cl,Tc.out,?_,?_⟩
  ·exact hl _ (by have:=aW "same" (.int n.same) [];simp at this;omega)
  refine⟨_,rfl,_,rfl,x,aT,dx,_,rfl,ae,Tc.cl,Tc.into,?_,?_⟩
  ·exact hl _ (Nat.lt_of_le_of_lt (aW _ _ _) (by have:=aW "same" (.int n.same) [];simp at this;omega))
  refine⟨_,rfl,_,rfl,x,aT,dx,_,rfl,ae,Tc.cl,Tc.least,?_,?_⟩
  ·show([("same", .int n.same),("out", .int n.out),("into", .int n.into)]:List (Str×V)).length<1000;simp
  refine⟨_,rfl,_,rfl,x,aT,dx,_,rfl,ae,Tc.cl,Tc.part,?_,?_⟩
  ·show([("same", .int n.same),("out", .int n.out),("into", .int n.into),("least", .int n.least)]:List (Str×V)).length<1000;simp
  rw[fW,fW,fW,fW,RB];have b5:SameBut x H (upd H x (.ins aT dx (mP n))):=SameBut.refl.upd;refine⟨fun σ H'=>σ=[some (.ref x),some (.int n.same),some (.int n.out),some (.int n.into),some (.int n.least),some (.int n.part),some nv]∧∃l,H' x=some (.ins aT dx (bp "near" (.ref l) (mP n)))∧SameBut x H H'∧H' l=some (.lst xs)∧dR H' xs fs∧H l=none,?_,?_⟩
  ·refine⟨_,rfl,_,rfl,?_⟩;rcases W4 with⟨rfl,rfl,rfl⟩|⟨a,rfl,ha,Qb⟩
   ·refine jK ?_;refine⟨aF Zr,fun l kW=>?_⟩;have n1:x≠l:=aE ae kW;refine⟨_,rfl,x,aT,dx,_,rfl,by rw[ao n1,ae],Tc.cl,Tc.near,by simp[mP],rfl,l,ae,?_,?_, .nil,?_⟩
    ·exact(b5.laid (b5.free ae kW)).upd
    ·rw[ao (Ne.symm n1),ae]
    ·exact b5.free ae kW
   ·refine a8 (fun hh=>absurd hh Zr) (fun _=>?_);have n0:a≠x:=iV ha hx (by intro z;cases z);refine⟨_,rfl,a,xs,rfl, .inl (.of (by rw[ao n0];exact ha)),fun l kW=>?_⟩;have n1:x≠l:=aE ae kW;have b6:SameBut x H (upd (upd H x (.ins aT dx (mP n))) l (.lst xs)):=b5.laid (b5.free ae kW);refine⟨_,rfl,x,aT,dx,_,rfl,by rw[ao n1,ae],Tc.cl,Tc.near,by simp[mP],rfl,l,ae,b6.upd,?_,?_,?_⟩
    ·rw[ao (Ne.symm n1),ae]
    ·exact Qb.but b6.upd hx
    ·exact b5.free ae kW
  ·rintro σ H' ⟨rfl,l,uv,sb,Sj,Qb,W5⟩;refine⟨_,rfl,x,aT,dx,_,_,rfl,uv,Tc.cl,Tc.near,NN n l,l,xs,fs,rfl,Sj,Qb,Nq,?_⟩;refine a8 (fun h6=>?_) (fun h6=>?_)
   ·rw[if_pos rfl,Zk h6]at q;intro H2 d s2 hd hD;have b2:=sb.same s2;have W6:=sb.free uv hd;refine⟨_,rfl,x,aT,dx,_,rfl,s2 _ _ uv,Tc.cl,Tc.Em,?_,?_⟩
    ·have:=aW "near" (.ref l) (mP n);have e5:(mP n).length=5:=rfl;exact hl _ (Zx)
    ·have nl:l≠x:=iV Sj uv (by intro z;cases z);have nd:d≠x:=iV hD (s2 _ _ uv) (by intro z;cases z);have UH:dx≠x:=iV EA hx (by intro z;cases z);refine q _ l d b2.upd ⟨?_,?_,?_,?_,?_⟩ W5 W6
     ·rw[ae,RD]
     ·rw[ao UH];exact b2 _ _ UH EA
     ·rw[ao nl];exact s2 _ _ Sj
     ·exact Qb.but (SameBut.upd (fun b u n e=>s2 b u e)) uv
     ·rw[ao nd];exact hD
   ·rw[if_pos rfl,Zh h6]at q;exact fun H2 s2=>q H2 (sb.same s2)
theorem iB:aM ["self","x","y","price"] ["self","x","y"] (ar dZ):=⟨rfl,rfl,rfl,by decide+kernel,rfl,by decide+kernel,by decide+kernel⟩
include T Tc in
theorem mD{f:Addr}{fd:FuncData}(F:ir K "pair_worth" "Terms.pair_worth" dZ f fd):a7 P w K mg base (cW P w) true 1 f fd ["self","x","y"] (wI aT):=by
 refine F.gI iB Zs (fun bT A outer s H vs Q E hr h hX=>?_)
 ·obtain⟨t,x,y,n,fs,dx,l,d,xs,rfl,_⟩:=h;rfl
 ·obtain⟨t,x,y,n,fs,dx,l,d,xs,rfl,T1,q⟩:=h;have hu:=hr.units;have hu:(A.deeper (PyProof.Rows.envOfC "Terms.pair_worth" (ar dZ) s.heap.objs.size f bT)).units+1<cLine:=Zx;refine⟨_,(Za (@aX _ _ _ _ _ _ _ _ (Zj jm (pv 1) (pv 2) (aV _)) (Y' (Zm (Y6 K Zw))) aP) (Za (Y0 (3) iB.nd (@DW _ _ _ _ _ _ _ hu (Y6 K Zw) (@eX _ _ _ _ _ (Y4 (pv 1) (Y1 (pv 2)))) ⟨rfl,rfl,rfl,rfl⟩)) (Za (@aX _ _ _ _ _ _ _ _ (Zb (@ll _ _ _ _ _ (pv 3))) (Y' (Zm jJ)) aP) (Y' (Zm (Y8 bY (Y6 K Zw) (pv 3))))))),?_⟩;refine⟨_,rfl,_,rfl,rfl,_,rfl,?_⟩;refine a8 (fun h=>?_) (fun h=>?_)
  ·have h:x=y:=by simpa using h
   have q:=q H (.refl H);rw[show dD n.same fs x y=some n.same by simp[dD,h]]at q;exact⟨_,rfl,t,aT,dx,_,_,rfl,T1.ob,Tc.cl,Tc.same,En n l d,q⟩
  have h:¬x=y:=by simpa using h
  refine⟨_,rfl,t,aT,dx,_,_,rfl,T1.ob,Tc.cl,Tc.Em,Eo n l d,d,rfl, .inr ⟨_, .inl T1.di⟩,_,rfl,_,rfl,aF Zr,fun p hp=>?_⟩;have nd:d≠p:=aE T1.di hp;have q:=q _ (ax.upd (o:= .tup [.str x, .str y]) hp);refine⟨_, .t (k:=[.inr x, .inr y]) (by rw[ao nd];exact T1.di) ae,?_⟩;rw[vF];have T2:kq (upd H p (.tup [.str x, .str y])) aT t n fs dx l d xs:=⟨ax.upd hp _ _ T1.ob,ax.upd hp _ _ T1.own,ax.upd hp _ _ T1.li,T1.tr.same (ax.upd hp),ax.upd hp _ _ T1.di⟩
  cases e:dY fs x y with
  |none=>
   rw[show dD n.same fs x y=none by simp[dD,h,e]]at q;refine⟨_,rfl,_,rfl,?_⟩;exact jK q
  |some v=>
   rw[show dD n.same fs x y=some (n.same-v) by simp[dD,h,e]]at q;refine⟨_,rfl,_,rfl,?_⟩;refine a8 (fun hh=>absurd hh Zr) (fun _=>?_);exact⟨_,rfl,t,aT,dx,_,_,rfl,T2.ob,Tc.cl,Tc.same,En n l d,_,rfl,_,_,rfl,rfl,q⟩
theorem yX:aM ["numbers"] ["numbers"] (ar kC):=⟨rfl,rfl,rfl,by decide+kernel,rfl,by decide+kernel,by decide+kernel⟩
include T in
theorem yY{f:Addr}{fd:FuncData}(F:jh K "greatest" "greatest" kC f fd):a7 P w K mg base (cW P w) true 1 f fd ["numbers"] lC:=by
 refine F.gI yX Zs (fun bT A outer s H vs Q E hr h hX=>?_)
 ·obtain⟨a,os,rfl,_⟩:=h;rfl
 ·obtain⟨a,os,rfl,ha,hl,q⟩:=h;refine⟨_,(Y' (Zm (@GY _ K _ _ _ _ _ _ _ (by exact rfl) (by exact rfl) T.IB (@l8 _ _ _ _ _ _ _ _ _ _ _ _ _ _ (by exact rfl) (show bD ["numbers"] (ar kC) _ ["number"] [] []from⟨rfl,by decide+kernel,by decide+kernel,by decide+kernel,rfl,rfl,by decide+kernel,by decide+kernel,by decide+kernel⟩) (@bg _ K _ _ _ (pv 0) (Zz)) (fun _ _ _ _ _=>(Y2 (0) (show(["number"]:List Str).Nodup by decide+kernel))) (fun _ _ _ _ _=>(@Bh _ _ _ (Zb (@oa _ _ _ _ _ (pv 0))))) (fun _ _ _ _ _=>(pv 0)) (by intro _;rfl)) (Zz) (Zz)))),?_⟩;refine⟨_,rfl,a,rfl,⟨_, .of ha⟩,fun D hD=>?_⟩;refine jZ (xs:=os.map bB) (fun i ys bH H'=>(∃u,bH=[u])∧ys=((os.take i).filterMap id).map V.int∧H' D=some (.lst ys)∧ax H H') ⟨⟨_,rfl⟩,rfl,ae,ax.upd hD⟩ ?_ ?_ ?_
  ·rintro i ys bH H' _ ⟨_,_,_,s1⟩;exact .of (s1 _ _ ha)
  ·rintro i x ys bH H' hx ⟨⟨u,rfl⟩,rfl,rP,s1⟩;have hi:i<os.length:=by have:=(Y7 hx).1;simpa using this
   have ho:os[i]?=some os[i]:=by simp[hi]
   generalize os[i]=o at ho;have ex:x=bB o:=by
    rw[List.getElem?_map,ho]at hx;exact(Zp hx).symm
   subst ex;have h_:(((os.take i).filterMap id).map V.int).length<sizeLine:=ba (by
    have:=List.length_filterMap_le id (os.take i);rw[List.length_take]at this;rw[List.length_map];omega)
   have e1:os.take (i+1)=os.take i++[o]:=by rw[List.take_succ,ho];rfl
   refine⟨_,rfl,_,rfl,?_⟩;cases o with
   |none=>
    refine a8 (fun hh=>absurd hh (by simp[bB])) (fun _=>?_);exact⟨⟨_,rfl⟩,by rw[e1];simp,rP,s1⟩
   |some v=>
    refine a8 (fun _=>?_) (fun hh=>absurd (by simp[bB]) hh);exact⟨_,rfl,rP,h_,⟨_,rfl⟩,by rw[e1];simp[bB],ae,s1.eZ hD⟩
  ·rintro ys bH H' ⟨_,rfl,rP,s1⟩;rw[List.length_map,List.take_length]at rP;refine⟨D,os.filterMap id,rfl, .of rP,?_⟩;rw[G6];exact q H' s1
theorem Hy:aM ["number","price"] ["number","price"] (ar AF):=⟨rfl,rfl,rfl,by decide+kernel,rfl,by decide+kernel,by decide+kernel⟩
include T in
theorem Hz{f:Addr}{fd:FuncData}(F:jh K "less" "less" AF f fd):a7 P w K mg base (cW P w) true 1 f fd ["number","price"] wQ:=by
 refine F.gI Hy Zs (fun bT A outer s H vs Q E hr h hX=>?_)
 ·obtain⟨o,p,rfl,_⟩:=h;rfl
 ·obtain⟨o,p,rfl,q⟩:=h;refine⟨_,(Y' (Zm (@oe _ _ _ _ _ _ _ _ (Zb (@ll _ _ _ _ _ (pv 0))) jJ (Y8 bY Zw (pv 1))))),?_⟩;refine⟨_,rfl,_,rfl,?_⟩;cases o with
  |none=>
   refine jK ?_;exact q
  |some v=>
   refine a8 (fun hh=>absurd hh (by simp[bB])) (fun _=>?_);exact⟨_,rfl,_,rfl,_,_,rfl,rfl,q⟩
theorem mE:aM ["worth","brought"] ["worth","brought"] (ar fN):=⟨rfl,rfl,rfl,by decide+kernel,rfl,by decide+kernel,by decide+kernel⟩
include T in
theorem mF{f:Addr}{fd:FuncData}(F:jh K "begun_or_gone_on" "begun_or_gone_on" fN f fd):a7 P w K mg base (cW P w) true 1 f fd ["worth","brought"] Ad:=by
 refine F.gI mE Zs (fun bT A outer s H vs Q E hr h hX=>?_)
 ·obtain⟨w,b,rfl,_⟩:=h;rfl
 ·obtain⟨w,b,rfl,q⟩:=h;refine⟨_,(Za (@aX _ _ _ _ _ _ _ _ (Zb (@ll _ _ _ _ _ (pv 0))) (Y' (Zm jJ)) aP) (Za (@aX _ _ _ _ _ _ _ _ (@PW.pt _ _ _ (@pw_or _ _ _ _ _ _ _ (Zb (@ll _ _ _ _ _ (pv 1))) (@pw_or1 _ _ _ _ (Zj mM (pv 1) ai (aV _))))) (Y' (Zm Zw)) aP) (Y' (Zm (Y8 bx Zw (pv 1)))))),?_⟩;refine⟨_,rfl,_,rfl,?_⟩;cases w with
  |none=>
   refine jK ?_;exact q
  |some w=>
   refine a8 (fun hh=>absurd hh (by simp[bB])) (fun _=>?_);refine⟨_,rfl,_,rfl,?_⟩;cases b with
   |none=>
    refine jK ?_;refine jK ?_;exact⟨_,rfl,q⟩
   |some b=>
    refine a8 (fun hh=>absurd hh (by simp[bB])) (fun _=>?_);refine⟨_,rfl,_,_,rfl,rfl,_,rfl,?_⟩;refine a8 (fun hh=>?_) (fun hh=>?_)
    ·have hh:b<0:=by simpa using hh
     simp only[G0,hh,if_true]at q;exact⟨_,rfl,q⟩
    ·have hh:¬b<0:=by simpa using hh
     simp only[G0,hh,if_false]at q;exact⟨_,rfl,_,rfl,_,_,rfl,rfl,q⟩
variable(fo:bK P w K mg base true 1 "greatest" ["numbers"] lC)
variable(kJ:bK P w K mg base true 1 "less" ["number","price"] wQ)
variable(Rc:Bt K aA)
theorem cq:aM ["self","ended","above","row","j","worth"] ["self","ended","above"] (ar dN):=⟨rfl,rfl,rfl,by decide+kernel,rfl,by decide+kernel,by decide+kernel⟩
include T fo kJ Rc in
theorem jQ{f:Addr}{fd:FuncData}(F:ir K "brought_behind" "Trails.brought_behind" dN f fd):a7 P w K mg base (cW P w) true 2 f fd ["self","ended","above"] (qp aA):=by
 refine F.gI cq Zs (fun bT A outer s H vs Q E hr h hX=>?_)
 ·obtain⟨x,e,a,dx,te,tb,o,p,m,f,g,rfl,_⟩:=h;rfl
 ·obtain⟨x,e,a,dx,te,tb,o,p,m,f1,g,rfl,hx,he,ha,hm,q⟩:=h;refine⟨_,(Za (Y0 (3) cq.nd (@bM _ _ _ _ (Y1 jJ))) (Za (@bj _ _ _ _ _ _ _ _ hX.own Zv (@oH _ K _ _ _ _ _ _ _ (by exact rfl) T.jn (Y1 (pv 1)) (Zz) (Zz)) (@f6 _ K _ _ _ (2) _ (by exact rfl) (@bf _ _ _ _ _ (Y2 (4) cq.nd) (@bf _ _ _ _ _ (Y2 (5) cq.nd) fX (Zz)) (Zz)) (Zz) (Zz) (Zz)) (Y' (Zq (Y_ K PySem.F.plainAttrs_list PySem.F.slot_list_append PySem.F.type_list_append bC (pv 3) (Y1 (YZ fo aQ (Y1 (@bM _ _ _ _ (Y4 (pv 5) (Y4 (YZ kJ aQ (Y4 (Y3 (pv 2) (Y8 bx (pv 4) ai)) (Y1 (Y6 K Zw)))) (Y1 (YZ kJ aQ (Y4 (Y3 (pv 3) (pv 4)) (Y1 (Y6 K Zw)))))))))))))) (by intro _;rfl)) (Y' (Zm (pv 3))))),?_⟩;refine⟨aF Zr,fun r F5=>?_⟩;refine⟨_,rfl,e,rfl,⟨_, .of (ax.upd F5 _ _ he)⟩,?_⟩;have hl:=de m f1;refine yz (xs:=c_ m f1) (fun i σ H'=>(∃u v,σ=[some (.ref x),some (.ref e),some (.ref a),some (.ref r),u,v])∧ax H H'∧H' r=some (.lst (c_ (i+1) (rL f1 g o p)))) ?_ ?_ ?_ ?_
  ·exact⟨⟨_,_,rfl⟩,ax.upd F5,by rw[ae];simp[c_,rL,bB,List.range_succ]⟩
  ·rintro i σ H' _ ⟨_,s1,_⟩;exact .of (s1 _ _ he)
  ·rintro i v T' σ H' hv ⟨⟨u,u2,rfl⟩,s1,Z0⟩ hT;have hi:i<m:=by have:=(Y7 hv).1;omega
   rw[dh hi]at hv;cases hv;have s2:ax H (upd H' T' (.tup [.int i,bB (f1 i)])):=s1.trans (ax.upd hT);have xj:=ax.upd (o:= .tup [.int i,bB (f1 i)]) hT _ _ Z0;refine⟨T',_,rfl, .of ae,rfl,_,_,rfl,_,_,rfl,rfl,?_⟩;generalize upd H' T' (.tup [.int i,bB (f1 i)])=H2 at s2 xj;have W7:rg (c_ (m+1) g) ((i:Int)+1)=some (bB (g (i+1))):=by
    have:((i:Int)+1)=((i+1:Nat):Int):=Zx;rw[this];exact av (dh Zt)
   have at2:rg (c_ (i+1) (rL f1 g o p)) (i:Int)=some (bB (rL f1 g o p i)):=av (dh Zt);refine⟨_,rfl, .inl ⟨rfl,_, .of xj⟩,_,rfl,_,rfl,_,rfl,_,_,rfl,rfl,a,_,_,_,rfl,rfl, .of (s2 _ _ ha),W7,_,rfl,x,aA,dx,_,_,rfl,s2 _ _ hx,Rc.cl,Rc.out,IH o p te tb,g (i+1),o,rfl,_,rfl,_,rfl,r,_,_,_,rfl,rfl, .of xj,at2,_,rfl,x,aA,dx,_,_,rfl,s2 _ _ hx,Rc.cl,Rc.into,ED o p te tb,rL f1 g o p i,p,rfl,aF Zr,fun L hL=>⟨L,[f1 i,bA (g (i+1)) o,bA (rL f1 g o p i) p],rfl,ae,ZA,fun H3 s3=>?_⟩⟩;have s4:=(ax.upd (o:= .lst [bB (f1 i),bB (bA (g (i+1)) o),bB (bA (rL f1 g o p i) p)]) hL).trans s3;exact⟨r,_,_,rfl,rfl,s4 _ _ xj,ba (by rw[de];omega),⟨_,_,rfl⟩,(s2.trans s4).eZ F5,by rw[ae,qo (i+1)];rfl⟩
  ·rintro σ H' ⟨⟨u,v,rfl⟩,s1,Z0⟩;rw[hl]at Z0;exact⟨_,rfl,q H' r s1 F5 Z0⟩
variable(d8:bK P w K mg base true 1 "begun_or_gone_on" ["worth","brought"] Ad)
variable(cF:eG P w K mg base true 2 aA "brought_behind" ["self","ended","above"] (qp aA))
theorem cP:aM ["self","worths","terms","width","row","above","ended"] ["self","worths","terms"] (ar eL):=⟨rfl,rfl,rfl,by decide+kernel,rfl,by decide+kernel,by decide+kernel⟩
include T Tc Rc d8 cF in
theorem nJ{f:Addr}{fd:FuncData}(F:ir K "__init__" "Trails.__init__" eL f fd):a7 P w K mg base (cW P w) true 4 f fd ["self","worths","terms"] (qw aA aT):=by
 refine F.gI cP Zs (fun bT A outer s H vs Q E hr h hX=>?_)
 ·obtain⟨x,dx,w,t,c,as,f,n,m,rfl,_⟩:=h;rfl
 ·obtain⟨x,dx,w,t,c,as,f1,n,m,rfl,hx,EA,hw,TA,TF,hn,hm,q⟩:=h;obtain⟨nu,dt,l,d,vs,T1,e1,e2,e3,e4⟩:=TF;have Sk:w≠x:=iV hw hx (by intro z;cases z);have Qc:t≠x:=fun z=>by
   have h1:=T1.ob;rw[z,hx]at h1;have h2:=congrArg (fun o=>match o with|some (HO.ins _ _ fs)=>fs.length| _=>0) h1;simp[wF]at h2
  refine⟨_,(Zf (Zo K Zw (Y6 K (pv 2))) (Zf (Zo K Zw (Y6 K (pv 2))) (Zf (Y0 (3) cP.nd (@oe _ _ _ _ _ _ _ _ (Zj oh (Y5 (aG K) (by exact rfl) T.cD (Y1 (pv 1))) ai (aV _)) (Y5 (aG K) (by exact rfl) T.cD (Y1 (Y3 (pv 1) ai))) ai)) (Zf (Zo K Zw (@bM _ _ _ _ af)) (Zf (Zo K Zw (@bM _ _ _ _ (Y1 (Y8 J_ (@bM _ _ _ _ (Y1 jJ)) (Y8 bx (pv 3) ai))))) (Y' (@bj _ _ _ _ _ _ _ _ hX.own Zv (@bg _ K _ _ _ (pv 1) (Zz)) (Y2 (4) cP.nd) (Zf (@aH _ _ (5) _ _ _ _ cP.nd Zv (Or.inr rfl) (Y3 (Y6 K Zw) (@qY _ _ _ _ _ _ lq ai)) (Zz) (by exact .inl rfl)) (Zf (@oC _ _ _ _ _ _ _ _ _ _ _ _ _ _ _ (6) _ _ (by exact rfl) cP.nd Zv (by exact rfl) (show bD ["self","worths","terms","width","row","above","ended"] (ar eL) _ ["j","worth"] [5] ["above"]from⟨rfl,by decide+kernel,by decide+kernel,by decide+kernel,rfl,rfl,by decide+kernel,by decide+kernel,by decide+kernel⟩) (@oH _ K _ _ _ _ _ _ _ (by exact rfl) T.jn (Y1 (pv 4)) (Zz) (Zz)) (fun _ _ _ _ _=>(@f6 _ K _ _ _ (2) _ (by exact rfl) (@bf _ _ _ _ _ (Y2 (0) (show(["j","worth","above"]:List Str).Nodup by decide+kernel)) (@bf _ _ _ _ _ (Y2 (1) (show(["j","worth","above"]:List Str).Nodup by decide+kernel)) fX (Zz)) (Zz)) (Zz) (Zz) (Zz))) (fun _ _ _ _ _=>iF) (fun _ _ _ _ _=>(YZ d8 aQ (Y4 (pv 1) (Y1 (Y3 (pv 2) (pv 0)))))) (Zz) (by intro _;rfl)) (Zf (Zq (Y_ K PySem.F.plainAttrs_list PySem.F.slot_list_append PySem.F.type_list_append bC (Y6 K Zw) (Y1 (pv 6)))) (Y' (Zq (Y_ K PySem.F.plainAttrs_list PySem.F.slot_list_append PySem.F.type_list_append bC (Y6 K Zw) (Y1 (Zd Zw cF (hr.mono (Zy)) aQ (Y4 (pv 6) (Y1 (pv 5))))))))))) (by intro _;rfl)))))))),?_⟩;refine⟨fun σ H1=>σ=[some (.ref x),some (.ref w),some (.ref t),none,none,none,none]∧H1=upd H x (.ins aA dx (bp "out" (.int c.out) [])),?_,?_⟩
  ·refine⟨_,rfl,t,aT,dt,_,_,rfl,T1.ob,Tc.cl,Tc.out,l_out nu l d,_,rfl,x,aA,dx,_,rfl,hx,Rc.cl,Rc.out,Zy,rfl,?_⟩;rw[e2]
  rintro σ H1 ⟨rfl,rfl⟩;refine⟨fun σ H1=>σ=[some (.ref x),some (.ref w),some (.ref t),none,none,none,none]∧H1=upd H x (.ins aA dx (bp "into" (.int c.into) (bp "out" (.int c.out) []))),?_,?_⟩
  ·refine⟨_,rfl,t,aT,dt,_,_,rfl,by rw[ao Qc];exact T1.ob,Tc.cl,Tc.into,Kk nu l d,_,rfl,x,aA,dx,_,rfl,ae,Rc.cl,Rc.into,?_,rfl,?_⟩
   ·have:=aW "out" (.int c.out) [];simp at this;omega
   ·rw[fW,e3]
  rintro σ H1 ⟨rfl,rfl⟩;refine⟨fun σ H1=>∃wd:Int,σ=[some (.ref x),some (.ref w),some (.ref t),some (.int wd),none,none,none]∧H1=upd H x (.ins aA dx (bp "into" (.int c.into) (bp "out" (.int c.out) [])))∧(0<n→wd=(m:Int))∧0≤wd∧wd≤1000,?_,?_⟩
  ·have rQ:upd H x (.ins aA dx (bp "into" (.int c.into) (bp "out" (.int c.out) []))) w=some (.lst (as.map V.ref)):=by rw[ao Sk];exact hw
   have BQ:=TA.len;refine⟨_,rfl,w,_,rfl, .inl (.of rQ),_,_,rfl,rfl,_,rfl,?_⟩;refine a8 (fun hh=>?_) (fun hh=>?_)
   ·have hh:0<n:=by
     have:(0:Int)<((as.map V.ref).length:Int):=by simpa using hh
     rw[List.length_map]at this;omega
    obtain⟨a,Al,L7,UI⟩:=TA.at hh;have OC:a≠x:=iV UI hx (by intro z;cases z);have W8:upd H x (.ins aA dx (bp "into" (.int c.into) (bp "out" (.int c.out) []))) a=some (.lst (c_ m (f1 0))):=by rw[ao OC];exact UI
    refine⟨_,rfl,w,_,0,_,rfl,rfl, .of rQ,av (j:=0) L7,a,_,rfl, .inl (.of W8),_,rfl,rfl,fun _=>by rw[de],by rw[de];omega,by rw[de];omega⟩
   ·have hh:n=0:=by
     have:¬(0:Int)<((as.map V.ref).length:Int):=by simpa using hh
     rw[List.length_map]at this;omega
    exact⟨_,rfl,rfl,fun z=>Zx,Zx,Zx⟩
  rintro σ H1 ⟨wd,rfl,rfl,W9,YA,YB⟩;refine⟨fun σ H1=>∃e,σ=[some (.ref x),some (.ref w),some (.ref t),some (.int wd),none,none,none]∧H1 x=some (.ins aA dx (bp "ending" (.ref e) (bp "into" (.int c.into) (bp "out" (.int c.out) []))))∧SameBut x H H1∧H e=none∧H1 e=some (.lst []),?_,?_⟩
  ·refine⟨aF Zr,fun e he=>?_⟩;have ya:SameBut x H (upd H x (.ins aA dx (bp "into" (.int c.into) (bp "out" (.int c.out) [])))):=SameBut.refl.upd;have UJ:x≠e:=aE ae he;have Jb:=ya.free ae he;refine⟨_,rfl,x,aA,dx,_,rfl,by rw[ao UJ,ae],Rc.cl,Rc.ku,?_,e,rfl,ae,(ya.laid Jb).upd,Jb,by rw[ao (Ne.symm UJ),ae]⟩;have a1:=aW "into" (.int c.into) (bp "out" (.int c.out) []);have a2:=aW "out" (.int c.out) [];simp at a2;omega
  rintro σ H1 ⟨e,rfl,k8,ya,Jb,AI⟩;refine⟨fun σ H2=>∃b ab,σ=[some (.ref x),some (.ref w),some (.ref t),some (.int wd),none,none,none]∧H2 x=some (.ins aA dx (gL c.out c.into e b))∧SameBut x H H2∧H2 e=some (.lst [])∧H b=none∧e≠b∧H2 b=some (.lst [.ref ab])∧(0<n→H2 ab=some (.lst (c_ (m+1) (Bq f1 c.out c.into 0))))∧ab≠e∧ab≠b∧H ab=none,?_,?_⟩
  ·refine⟨aF Zr,fun l1 kW=>⟨_,rfl,_,_,rfl,rfl,l1,_,_,rfl,rfl,ae,Zx,Zx,aF (by simp;omega),fun ab Fg=>⟨aF Zr,fun b hb=>?_⟩⟩⟩;have s1:ax H1 (upd (upd (upd H1 l1 (.lst [.cO])) ab (.lst (List.replicate (wd+1).toNat [V.cO]).flatten)) b (.lst [.ref ab])):=((ax.upd kW).trans (ax.upd Fg)).trans (ax.upd hb);have jP:H1 b=none:=((ax.upd kW).trans (ax.upd Fg)).free hb;have yb:=s1 _ _ k8;have W_:x≠b:=aE k8 jP;have Jc:ab≠b:=aE ae hb;refine⟨_,rfl,x,aA,dx,_,rfl,yb,Rc.cl,Rc.jq,?_,b,ab,rfl,by rw[ae,NZ],(ya.same s1).upd,?_,ya.free k8 jP,aE AI jP,?_,fun h0=>?_,?_,Jc,ya.free k8 ((ax.upd kW).free Fg)⟩
   ·have a0:=aW "ending" (.ref e) (bp "into" (.int c.into) (bp "out" (.int c.out) []));have a1:=aW "into" (.int c.into) (bp "out" (.int c.out) []);have a2:=aW "out" (.int c.out) [];simp at a2;omega
   ·have:e≠x:=iV AI k8 (by intro z;cases z);rw[ao this];exact s1 _ _ AI
   ·rw[ao (Ne.symm W_),ae]
   ·have UK:ab≠x:=fun z=>by rw[z]at Fg;rw[(ax.upd kW) _ _ k8]at Fg;cases Fg
    rw[ao UK,ao Jc,ae,W9 h0]
    congr 1
    have:((m:Int)+1).toNat=m+1:=Zx;rw[this]
    congr 1
    apply List.ext_getElem?;intro k;by_cases hk:k<m+1
    ·rw[dh hk,iG];simp[bB,hk]
    ·rw[List.getElem?_eq_none (by simp;omega),List.getElem?_eq_none (by rw[de];omega)]
   ·exact Ne.symm (aE ((ax.upd kW) _ _ AI) Fg)
  clear k8 ya AI H1;rintro σ H1 ⟨b,ab,rfl,k8,ya,AI,UL,UM,jP,HA,OD,Jc,DB⟩;refine⟨_,rfl,w,rfl,⟨_, .of (ya _ _ Sk hw)⟩,?_⟩;refine bJ (xs:=as.map V.ref) (fun i σ H'=>(∃u1 u2 u3,σ=[some (.ref x),some (.ref w),some (.ref t),some (.int wd),u1,u2,u3])∧H' x=some (.ins aA dx (gL c.out c.into e b))∧SameBut x H H'∧∃(es:List Addr)(bs:List V)(ab:Addr),H' e=some (.lst (es.map V.ref))∧i8 H' es (dE f1 c.out c.into) i m∧(∀a∈es,H a=none∧a≠e∧a≠b∧a≠x)∧H' b=some (.lst (bs++[.ref ab]))∧bs.length=i∧(0<n→H' ab=some (.lst (c_ (m+1) (Bq f1 c.out c.into i))))∧ab≠e∧ab≠b∧H ab=none∧∃bz:List Addr,bs=bz.map V.ref∧∀k a,bz[k]?=some a→H' a=some (.lst (c_ (m+1) (Bq f1 c.out c.into k)))∧a≠e∧a≠b∧H a=none) ?_ ?_ ?_ ?_
  ·exact⟨⟨_,_,_,rfl⟩,k8,ya,[],[],ab,AI,⟨rfl,fun i a h=>by simp at h⟩,(fun a h=>by cases h),jP,rfl,HA,OD,Jc,DB,[],rfl,fun k a h=>by simp at h⟩
  ·rintro i σ H' _ ⟨_,_,sb,_⟩;exact .of (sb _ _ Sk hw)
  ·clear k8 ya AI jP HA OD Jc DB ab H1;rintro i v σ H' hv ⟨⟨u1,u2,u3,rfl⟩,k8,ya,es,bs,ab,AI,TE,OE,jP,HB,HA,OD,Jc,DB,bz,OF,BZ⟩;have BQ:=TA.len;have hi:i<n:=by have:=(Y7 hv).1;rw[List.length_map]at this;omega
   obtain⟨ra,F5,Z0,xj⟩:=TA.at hi;rw[Z0]at hv;cases hv;have W':ra≠x:=iV xj hx (by intro z;cases z);have Qd:=ya _ _ W' xj;have Dd:=HA Zt;refine⟨fun σ H2=>σ=[some (.ref x),some (.ref w),some (.ref t),some (.int wd),some (.ref ra),some (.ref ab),u3]∧H2=H',?_,?_⟩
   ·exact⟨_,rfl,x,aA,dx,_,_,rfl,k8,Rc.cl,Rc.jq,gP c.out c.into e b,_,rfl,b,_,_,_,rfl,rfl, .of jP,yr _ _,rfl,rfl⟩
   rintro σ H' ⟨rfl,rfl⟩;refine⟨fun σ H2=>∃D,σ=[some (.ref x),some (.ref w),some (.ref t),some (.int wd),some (.ref ra),some (.ref ab),some (.ref D)]∧ax H' H2∧H' D=none∧H2 D=some (.lst (c_ m (dE f1 c.out c.into i))),?_,?_⟩
   ·refine⟨_,rfl,ra,rfl,⟨_, .of Qd⟩,fun D hD=>?_⟩;refine vH (xs:=c_ m (f1 i)) (fun j ys bH H2=>(∃w1 w2,bH=[w1,w2,some (.ref ab)])∧ys=c_ j (dE f1 c.out c.into i)∧H2 D=some (.lst ys)∧ax H' H2) ⟨⟨_,_,rfl⟩,rfl,ae,ax.upd hD⟩ ?_ ?_ ?_
    ·rintro j ys bH H2 _ ⟨_,_,_,s2⟩;exact .of (s2 _ _ Qd)
    ·rintro j y T2 ys bH H2 hy ⟨⟨w1,w2,rfl⟩,rfl,lO,s2⟩ OG;have hj:j<m:=by have:=(Y7 hy).1;rw[de]at this;exact this
     rw[dh hj]at hy;cases hy;have s3:ax H' (upd H2 T2 (.tup [.int j,bB (f1 i j)])):=s2.trans (ax.upd OG);have x_:=ax.upd (o:= .tup [.int j,bB (f1 i j)]) OG _ _ lO;refine⟨T2,_,rfl, .of ae,rfl,_,_,rfl,_,_,rfl,rfl,?_⟩;refine wB ?_;refine⟨_,rfl,_,rfl,_,rfl,ab,_,_,_,rfl,rfl, .of (s3 _ _ Dd),av (dh Zt),f1 i j,Bq f1 c.out c.into i j,rfl,x_,ba (by rw[de];omega),⟨_,_,rfl⟩,by rw[qo];rfl,ae,s3.eZ hD⟩
    ·rintro ys bH H2 ⟨_,rfl,lO,s2⟩;rw[de]at lO;exact⟨D,rfl,s2,hD,lO⟩
   rintro σ H2 ⟨D,rfl,s2,Mc,lO⟩;have yb:=s2 _ _ k8;have Md:=s2 _ _ AI;have xf:=s2 _ _ jP;have Sl:=s2 _ _ Dd;have Xa:D≠x:=Ne.symm (aE k8 Mc);have UN:D≠e:=Ne.symm (aE AI Mc);have UO:D≠b:=Ne.symm (aE jP Mc);have Xb:e≠x:=iV AI k8 (by intro z;cases z);have Xc:b≠x:=iV jP k8 (by intro z;cases z);have UK:ab≠x:=iV Dd k8 (by intro z;cases z);have HC:=TE.len;have Xd:H D=none:=ya.free k8 Mc;have Sn:=ya.same s2;refine⟨fun σ H3=>σ=[some (.ref x),some (.ref w),some (.ref t),some (.int wd),some (.ref ra),some (.ref ab),some (.ref D)]∧H3=upd H2 e (.lst (es.map V.ref++[.ref D])),?_,?_⟩
   ·exact⟨_,rfl,x,aA,dx,_,_,rfl,yb,Rc.cl,Rc.ku,ig c.out c.into e b, .inl ⟨rfl,_, .of Md⟩,_,rfl,e,_,_,rfl,rfl,Md,ba (by rw[List.length_map];omega),rfl,rfl⟩
   rintro σ H3 ⟨rfl,rfl⟩;have Me:upd H2 e (.lst (es.map V.ref++[.ref D])) x=some (.ins aA dx (gL c.out c.into e b)):=by rw[ao (Ne.symm Xb)];exact yb
   have Qe:upd H2 e (.lst (es.map V.ref++[.ref D])) b=some (.lst (bs++[.ref ab])):=by rw[ao (Ne.symm UM)];exact xf
   have Lx:upd H2 e (.lst (es.map V.ref++[.ref D])) ab=some (.lst (c_ (m+1) (Bq f1 c.out c.into i))):=by rw[ao OD];exact Sl
   have x_:upd H2 e (.lst (es.map V.ref++[.ref D])) D=some (.lst (c_ m (dE f1 c.out c.into i))):=by rw[ao UN];exact lO
   have F6:upd H2 e (.lst (es.map V.ref++[.ref D])) e=some (.lst (es.map V.ref++[.ref D])):=ae;have So:SameBut x H (upd H2 e (.lst (es.map V.ref++[.ref D]))):=Sn.laid Jb;have UP:∀k a,es[k]?=some a→upd H2 e (.lst (es.map V.ref++[.ref D])) a=some (.lst (c_ m (dE f1 c.out c.into k))):=fun k a hk=>by
    rw[ao (OE a (Ze hk)).2.1];exact s2 _ _ (TE.row k a hk)
   have UQ:∀k a,bz[k]?=some a→upd H2 e (.lst (es.map V.ref++[.ref D])) a=some (.lst (c_ (m+1) (Bq f1 c.out c.into k))):=fun k a hk=>by
    rw[ao (BZ k a hk).2.1];exact s2 _ _ (BZ k a hk).1
   generalize upd H2 e (.lst (es.map V.ref++[.ref D]))=H3 at Me Qe Lx x_ F6 So UP UQ;refine⟨_,rfl,x,aA,dx,_,_,rfl,Me,Rc.cl,Rc.jq,gP c.out c.into e b, .inl ⟨rfl,_, .of Qe⟩,_,rfl,x,dx,_,rfl,Me,EE c.out c.into e b,_,rfl,_,rfl,x,D,ab,dx,e,b,c.out,c.into,m,_,_,rfl,Me,x_,Lx,hm,fun H4 r s4 rq Xe=>?_⟩;have UR:r≠b:=Ne.symm (aE Qe rq);have Xf:r≠e:=Ne.symm (aE F6 rq);refine⟨b,_,_,rfl,rfl,s4 _ _ Qe,ba (by rw[List.length_append];simp;omega),⟨_,_,_,rfl⟩,by rw[ao (Ne.symm Xc)];exact s4 _ _ Me,(So.same s4).laid UL,es++[D],bs++[.ref ab],r,by rw[ao UM];rw[s4 _ _ F6];simp,⟨by simp[HC],fun k a hk=>?_⟩,fun a ha=>?_,ae,by simp[HB],fun _=>?_,Xf,UR,So.free Me rq,bz++[ab],by simp[OF],fun k a hk=>?_⟩
   ·by_cases h:k<i
    ·rw[List.getElem?_append_left Zt]at hk;rw[ao (OE a (Ze hk)).2.2.1];exact s4 _ _ (UP k a hk)
    ·rw[List.getElem?_append_right Zt]at hk;have Z2:k-es.length=0:=by
      have:=(Y7 hk).1;simp at this;omega
     rw[Z2]at hk;have:D=a:=by simpa using hk
     subst this;rw[ao UO];have:k=i:=Zx;rw[this];exact s4 _ _ x_
   ·rcases List.mem_append.mp ha with ha|ha
    ·exact OE a ha
    ·have:a=D:=by simpa using ha
     rw[this];exact⟨Xd,UN,UO,Xa⟩
   ·rw[ao UR,Xe]
    congr 2
    unfold c_;apply List.map_congr_left;intro j _;rw[Bu]
   ·have OH:bz.length=i:=by rw[OF,List.length_map]at HB;exact HB
    by_cases h:k<i
    ·rw[List.getElem?_append_left Zt]at hk;obtain⟨_,z1,z2,z3⟩:=BZ k a hk;exact⟨by rw[ao z2];exact s4 _ _ (UQ k a hk),z1,z2,z3⟩
    ·rw[List.getElem?_append_right Zt]at hk;have Z2:k-bz.length=0:=by
      have:=(Y7 hk).1;simp at this;omega
     rw[Z2]at hk;have:ab=a:=by simpa using hk
     subst this;have:k=i:=Zx;subst this;exact⟨by rw[ao Jc];exact s4 _ _ Lx,OD,Jc,DB⟩
  ·rintro σ H' ⟨⟨u1,u2,u3,rfl⟩,yb,Sn,es,bs,Sq,Md,TE,OE,xf,HB,Dd,Xg,Xh,L7,bz,OF,BZ⟩;rw[List.length_map,TA.len]at TE HB Dd;have OH:bz.length=n:=by rw[OF,List.length_map]at HB;exact HB
   refine q H' e b Sn yb ⟨es,Md,Jb,TE,fun a ha=>(OE a ha).1⟩ fun Sr=>⟨bz++[Sq],by rw[xf,OF];simp,UL,⟨by simp[OH],fun k a hk=>?_⟩,fun a ha=>?_⟩
   ·by_cases h:k<n
    ·rw[List.getElem?_append_left Zt]at hk;exact(BZ k a hk).1
    ·rw[List.getElem?_append_right Zt]at hk;have Z2:k-bz.length=0:=by
      have:=(Y7 hk).1;simp at this;omega
     rw[Z2]at hk;have:Sq=a:=by simpa using hk
     subst this;have:k=n:=Zx;subst this;exact Dd Sr
   ·rcases List.mem_append.mp ha with ha|ha
    ·obtain⟨k,hk,rfl⟩:=List.mem_iff_getElem.mp ha;exact(BZ k _ (by simp[hk])).2.2.2
    ·have:a=Sq:=by simpa using ha
     rw[this];exact L7
theorem jw:aM ["self","pair","brought"] ["self","pair"] (ar gR):=⟨rfl,rfl,rfl,by decide+kernel,rfl,by decide+kernel,by decide+kernel⟩
include T Rc in
theorem oY{f:Addr}{fd:FuncData}(F:ir K "goes_on" "Trails.goes_on" gR f fd):a7 P w K mg base (cW P w) true 1 f fd ["self","pair"] (w6 aA):=by
 refine F.gI jw Zs (fun bT A outer s H vs Q E hr h hX=>?_)
 ·obtain⟨x,dx,e,b,es,bs,f,o,p,n,m,pr,i,j,rfl,_⟩:=h;rfl
 ·obtain⟨x,dx,e,b,es,bs,f1,o,p,n,m,pr,i,j,rfl,TR,BX,hi,hj,q⟩:=h;refine⟨_,(Za (Y0 (2) jw.nd (Y3 (Y3 (Y6 K Zw) (@aB _ _ _ _ _ _ _ (cC K) (pv 1) ai (fun _ _=>rfl))) (@aB _ _ _ _ _ _ _ (cC K) (pv 1) ai (fun _ _=>rfl)))) (Y' (Zm (@v5 _ _ _ _ _ _ _ (@zE _ _ _ _ _ _ (@oa _ _ _ _ _ (pv 2)) (by first|exact bh _ (Zy) (Zy)|rfl)) (@vZ _ _ _ _ _ (@iD _ _ _ _ _ _ _ _ A8 (pv 2) ai (aV _))))))),?_⟩;obtain⟨ra,h1,h2,h3⟩:=TR.tb.at (show i<n+1 by omega);refine⟨_,rfl,x,aA,dx,_,_,rfl,TR.ob,Rc.cl,Rc.jq,gP o p e b,_,rfl,pr,_,_,_,rfl,rfl, .of BX,av (j:=0) rfl,b,_,_,_,rfl,rfl, .of TR.hb,av h2,_,rfl,pr,_,_,_,rfl,rfl, .of BX,av (j:=1) rfl,ra,_,_,_,rfl,rfl, .of h3,av (dh (show j<m+1 by omega)),?_⟩;refine⟨_,rfl,?_⟩;cases eB:Bq f1 o p i j with
  |none=>
   rw[eB]at q;exact⟨_,rfl,a8 (fun hh=>absurd hh (by simp[bB])) fun _=>q⟩
  |some v=>
   rw[eB]at q;exact⟨_,rfl,a8 (fun _=>⟨_,rfl,_,_,rfl,rfl,q⟩) fun hh=>absurd (by simp[bB]) hh⟩
theorem ka:aM ["self","crossing","pair"] ["self","crossing","pair"] (ar d0):=⟨rfl,rfl,rfl,by decide+kernel,rfl,by decide+kernel,by decide+kernel⟩
include T Rc in
theorem kb{f:Addr}{fd:FuncData}(F:ir K "is_brought_by" "Trails.is_brought_by" d0 f fd):a7 P w K mg base (cW P w) true 1 f fd ["self","crossing","pair"] (Aq aA):=by
 refine F.gI ka Zs (fun bT A outer s H vs Q E hr h hX=>?_)
 ·obtain⟨x,dx,e,b,es,bs,f,o,p,n,m,cr,pr,i,j,k,l,rfl,_⟩:=h;rfl
 ·obtain⟨x,dx,e,b,es,bs,f1,o,p,n,m,cr,pr,i,j,k,l,rfl,TR,Jd,BX,hi,hj,hk,hl,q⟩:=h;refine⟨_,(Y' (Zm (@iD _ _ _ _ _ _ _ _ jm (Y3 (Y3 (Y6 K Zw) (@aB _ _ _ _ _ _ _ (cC K) (pv 2) ai (fun _ _=>rfl))) (@aB _ _ _ _ _ _ _ (cC K) (pv 2) ai (fun _ _=>rfl))) (Y3 (Y3 (Y6 K Zw) (@aB _ _ _ _ _ _ _ (cC K) (pv 1) ai (fun _ _=>rfl))) (@aB _ _ _ _ _ _ _ (cC K) (pv 1) ai (fun _ _=>rfl))) (aV _)))),?_⟩;obtain⟨ra,h1,h2,h3⟩:=TR.tb.at (show i<n+1 by omega);obtain⟨rb,g1,g2,g3⟩:=TR.te.at hk;refine⟨_,rfl,x,aA,dx,_,_,rfl,TR.ob,Rc.cl,Rc.ku,ig o p e b,_,rfl,pr,_,_,_,rfl,rfl, .of BX,av (j:=0) rfl,e,_,_,_,rfl,rfl, .of TR.he,av g2,_,rfl,pr,_,_,_,rfl,rfl, .of BX,av (j:=1) rfl,rb,_,_,_,rfl,rfl, .of g3,av (dh hl),?_⟩;refine⟨_,rfl,x,aA,dx,_,_,rfl,TR.ob,Rc.cl,Rc.jq,gP o p e b,_,rfl,cr,_,_,_,rfl,rfl, .of Jd,av (j:=0) rfl,b,_,_,_,rfl,rfl, .of TR.hb,av h2,_,rfl,cr,_,_,_,rfl,rfl, .of Jd,av (j:=1) rfl,ra,_,_,_,rfl,rfl, .of h3,av (dh (show j<m+1 by omega)),?_⟩;have Je:∀a c:Option Int,decide (bB a=bB c)=decide (a=c):=fun a c=>by cases a<;>cases c<;>simp[bB]
  refine⟨by cases dE f1 o p k l<;>cases Bq f1 o p i j<;>rfl,?_⟩;rw[Je];exact q
theorem bo:aM ["self","crossing","i","j","brought","found"] ["self","crossing"] (ar cU):=⟨rfl,rfl,rfl,by decide+kernel,rfl,by decide+kernel,by decide+kernel⟩
include T kJ Rc in
theorem jc{f:Addr}{fd:FuncData}(F:ir K "crossings_before" "Trails.crossings_before" cU f fd):a7 P w K mg base (cW P w) true 2 f fd ["self","crossing"] (tw aA):=by
 refine F.gI bo Zs (fun bT A outer s H vs Q E hr h hX=>?_)
 ·obtain⟨x,dx,e,b,es,bs,f,o,p,n,m,cr,i,j,rfl,_⟩:=h;rfl
 ·obtain⟨x,dx,e,b,es,bs,f1,o,p,n,m,cr,i,j,rfl,TR,Jd,hi,hj,q⟩:=h;refine⟨_,(Zf (Y0 (2) bo.nd (@aB _ _ _ _ _ _ _ (cC K) (pv 1) ai (fun _ _=>rfl))) (Zf (Y0 (3) bo.nd (@aB _ _ _ _ _ _ _ (cC K) (pv 1) ai (fun _ _=>rfl))) (Zf (Y0 (4) bo.nd (Y3 (Y3 (Y6 K Zw) (pv 2)) (pv 3))) (Zf (Y0 (5) bo.nd (@bM _ _ _ _ af)) (Zf (@aX _ _ _ _ _ _ _ _ (Zj jm (YZ kJ aQ (Y4 (Y3 (Y3 (Y6 K Zw) (Y8 bY (pv 2) ai)) (pv 3)) (Y1 (Y6 K Zw)))) (pv 4) (aV _)) (Y' (Zq (Y_ K PySem.F.plainAttrs_list PySem.F.slot_list_append PySem.F.type_list_append bC (pv 5) (Y1 (@eX _ _ _ _ _ (Y4 (Y8 bY (pv 2) ai) (Y1 (pv 3)))))))) aP) (Zf (@aX _ _ _ _ _ _ _ _ (Zj jm (YZ kJ aQ (Y4 (Y3 (Y3 (Y6 K Zw) (pv 2)) (Y8 bY (pv 3) ai)) (Y1 (Y6 K Zw)))) (pv 4) (aV _)) (Y' (Zq (Y_ K PySem.F.plainAttrs_list PySem.F.slot_list_append PySem.F.type_list_append bC (pv 5) (Y1 (@eX _ _ _ _ _ (Y4 (pv 2) (Y1 (Y8 bY (pv 3) ai)))))))) aP) (Y' (Zm (pv 5))))))))),?_⟩;have Je:∀a c:Option Int,decide (bB a=bB c)=decide (a=c):=fun a c=>by cases a<;>cases c<;>simp[bB]
  obtain⟨ra,h1,h2,h3⟩:=TR.tb.at (show i<n+1 by omega);obtain⟨rb,g1,g2,g3⟩:=TR.tb.at (show i+1<n+1 by omega);refine⟨fun σ H1=>σ=[some (.ref x),some (.ref cr),some (.int ((i+1:Nat):Int)),none,none,none]∧H1=H,⟨_,rfl,cr,_,_,_,rfl,rfl, .of Jd,av (j:=0) rfl,rfl,rfl⟩,?_⟩;rintro σ H ⟨rfl,rfl⟩;refine⟨fun σ H1=>σ=[some (.ref x),some (.ref cr),some (.int ((i+1:Nat):Int)),some (.int ((j+1:Nat):Int)),none,none]∧H1=H,⟨_,rfl,cr,_,_,_,rfl,rfl, .of Jd,av (j:=1) rfl,rfl,rfl⟩,?_⟩;rintro σ H ⟨rfl,rfl⟩;refine⟨fun σ H1=>σ=[some (.ref x),some (.ref cr),some (.int ((i+1:Nat):Int)),some (.int ((j+1:Nat):Int)),some (bB (Bq f1 o p (i+1) (j+1))),none]∧H1=H,⟨_,rfl,x,aA,dx,_,_,rfl,TR.ob,Rc.cl,Rc.jq,gP o p e b,_,rfl,b,_,_,_,rfl,rfl, .of TR.hb,av g2,_,rfl,rb,_,_,_,rfl,rfl, .of g3,av (dh (show j+1<m+1 by omega)),rfl,rfl⟩,?_⟩;rintro σ H ⟨rfl,rfl⟩;refine⟨fun σ H1=>∃r,σ=[some (.ref x),some (.ref cr),some (.int ((i+1:Nat):Int)),some (.int ((j+1:Nat):Int)),some (bB (Bq f1 o p (i+1) (j+1))),some (.ref r)]∧ax H H1∧H r=none∧H1 r=some (.lst []),⟨aF Zr,fun r hr=>⟨r,rfl,ax.upd hr,hr,ae⟩⟩,?_⟩;rintro σ H1 ⟨r,rfl,s1,rq,F5⟩;refine⟨fun σ H2=>∃us,σ=[some (.ref x),some (.ref cr),some (.int ((i+1:Nat):Int)),some (.int ((j+1:Nat):Int)),some (bB (Bq f1 o p (i+1) (j+1))),some (.ref r)]∧ax H H2∧H2 r=some (.lst us)∧f7 H2 us (if bA (Bq f1 o p i (j+1)) o=Bq f1 o p (i+1) (j+1)then[((i:Int),((j+1:Nat):Int))]else[]),?_,?_⟩
  ·have T1:=TR.keep s1;have ea:rg (bs.map V.ref) (((i+1:Nat):Int)-1)=some (.ref ra):=by
    rw[show((i+1:Nat):Int)-1=(i:Int) by omega];exact av h2
   refine⟨_,rfl,x,aA,dx,_,_,rfl,T1.ob,Rc.cl,Rc.jq,gP o p e b,_,rfl,_,_,rfl,rfl,b,_,_,_,rfl,rfl, .of T1.hb,ea,_,rfl,ra,_,_,_,rfl,rfl, .of (s1 _ _ h3),av (dh (show j+1<m+1 by omega)),?_⟩;refine⟨_,rfl,x,aA,dx,_,_,rfl,T1.ob,Rc.cl,Rc.out,IH o p e b,Bq f1 o p i (j+1),o,rfl,?_⟩;refine⟨_,rfl,by cases bA (Bq f1 o p i (j+1)) o<;>cases Bq f1 o p (i+1) (j+1)<;>rfl,_,rfl,?_⟩;rw[Je];refine a8 (fun hh=>?_) (fun hh=>?_)
   ·have hh:bA (Bq f1 o p i (j+1)) o=Bq f1 o p (i+1) (j+1):=of_decide_eq_true hh;rw[Zk hh];refine⟨_,rfl, .inl ⟨rfl,_, .of F5⟩,_,rfl,_,_,rfl,rfl,_,rfl,aF Zr,fun t ht=>?_⟩;refine⟨r,_,_,rfl,rfl,ax.upd ht _ _ F5,ba Zr,_,rfl,(s1.trans (ax.upd ht)).eZ rq,ae,rfl,fun k f hf=>?_⟩;have hk:k=0:=by
     have:=(Y7 hf).1;simp at this;omega
    subst hk;have hf:((i:Int),((j+1:Nat):Int))=f:=by simpa using hf
    subst hf;refine⟨t,rfl,?_⟩;rw[ao (fun z=>by subst z;rw[F5]at ht;cases ht),ae];rw[show((i+1:Nat):Int)-1=(i:Int) by omega];rfl
   ·have hh:¬bA (Bq f1 o p i (j+1)) o=Bq f1 o p (i+1) (j+1):=by simpa using hh
    rw[Zh hh];exact⟨[],rfl,s1,F5, .nil⟩
  rintro σ H2 ⟨us,rfl,s2,Z0,P2⟩;have T2:=TR.keep s2;have YC:us.length≤1:=by
   rw[P2.1];split<;>simp
  have eb:rg (c_ (m+1) (Bq f1 o p (i+1))) (((j+1:Nat):Int)-1)=some (bB (Bq f1 o p (i+1) j)):=by
   rw[show((j+1:Nat):Int)-1=(j:Int) by omega];exact av (dh (show j<m+1 by omega))
  refine⟨fun σ H3=>∃us,σ=[some (.ref x),some (.ref cr),some (.int ((i+1:Nat):Int)),some (.int ((j+1:Nat):Int)),some (bB (Bq f1 o p (i+1) (j+1))),some (.ref r)]∧ax H H3∧H3 r=some (.lst us)∧f7 H3 us (bq f1 o p i j),?_,?_⟩
  ·refine⟨_,rfl,x,aA,dx,_,_,rfl,T2.ob,Rc.cl,Rc.jq,gP o p e b,_,rfl,b,_,_,_,rfl,rfl, .of T2.hb,av g2,_,rfl,_,_,rfl,rfl,rb,_,_,_,rfl,rfl, .of (s2 _ _ g3),eb,?_⟩;refine⟨_,rfl,x,aA,dx,_,_,rfl,T2.ob,Rc.cl,Rc.into,ED o p e b,Bq f1 o p (i+1) j,p,rfl,?_⟩;refine⟨_,rfl,by cases bA (Bq f1 o p (i+1) j) p<;>cases Bq f1 o p (i+1) (j+1)<;>rfl,_,rfl,?_⟩;rw[Je];refine a8 (fun hh=>?_) (fun hh=>?_)
   ·have hh:bA (Bq f1 o p (i+1) j) p=Bq f1 o p (i+1) (j+1):=of_decide_eq_true hh;refine⟨_,rfl, .inl ⟨rfl,_, .of Z0⟩,_,rfl,_,rfl,_,_,rfl,rfl,aF Zr,fun t ht=>?_⟩;have s3:=ax.upd (o:= .tup [.int ((i+1:Nat):Int), .int (((j+1:Nat):Int)-1)]) ht;have US:t≠r:=fun z=>by subst z;rw[Z0]at ht;cases ht
    refine⟨r,_,_,rfl,rfl,s3 _ _ Z0,ba Zt,_,rfl,(s2.trans s3).eZ rq,ae,?_⟩;unfold bq;rw[Zk hh];refine((P2.same s3).append ⟨rfl,fun k f hf=>?_⟩).cI fun a ys ha=>?_
    ·have hk:k=0:=by
      have:=(Y7 hf).1;simp at this;omega
     subst hk;have hf:(((i+1:Nat):Int),(j:Int))=f:=by simpa using hf
     subst hf;refine⟨t,rfl,?_⟩;rw[ae,show((j+1:Nat):Int)-1=(j:Int) by omega];rfl
    ·have eV:a≠r:=fun z=>by subst z;rw[s3 _ _ Z0]at ha;cases ha
     rw[ao eV];exact ha
   ·have hh:¬bA (Bq f1 o p (i+1) j) p=Bq f1 o p (i+1) (j+1):=by simpa using hh
    refine⟨us,rfl,s2,Z0,?_⟩;unfold bq;rw[Zh hh,List.append_nil];exact P2
  rintro σ H3 ⟨us,rfl,s3,xj,P3⟩;exact⟨_,rfl,q H3 r us s3 rq xj P3⟩
variable(bb:eG P w K mg base true 1 aA "is_brought_by" ["self","crossing","pair"] (Aq aA))
variable(aZ:eG P w K mg base true 2 aA "crossings_before" ["self","crossing"] (tw aA))
theorem bW:aM ["self","pair","crossing","ahead"] ["self","pair"] (ar ff):=⟨rfl,rfl,rfl,by decide+kernel,rfl,by decide+kernel,by decide+kernel⟩
include T Rc bb aZ in
theorem k_{f:Addr}{fd:FuncData}(F:ir K "pair_before" "Trails.pair_before" ff f fd):a7 P w K mg base (cW P w) true 3 f fd ["self","pair"] (w8 aA):=by
 refine F.gI bW Zs (fun bT A outer s H vs Q E hr h hX=>?_)
 ·obtain⟨x,dx,e,b,es,bs,f,o,p,n,m,pr,i,j,rfl,_⟩:=h;rfl
 ·obtain⟨x,dx,e,b,es,bs,f1,o,p,n,m,pr,i,j,rfl,TR,BX,hi,hj,hB,q⟩:=h;refine⟨_,(Za (Y0 (2) bW.nd (pv 1)) (Za (Y0 (3) bW.nd (@eX _ _ _ _ _ (Y4 (Y8 bY (@aB _ _ _ _ _ _ _ (cC K) (pv 2) ai (fun _ _=>rfl)) ai) (Y1 (Y8 bY (@aB _ _ _ _ _ _ _ (cC K) (pv 2) ai (fun _ _=>rfl)) ai))))) (Za (@sF _ _ _ _ _ _ hX.own (@bR _ _ _ _ (@bE _ _ _ (Zd Zw bb (hr.mono (Zy)) aQ (Y4 (pv 2) (Y1 (pv 3)))) (by intro _;rfl))) (Za (Y0 (2) bW.nd (Y3 (Zd Zw aZ (hr.mono (Zy)) aQ (Y1 (pv 2))) ai)) (Y' (Y0 (3) bW.nd (@eX _ _ _ _ _ (Y4 (Y8 bY (@aB _ _ _ _ _ _ _ (cC K) (pv 2) ai (fun _ _=>rfl)) ai) (Y1 (Y8 bY (@aB _ _ _ _ _ _ _ (cC K) (pv 2) ai (fun _ _=>rfl)) ai)))))))) (Y' (Zm (pv 3)))))),?_⟩;obtain⟨i,rfl⟩:∃i',i=i'+1:=by
   cases i with
   |zero=>exact absurd (iG f1 o p j) hB
   |succ i=>exact⟨i,rfl⟩
  obtain⟨j,rfl⟩:∃j',j=j'+1:=by
   cases j with
   |zero=>exact absurd (by unfold Bq;rfl) hB
   |succ j=>exact⟨j,rfl⟩
  refine⟨_,rfl,_,rfl,pr,_,_,_,rfl,rfl, .of BX,av (j:=0) rfl,_,_,rfl,rfl,_,rfl,pr,_,_,_,rfl,rfl, .of BX,av (j:=1) rfl,_,_,rfl,rfl,aF Zr,fun t ht=>?_⟩;refine⟨fun mm σ H1=>∃(cr ah:Addr)(i2 j2:Nat),mm=i2+j2∧σ=[some (.ref x),some (.ref pr),some (.ref cr),some (.ref ah)]∧ax H H1∧H1 cr=some (.tup [.int ((i2+1:Nat):Int), .int ((j2+1:Nat):Int)])∧H1 ah=some (.tup [.int i2, .int j2])∧i2<n∧j2<m∧Bq f1 o p (i2+1) (j2+1)≠none∧cN f1 o p (i2+1) (j2+1)=cN f1 o p (i+1) (j+1),⟨i+j,pr,t,i,j,rfl,rfl,ax.upd ht,ax.upd ht _ _ BX,?_,Zx,Zx,hB,rfl⟩,?_⟩
  ·rw[ae,show((i+1:Nat):Int)-1=(i:Int) by omega,show((j+1:Nat):Int)-1=(j:Int) by omega]
  rintro mm σ H1 ⟨cr,ah,i2,j2,rfl,rfl,s1,Jd,UT,FY,Ss,Mf,UU⟩;have T1:=TR.keep s1;refine⟨_,rfl,x,dx,_,rfl,T1.ob,IV o p e b,_,rfl,_,rfl,x,dx,e,b,es,bs,f1,o,p,n,m,cr,ah,i2+1,j2+1,i2,j2,rfl,T1,Jd,UT,Zx,Zx,FY,Ss,?_⟩;refine⟨_,rfl,?_⟩;by_cases hE:dE f1 o p i2 j2=Bq f1 o p (i2+1) (j2+1)
  ·rw[decide_eq_true hE];refine eU ?_;refine⟨_,rfl,q H1 ah s1 ?_⟩;have:cN f1 o p (i2+1) (j2+1)=(i2,j2):=by unfold cN;rw[Zk hE]
   rw[←UU,this];exact UT
  ·rw[decide_eq_false hE];refine jK ?_;refine⟨_,fun bH H' z=>z,?_⟩;obtain⟨i3,j3,c0,c1,c2,c3,c4,c5⟩:=yR Mf hE;refine⟨_,rfl,x,dx,_,rfl,T1.ob,BK o p e b,_,rfl,x,dx,e,b,es,bs,f1,o,p,n,m,cr,i2,j2,rfl,T1,Jd,FY,Ss,fun H2 r us s2 rq Z0 P2=>?_⟩;obtain⟨t2,k1,k2⟩:=P2.2 0 _ c0;refine⟨r,_,_,_,rfl,rfl, .of Z0,av (j:=0) k1,?_⟩;refine⟨_,rfl,t2,_,_,_,rfl,rfl, .of k2,av (j:=0) rfl,_,_,rfl,rfl,_,rfl,t2,_,_,_,rfl,rfl, .of k2,av (j:=1) rfl,_,_,rfl,rfl,aF Zr,fun t3 UW=>?_⟩;refine⟨i3+j3,Zx,t2,t3,i3,j3,rfl,rfl,s1.trans (s2.trans (ax.upd UW)),ax.upd UW _ _ k2,?_,Zx,Zx,c4,by rw[c5,UU]⟩;rw[ae];show some (HO.tup [.int (((i3+1:Nat):Int)-1), .int (((j3+1:Nat):Int)-1)])=_;rw[show((i3+1:Nat):Int)-1=(i3:Int) by omega,show((j3+1:Nat):Int)-1=(j3:Int) by omega]
variable(cb:eG P w K mg base true 1 aA "goes_on" ["self","pair"] (w6 aA))
variable(dq:eG P w K mg base true 3 aA "pair_before" ["self","pair"] (w8 aA))
theorem kc:aM ["self","pair","way"] ["self","pair"] (ar iy):=⟨rfl,rfl,rfl,by decide+kernel,rfl,by decide+kernel,by decide+kernel⟩
include T Rc cb dq in
theorem qG{f:Addr}{fd:FuncData}(F:ir K "way_to" "Trails.way_to" iy f fd):a7 P w K mg base (cW P w) true 4 f fd ["self","pair"] (As aA):=by
 refine F.gI kc Zs (fun bT A outer s H vs Q E hr h hX=>?_)
 ·obtain⟨x,dx,e,b,es,bs,f,o,p,n,m,pr,i,j,rfl,_⟩:=h;rfl
 ·obtain⟨x,dx,e,b,es,bs,f1,o,p,n,m,pr,i,j,rfl,TR,BX,hi,hj,hn,q⟩:=h;refine⟨_,(Za (Y0 (2) kc.nd (@bM _ _ _ _ (Y1 (pv 1)))) (Za (@sF _ _ _ _ _ _ hX.own (@bE _ _ _ (Zd Zw cb (hr.mono (Zy)) aQ (Y1 (Y3 (pv 2) (@qY _ _ _ _ _ _ lq ai)))) (by intro _;rfl)) (Y' (Zq (Y_ K PySem.F.plainAttrs_list PySem.F.slot_list_append PySem.F.type_list_append bC (pv 2) (Y1 (Zd Zw dq (hr.mono (Zy)) aQ (Y1 (Y3 (pv 2) (@qY _ _ _ _ _ _ lq ai))))))))) (Za (Zq (@Bp _ K _ _ _ _ _ _ _ _ PySem.F.plainAttrs_list PySem.F.slot_list_reverse PySem.F.type_list_reverse ZV (pv 2) (Zz) (Zz) (Zz))) (Y' (Zm (pv 2)))))),?_⟩;refine⟨_,rfl,aF Zr,fun w hw=>?_⟩;refine⟨fun mm σ H1=>∃(us:List V)(A:List (Nat×Nat))(i2 j2:Nat),mm=i2∧σ=[some (.ref x),some (.ref pr),some (.ref w)]∧ax H H1∧H1 w=some (.lst us)∧f7 H1 us ((A++[(i2,j2)]).map aR)∧i2<n∧j2<m∧A.length+i2≤i∧eI f1 o p i i j=eI f1 o p i2 i2 j2++A.reverse,⟨i,_,[],i,j,rfl,rfl,ax.upd hw,ae,⟨rfl,fun k g hg=>?_⟩,hi,hj,ZA,ZA⟩,?_⟩
  ·have hk:k=0:=by
    have:=(Y7 hg).1;simp at this;omega
   subst hk;have hg:aR (i,j)=g:=by simpa using hg
   subst hg;exact⟨pr,rfl,ax.upd hw _ _ BX⟩
  rintro i2 σ H1 ⟨us,A,_,j2,rfl,rfl,s1,rQ,P1,FY,Ss,hA,HE⟩;have T1:=TR.keep s1;obtain⟨t,xZ,uw⟩:=P1.last Zr;rw[List.map_append,List.map_singleton,ni]at uw;have hlen:us.length≤1001:=by have:=P1.1;simp at this;omega
  refine⟨_,rfl,x,dx,_,rfl,T1.ob,Fe o p e b,_,rfl,_,rfl,w,_,_,_,rfl,rfl, .of rQ,xZ,x,dx,e,b,es,bs,f1,o,p,n,m,t,i2,j2,rfl,T1,uw,Zx,Zx,?_⟩;refine⟨_,rfl,?_⟩;refine a8 (fun hh=>?_) (fun hh=>?_)
  ·obtain⟨c1,c2,c3⟩:=j7 hh;have hl:=(kx f1 o p i2 j2 c1 c2).resolve_right c3;refine⟨_,fun bH H' z=>z,?_⟩;refine⟨_,rfl, .inl ⟨rfl,_, .of rQ⟩,_,rfl,x,dx,_,rfl,T1.ob,Lh o p e b,_,rfl,_,rfl,w,_,_,_,rfl,rfl, .of rQ,xZ,x,dx,e,b,es,bs,f1,o,p,n,m,t,i2,j2,rfl,T1,uw,Zx,Zx,c3,fun H2 r s2 hr=>?_⟩;have YD:r≠w:=fun z=>by subst z;rw[s2 _ _ rQ]at hr;cases hr
   refine⟨w,_,_,rfl,rfl,s2 _ _ rQ,ba Zt,(cN f1 o p i2 j2).1,hl.1,us++[.ref r],A++[(i2,j2)],_,(cN f1 o p i2 j2).2,rfl,rfl,(s1.trans s2).eZ hw,ae,?_,Zx,Zx,by simp;omega,?_⟩
   ·rw[List.map_append];refine((P1.same s2).append ⟨rfl,fun k g hg=>?_⟩).cI fun a ys ha=>?_
    ·have hk:k=0:=by
      have:=(Y7 hg).1;simp at this;omega
     subst hk;have hg:aR ((cN f1 o p i2 j2).1,(cN f1 o p i2 j2).2)=g:=by simpa using hg
     subst hg;exact⟨r,rfl,hr⟩
    ·have eV:a≠w:=fun z=>by subst z;rw[s2 _ _ rQ]at ha;cases ha
     rw[ao eV];exact ha
   ·rw[HE,vN hh];simp
  ·have hh:¬gM (Bq f1 o p i2 j2)=true:=hh;refine⟨_,rfl, .inl ⟨rfl,_, .of rQ⟩,w,us,rfl,rfl,rQ,?_⟩;refine⟨_,rfl,q _ w us.reverse (s1.eZ hw) hw ae ?_⟩;have e:eI f1 o p i i j=(A++[(i2,j2)]).reverse:=by
    rw[HE,gQ hh];simp
   rw[e,List.map_reverse];refine⟨by rw[List.length_reverse,List.length_reverse,P1.1],fun k g hg=>?_⟩;have hk:=(Y7 hg).1;rw[List.length_reverse]at hk;have hl:=P1.1;rw[List.getElem?_reverse hk]at hg;obtain⟨t3,k1,k2⟩:=P1.2 _ _ hg;refine⟨t3,by rw[List.getElem?_reverse Zt,hl];exact k1,?_⟩;have eV:t3≠w:=fun z=>by subst z;rw[rQ]at k2;cases k2
   rw[ao eV];exact k2
variable(Fc:IW K ay)
theorem mG:aM ["self","worth","way","row","pairs"] ["self","worth","way","row","pairs"] (ar fO):=⟨rfl,rfl,rfl,by decide+kernel,rfl,by decide+kernel,by decide+kernel⟩
include T Fc in
theorem mH{f:Addr}{fd:FuncData}(F:ir K "__init__" "Finding.__init__" fO f fd):a7 P w K mg base (cW P w) true 1 f fd ["self","worth","way","row","pairs"] (tE ay):=by
 refine F.gI mG Zs (fun bT A outer s H vs Q E hr h hX=>?_)
 ·obtain⟨x,dx,a,r,p,w,rfl,_⟩:=h;rfl
 ·obtain⟨x,dx,a,r,p,w,rfl,hx,q⟩:=h;refine⟨_,(Za (Zo K Zw (pv 1)) (Za (Zo K Zw (pv 2)) (Za (Zo K Zw (pv 3)) (Y' (Zo K Zw (pv 4)))))),?_⟩;have a1:=aW "worth" (.int w) [];have a2:=aW "way" (.ref a) (bp "worth" (.int w) []);have a3:=aW "row" (.ref r) (bp "way" (.ref a) (bp "worth" (.int w) []));simp only[List.length_nil]at a1;refine⟨_,rfl,_,rfl,x,ay,dx,_,rfl,hx,Fc.cl,Fc.worth,Zy,?_⟩;refine⟨_,rfl,_,rfl,x,ay,dx,_,rfl,ae,Fc.cl,Fc.way,Zx,?_⟩;refine⟨_,rfl,_,rfl,x,ay,dx,_,rfl,ae,Fc.cl,Fc.row,Zx,?_⟩;refine⟨_,rfl,_,rfl,x,ay,dx,_,rfl,ae,Fc.cl,Fc.pairs,Zx,?_⟩;rw[fW,fW,fW,Li];exact q
theorem yZ:aM ["finding"] ["finding"] (ar nB):=⟨rfl,rfl,rfl,by decide+kernel,rfl,by decide+kernel,by decide+kernel⟩
include T Fc in
theorem y4{f:Addr}{fd:FuncData}(F:jh K "order_of" "order_of" nB f fd):a7 P w K mg base (cW P w) true 1 f fd ["finding"] (tF ay):=by
 refine F.gI yZ Zs (fun bT A outer s H vs Q E hr h hX=>?_)
 ·obtain⟨x,dx,a,r,p,w,us,ps,rfl,_⟩:=h;rfl
 ·obtain⟨x,dx,a,r,p,w,us,ps,rfl,hx,hp,PS,eV,q⟩:=h;refine⟨_,(Y' (Zm (@eX _ _ _ _ _ (Y4 (@qY _ _ _ _ _ _ lq (Y6 K Zw)) (Y1 (Y3 (Y6 K Zw) ai)))))),?_⟩;obtain⟨t,h1,h2⟩:=PS.first eV;refine⟨_,rfl,x,ay,dx,_,_,rfl,hx,Fc.cl,Fc.worth,oP w a r p,_,rfl,_,rfl,x,ay,dx,_,_,rfl,hx,Fc.cl,Fc.pairs,fF w a r p,p,_,_,_,rfl,rfl, .of hp,h1,aF Zr,fun k hk=>?_⟩;exact q _ k t (ax.upd hk) ae (ax.upd hk _ _ h2)
variable(fK:eG P w K mg base true 4 aA "way_to" ["self","pair"] (As aA))
variable(kK:mO P w K mg base true 1 "Finding" ay ["self","worth","way","row","pairs"] [] (tE ay))
theorem fL:aM ["trails","worth","pairs","ends","way","row"] ["trails","worth","pairs"] (ar fg):=⟨rfl,rfl,rfl,by decide+kernel,rfl,by decide+kernel,by decide+kernel⟩
include T Rc fK kK in
theorem rR{f:Addr}{fd:FuncData}(F:jh K "make_finding" "make_finding" fg f fd):a7 P w K mg base (cW P w) true 6 f fd ["trails","worth","pairs"] (Au aA ay):=by
 refine F.gI fL Zs (fun bT A outer s H vs Q E hr h hX=>?_)
 ·obtain⟨x,dx,e,b,es,bs,f,o,p,n,m,w,pr,us,ps,q0,rfl,_⟩:=h;rfl
 ·obtain⟨x,dx,e,b,es,bs,f1,o,p,n,m,w,pr,us,ps,q0,rfl,TR,BX,PS,n6,h0,hn,Dv,q⟩:=h;refine⟨_,(Zf (@oC _ _ _ _ _ _ _ _ _ _ _ _ _ _ _ (3) _ _ (by exact rfl) fL.nd Zv (by exact rfl) (show bD ["trails","worth","pairs","ends","way","row"] (ar fg) _ ["pair"] [0,1] ["trails","worth"]from⟨rfl,by decide+kernel,by decide+kernel,by decide+kernel,rfl,rfl,by decide+kernel,by decide+kernel,by decide+kernel⟩) (@bg _ K _ _ _ (pv 2) (Zz)) (fun _ _ _ _ _=>(Y2 (0) (show(["pair","trails","worth"]:List Str).Nodup by decide+kernel))) (fun _ _ _ _ _=>(@Bh _ _ _ (Zj jm (Y3 (Y3 (Y6 K (pv 1)) (@aB _ _ _ _ _ _ _ (cC K) (pv 0) ai (fun _ _=>rfl))) (@aB _ _ _ _ _ _ _ (cC K) (pv 0) ai (fun _ _=>rfl))) (pv 2) (aV _)))) (fun _ _ _ _ _=>(pv 0)) (Zz) (by intro _;rfl)) (Zf (Y0 (4) fL.nd (Zd Zw fK (hr.mono (Zy)) aQ (Y1 (Y3 (pv 3) ai)))) (Zf (@oC _ _ _ _ _ _ _ _ _ _ _ _ _ _ _ (5) _ _ (by exact rfl) fL.nd Zv (by exact rfl) (show bD ["trails","worth","pairs","ends","way","row"] (ar fg) _ ["i","j"] [0] ["trails"]from⟨rfl,by decide+kernel,by decide+kernel,by decide+kernel,rfl,rfl,by decide+kernel,by decide+kernel,by decide+kernel⟩) (@bg _ K _ _ _ (pv 4) (Zz)) (fun _ _ _ _ _=>(@f6 _ K _ _ _ (2) _ (by exact rfl) (@bf _ _ _ _ _ (Y2 (0) (show(["i","j","trails"]:List Str).Nodup by decide+kernel)) (@bf _ _ _ _ _ (Y2 (1) (show(["i","j","trails"]:List Str).Nodup by decide+kernel)) fX (Zz)) (Zz)) (Zz) (Zz) (Zz))) (fun _ _ _ _ _=>iF) (fun _ _ _ _ _=>(Y3 (Y3 (Y6 K (pv 2)) (pv 0)) (pv 1))) (Zz) (by intro _;rfl)) (Y' (Zm (@sg _ _ _ _ _ _ _ _ _ _ _ _ _ _ kK (hr.mono (Zy)) hX.pass (Y4 (pv 1) (Y4 (pv 4) (Y4 (pv 5) (Y1 (pv 2))))) (Zz) (Zy) (Zz) (Zz))))))),?_⟩;have HF:us.length=ps.length:=by have:=PS.1;simpa using this
  refine⟨fun σ H1=>∃D vs,σ=[some (.ref x),some (.int w),some (.ref pr),some (.ref D),none,none]∧ax H H1∧H1 D=some (.lst vs)∧f7 H1 vs ((ps.filter fun q=>decide (dE f1 o p q.1 q.2=some w)).map aR),?_,?_⟩
  ·refine⟨_,rfl,pr,rfl,⟨_, .of BX⟩,fun D hD=>?_⟩;refine jZ (xs:=us) (fun k ys bH H'=>(∃u,bH=[u,some (.ref x),some (.int w)])∧f7 H ys (((ps.take k).filter fun q=>decide (dE f1 o p q.1 q.2=some w)).map aR)∧H' D=some (.lst ys)∧ax H H'∧ys.length≤k) ⟨⟨_,rfl⟩, .nil,ae,ax.upd hD,ZA⟩ ?_ ?_ ?_
   ·rintro k ys bH H' _ ⟨_,_,_,s1,_⟩;exact .of (s1 _ _ BX)
   ·rintro k v ys bH H' hv ⟨⟨u,rfl⟩,P1,rP,s1,kW⟩;have hk:k<ps.length:=by rw[←HF];exact(Y7 hv).1
    have ek:ps[k]?=some ps[k]:=by simp[hk]
    have hm:=n6 ps[k] (List.getElem_mem hk);generalize ps[k]=g at ek hm;obtain⟨t,k1,k2⟩:=PS.2 k (aR g) (by rw[List.getElem?_map,ek];rfl);rw[hv]at k1;cases k1;have T1:=TR.keep s1;have kt:=s1 _ _ k2;obtain⟨rb,g1,g2,g3⟩:=T1.te.at hm.1;have et:ps.take (k+1)=ps.take k++[g]:=by rw[List.take_succ,ek];rfl
    refine⟨_,rfl,x,aA,dx,_,_,rfl,T1.ob,Rc.cl,Rc.ku,ig o p e b,_,rfl,t,_,_,_,rfl,rfl, .of kt,av (j:=0) rfl,e,_,_,_,rfl,rfl, .of T1.he,av g2,_,rfl,t,_,_,_,rfl,rfl, .of kt,av (j:=1) rfl,rb,_,_,_,rfl,rfl, .of g3,av (dh hm.2),?_⟩;have Je:decide (bB (dE f1 o p g.1 g.2)=V.int w)=decide (dE f1 o p g.1 g.2=some w):=by cases dE f1 o p g.1 g.2<;>simp[bB]
    refine⟨_,rfl,by cases dE f1 o p g.1 g.2<;>rfl,_,rfl,?_⟩;rw[Je];refine a8 (fun hh=>?_) (fun hh=>?_)
    ·refine⟨_,rfl,rP,ba Zt,⟨_,rfl⟩,?_,ae,s1.eZ hD,by simp;omega⟩;rw[et,List.filter_append,List.map_append];refine P1.append ?_;rw[show[g].filter (fun q=>decide (dE f1 o p q.1 q.2=some w))=[g] by rw[List.filter_cons,Zk hh];rfl];exact⟨rfl,fun k3 g3 Qf=>by
      have Xi:k3=0:=by
       have:=(Y7 Qf).1;simp at this;omega
      subst Xi;have Qf:aR g=g3:=by simpa using Qf
      subst Qf;exact⟨t,rfl,k2⟩⟩
    ·have hh:decide (dE f1 o p g.1 g.2=some w)=false:=by simpa using hh
     refine⟨⟨_,rfl⟩,?_,rP,s1,Zx⟩;rw[et,List.filter_append,show[g].filter (fun q=>decide (dE f1 o p q.1 q.2=some w))=[] by rw[List.filter_cons,hh];rfl,List.append_nil];exact P1
   ·rintro ys bH H' ⟨_,P1,rP,s1,_⟩;rw[HF,List.take_length]at P1;exact⟨D,ys,rfl,s1,rP,P1.same s1⟩
  rintro σ H1 ⟨D,vs,rfl,s1,rP,P1⟩;obtain⟨t0,k1,k2⟩:=P1.2 0 (aR q0) (by rw[List.getElem?_map,h0];rfl);have HH:q0.1<n∧q0.2<m:=n6 q0 (List.mem_filter.mp (Ze h0)).1;refine⟨fun σ H2=>∃wy gY,σ=[some (.ref x),some (.int w),some (.ref pr),some (.ref D),some (.ref wy),none]∧ax H1 H2∧H1 wy=none∧H2 wy=some (.lst gY)∧f7 H2 gY ((eI f1 o p q0.1 q0.1 q0.2).map aR),?_,?_⟩
  ·have T1:=TR.keep s1;exact⟨_,rfl,x,dx,_,rfl,T1.ob,Of o p e b,_,rfl,D,_,_,_,rfl,rfl, .of rP,av (j:=0) k1,x,dx,e,b,es,bs,f1,o,p,n,m,t0,q0.1,q0.2,rfl,T1,k2,HH.1,HH.2,hn,fun H2 wy gY s2 h2 h3 P2=>⟨wy,gY,rfl,s2,h2,h3,P2⟩⟩
  rintro σ H2 ⟨wy,gY,rfl,s2,Su,DC,P2⟩;have AJ:=P2.1;rw[List.length_map]at AJ;have Np:(eI f1 o p q0.1 q0.1 q0.2).length≤1001:=by
   have:=yS (f:=f1) (o:=o) (p:=p) q0.1 q0.1 q0.2;omega
  have OI:=BL (f:=f1) (o:=o) (p:=p) q0.1 q0.1 q0.2 HH.1 HH.2;generalize eI f1 o p q0.1 q0.1 q0.2=W at P2 AJ Np OI q;refine⟨fun σ H3=>∃r,σ=[some (.ref x),some (.int w),some (.ref pr),some (.ref D),some (.ref wy),some (.ref r)]∧ax H2 H3∧H2 r=none∧H3 r=some (.lst (W.map fun q=>bB (dE f1 o p q.1 q.2))),?_,?_⟩
  ·refine⟨_,rfl,wy,rfl,⟨_, .of DC⟩,fun D2 lO=>?_⟩;refine jZ (xs:=gY) (fun k ys bH H'=>(∃u v,bH=[u,v,some (.ref x)])∧ys=(W.take k).map (fun q=>bB (dE f1 o p q.1 q.2))∧H' D2=some (.lst ys)∧ax H2 H') ⟨⟨_,_,rfl⟩,rfl,ae,ax.upd lO⟩ ?_ ?_ ?_
   ·rintro k ys bH H' _ ⟨_,_,_,s3⟩;exact .of (s3 _ _ DC)
   ·rintro k v ys bH H' hv ⟨⟨u,v2,rfl⟩,rfl,x_,s3⟩;have hk:k<W.length:=by rw[←AJ];exact(Y7 hv).1
    have ek:W[k]?=some W[k]:=by simp[hk]
    have hm:=OI W[k] (List.getElem_mem hk);generalize W[k]=g at ek hm;obtain⟨t,k1,k2⟩:=P2.2 k (aR g) (by rw[List.getElem?_map,ek];rfl);rw[hv]at k1;cases k1;have T3:=TR.keep (s1.trans (s2.trans s3));have kt:=s3 _ _ k2;obtain⟨rb,g1,g2,g3⟩:=T3.te.at hm.1;refine⟨t,_,rfl, .of kt,rfl,_,_,rfl,_,_,rfl,rfl,?_⟩;refine wB ?_;refine⟨_,rfl,x,aA,dx,_,_,rfl,T3.ob,Rc.cl,Rc.ku,ig o p e b,_,rfl,e,_,_,_,rfl,rfl, .of T3.he,av g2,_,rfl,rb,_,_,_,rfl,rfl, .of g3,av (dh hm.2),?_⟩;refine⟨x_,ba (by rw[List.length_map,List.length_take];omega),⟨_,_,rfl⟩,?_,ae,s3.eZ lO⟩;rw[List.take_succ,ek];simp
   ·rintro ys bH H' ⟨_,rfl,x_,s3⟩;rw[AJ,List.take_length]at x_;exact⟨D2,rfl,s3,lO,x_⟩
  rintro σ H3 ⟨r,rfl,s3,rq,xj⟩;refine⟨_,rfl,_,rfl,_,rfl,_,rfl,fun y dy hy Ly eV=>?_⟩;have s4:ax H3 (upd (upd H3 dy (.own y)) y (.ins ay dy [])):=(ax.upd Ly).eZ hy;refine⟨y,dy,wy,r,pr,w,rfl,ae,?_⟩;refine⟨rfl,?_⟩;rw[fW];have s5:ax H3 (upd (upd H3 dy (.own y)) y (.ins ay dy (lE w wy r pr))):=(ax.upd Ly).eZ hy;have sH:=s1.trans (s2.trans s3);exact q _ y dy wy r gY (sH.trans s5) (sH.free hy) (sH.free Ly) (s1.free Su) ((s1.trans s2).free rq) ae (by rw[ao eV];exact ae) (s5 _ _ (s3 _ _ DC)) (P2.same (s3.trans s5)) (s5 _ _ xj)
variable(Gc:Og K aI)
theorem nK:aM ["self"] ["self"] (ar gf):=⟨rfl,rfl,rfl,by decide+kernel,rfl,by decide+kernel,by decide+kernel⟩
include T Gc in
theorem nL{f:Addr}{fd:FuncData}(F:ir K "__init__" "Groups.__init__" gf f fd):a7 P w K mg base (cW P w) true 1 f fd ["self"] (tG aI):=by
 refine F.gI nK Zs (fun bT A outer s H vs Q E hr h hX=>?_)
 ·obtain⟨x,dx,rfl,_⟩:=h;rfl
 ·obtain⟨x,dx,rfl,hx,q⟩:=h;refine⟨_,(Za (Zo K Zw jW) (Y' (Zo K Zw jW))),?_⟩;have a1:=aW "leads" (.ref 0) [];simp only[List.length_nil]at a1;refine fun dl Qg=>?_
  have n1:x≠dl:=aE hx Qg;refine⟨_,rfl,x,aI,dx,_,rfl,by rw[ao n1];exact hx,Gc.cl,Gc.oR,Zy,?_⟩;refine fun dm Jf=>?_
  have n2:x≠dm:=fun z=>by rw[z,ae]at Jf;cases Jf
  have HI:upd H dl (.dT []) dm=none:=by rw[ao (Ne.symm n2)]at Jf;exact Jf
  have n3:dm≠dl:=fun z=>by rw[z,ae]at HI;cases HI
  have OJ:H dm=none:=by rw[ao n3]at HI;exact HI
  refine⟨_,rfl,x,aI,dx,_,rfl,by rw[ao n2,ae],Gc.cl,Gc.members,by have:=aW "leads" (.ref dl) [];simp at this;omega,?_⟩;rw[Oh];refine q _ (fun a=>a=dl∨a=dm) ?_ ?_ ?_
  ·exact fun b u hb e=>by
    rw[ao hb,ao (aE e OJ),ao hb,ao (aE e Qg)];exact e
  ·rintro a (rfl|rfl)
   ·exact Qg
   ·exact OJ
  ·refine⟨dx,dl,dm,[],[],fun _=>none,fun _=>none,ae,fun z=>z.elim n1 n2,⟨?_,?_, .inl rfl, .inr rfl,Ne.symm n3,fun p=>rfl,fun p=>rfl,fun p q a e=>(by cases e),fun kv h=>(by cases h), .nil,fun l ms e=>(by cases e),fun p l e=>(by cases e),fun l ms e=>(by cases e)⟩,fun a b=>⟨False.elim,fun⟨l,e,_⟩=>(by cases e)⟩,Nat.le_refl _,Nat.le_refl _⟩
   ·rw[ao (Ne.symm n1),ao (Ne.symm n3),ao (Ne.symm n1),ae]
   ·rw[ao (Ne.symm n2),ae]
theorem uH:aM ["self","pair"] ["self","pair"] (ar iI):=⟨rfl,rfl,rfl,by decide+kernel,rfl,by decide+kernel,by decide+kernel⟩
include T Gc in
theorem uI{f:Addr}{fd:FuncData}(F:ir K "has" "Groups.has" iI f fd):a7 P w K mg base (cW P w) true 1 f fd ["self","pair"] (Av aI):=by
 refine F.gI uH Zs (fun bT A outer s H vs Q E hr h hX=>?_)
 ·obtain⟨x,t,p,S,E1,B,rfl,_⟩:=h;rfl
 ·obtain⟨x,t,p,S,E1,B,rfl,G,ht,q⟩:=h;have hu:=hr.units;have hu:(A.deeper (PyProof.Rows.envOfC "Groups.has" (ar iI) s.heap.objs.size f bT)).units+1<cLine:=Zx;refine⟨_,(Y' (Zm (@zE _ _ _ _ _ _ (@qf _ _ _ _ _ hu (pv 1) (Y6 K Zw)) (by first|exact bh _ (Zy) (Zy)|rfl)))),?_⟩;obtain⟨dg,dl,dm,kl,km,ld,mm,hg,FK,D,hE,Qh,Mf⟩:=G;refine⟨_,rfl,_,rfl,x,aI,dg,_,_,rfl,hg,Gc.cl,Gc.oR,jr dl dm,dl,_,rfl, .t (k:=a9 p) D.hl ht,q _ ?_⟩;rw[hE];have:=D.lv p;cases e:ld p with
  |none=>
   rw[e]at this;have this:bu kl (a9 p)=none:=this;rw[this];simp
  |some l=>
   rw[e]at this;obtain⟨t2,h1,_⟩:=this;rw[h1];simp
theorem oZ:aM ["self","pair"] ["self","pair"] (ar fA):=⟨rfl,rfl,rfl,by decide+kernel,rfl,by decide+kernel,by decide+kernel⟩
include T Gc in
theorem o6{f:Addr}{fd:FuncData}(F:ir K "take_in" "Groups.take_in" fA f fd):a7 P w K mg base (cW P w) true 1 f fd ["self","pair"] (w9 aI):=by
 refine F.gI oZ Zs (fun bT A outer s H vs Q E hr h hX=>?_)
 ·obtain⟨x,t,p,S,E1,B,rfl,_⟩:=h;rfl
 ·obtain⟨x,t,p,S,E1,B,rfl,G,ht,hB,q⟩:=h;have hu:=hr.units;have hu:(A.deeper (PyProof.Rows.envOfC "Groups.take_in" (ar fA) s.heap.objs.size f bT)).units+1<cLine:=Zx;refine⟨_,(Y' (@aX _ _ _ _ _ _ _ _ (Zb (@vw _ _ _ _ _ hu (pv 1) (Y6 K Zw))) (Za (@kn _ _ _ _ _ _ _ _ _ hu (Y6 K Zw) (pv 1) (pv 1) (by exact rfl)) (Y' (@kn _ _ _ _ _ _ _ _ _ hu (Y6 K Zw) (pv 1) (@bM _ _ _ _ (Y1 (pv 1))) (by exact rfl)))) aP)),?_⟩;obtain⟨dg,dl,dm,kl,km,ld,mm,hg,FK,D,hE,Qh,Mf⟩:=id G;refine⟨_,rfl,_,rfl,x,aI,dg,_,_,rfl,hg,Gc.cl,Gc.oR,jr dl dm,dl,_,rfl, .t (k:=a9 p) D.hl ht,_,rfl,?_⟩;have lv:=D.lv p;cases e:ld p with
  |some l=>
   rw[e]at lv;obtain⟨t2,h1,_⟩:=lv;rw[h1];refine eU ?_;refine q H S (.same (.refl H)) (G.iff (fun a b=>?_) (Zx));unfold IX;refine⟨fun z=>z.elim id ?_, .inl⟩;rintro⟨rfl,rfl⟩;rw[hE];exact⟨l,e,e⟩
  |none=>
   rw[e]at lv;have lv:bu kl (a9 p)=none:=lv;rw[lv];refine jK ?_;have nx:x≠dl:=fun z=>FK (z▸D.sl)
   have Qi:x≠dm:=fun z=>FK (z▸D.sm)
   have Sx:t≠dl:=fun z=>by rw[z,D.hl]at ht;cases ht
   have YE:t≠dm:=fun z=>by rw[z,D.hm]at ht;cases ht
   refine⟨_,rfl,_,rfl,x,aI,dg,_,_,rfl,hg,Gc.cl,Gc.oR,jr dl dm,_,rfl,dl,_,rfl, .t (k:=a9 p) D.hl ht (ba Zt),?_⟩;refine⟨_,rfl,aF Zr,fun a ha=>?_⟩;have na:a≠dl:=fun z=>by rw[z,ae]at ha;cases ha
   have DB:H a=none:=by rw[ao na]at ha;exact ha
   have OC:x≠a:=aE hg DB;have UX:dm≠a:=aE D.hm DB;have Xj:t≠a:=aE ht DB;refine⟨_,rfl,x,aI,dg,_,_,rfl,by rw[ao OC,ao nx];exact hg,Gc.cl,Gc.members,iT dl dm,_,rfl,dm,_,rfl, .t (k:=a9 p) (by rw[ao UX,ao (Ne.symm D.ne)];exact D.hm) (by rw[ao Xj,ao Sx];exact ht) (ba Zt),?_⟩;refine q _ (fun y=>S y∨y=a) ⟨fun y hy=>hy.imp id (fun z=>by rw[z];exact DB),fun b o hb eb=>?_⟩ ?_
   ·rw[ao (fun z:b=dm=>hb (by rw[z];exact D.sm)),ao (aE eb DB),ao (fun z:b=dl=>hb (by rw[z];exact D.sl))];exact eb
   refine⟨dg,dl,dm,_,_,_,_,by rw[ao Qi,ao OC,ao nx];exact hg,fun z=>z.elim FK OC,D.take (t:=t) (a:=a) e ht DB ?_ ae ?_ ?_,fun a1 b1=>?_,?_,?_⟩
   ·rw[ao D.ne,ao (Ne.symm na),ae]
   ·rw[ao (Ne.symm UX),ae]
   ·intro b o h1 h2 eb;rw[ao h2,ao (aE eb DB),ao h1];exact eb
   ·unfold IX;rw[hE];constructor
    ·rintro(⟨l,h1,h2⟩|⟨z1,z2⟩)
     ·exact⟨l,by rw[Zh (fun z=>by rw[z,e]at h1;cases h1)];exact h1,by rw[Zh (fun z=>by rw[z,e]at h2;cases h2)];exact h2⟩
     ·exact⟨p,by rw[Zk z1],by rw[Zk z2]⟩
    ·rintro⟨l,h1,h2⟩;by_cases z1:a1=p
     ·by_cases z2:b1=p
      ·exact .inr ⟨z1,z2⟩
      ·rw[Zk z1]at h1;rw[Zh z2]at h2;cases h1;obtain⟨ms,Dy⟩:=D.ml _ _ h2;have:=D.self _ _ Dy;rw[e]at this;cases this
     ·rw[Zh z1]at h1;by_cases z2:b1=p
      ·rw[Zk z2]at h2;cases h2;obtain⟨ms,Dy⟩:=D.ml _ _ h1;have:=D.self _ _ Dy;rw[e]at this;cases this
      ·rw[Zh z2]at h2;exact .inl ⟨l,h1,h2⟩
   ·exact Nat.le_trans (eY _ _ _) (Zx)
   ·exact Nat.le_trans (eY _ _ _) (Zx)
theorem cH:aM ["self","pair","other","lead","gone","moved","member"] ["self","pair","other"] (ar fh):=⟨rfl,rfl,rfl,by decide+kernel,rfl,by decide+kernel,by decide+kernel⟩
include T Gc in
theorem rS{f:Addr}{fd:FuncData}(F:ir K "unite" "Groups.unite" fh f fd):a7 P w K mg base (cW P w) true 1 f fd ["self","pair","other"] (tH aI):=by
 refine F.gI cH Zs (fun bT A outer s H vs Q E hr h hX=>?_)
 ·obtain⟨x,t,u,p,q,S,E1,B,rfl,_⟩:=h;rfl
 ·obtain⟨x,t,u,p,q,S,E1,B,rfl,G,ht,P8,hp,hq,hB,qq⟩:=h;have hu:=hr.units;have Lz:(A.deeper (PyProof.Rows.envOfC "Groups.unite" (ar fh) s.heap.objs.size f bT)).units<cLine:=Zx;have hu:(A.deeper (PyProof.Rows.envOfC "Groups.unite" (ar fh) s.heap.objs.size f bT)).units+1<cLine:=Zx;refine⟨_,(Zf (Y0 (3) cH.nd (@iE _ _ _ _ _ _ hu (Y6 K Zw) (pv 1) (fun _ _=>rfl))) (Zf (Y0 (4) cH.nd (@iE _ _ _ _ _ _ hu (Y6 K Zw) (pv 2) (fun _ _=>rfl))) (Y' (@aX _ _ _ _ _ _ _ _ (Zj (CS K Lz) (pv 3) (pv 4) (aV _)) (Zf (@aX _ _ _ _ _ _ _ _ (Zj mM (Y5 (aG K) (by exact rfl) T.cD (Y1 (@iE _ _ _ _ _ _ hu (Y6 K Zw) (pv 3) (fun _ _=>rfl)))) (Y5 (aG K) (by exact rfl) T.cD (Y1 (@iE _ _ _ _ _ _ hu (Y6 K Zw) (pv 4) (fun _ _=>rfl)))) (aV _)) (Zf (Y0 (3) cH.nd (@iE _ _ _ _ _ _ hu (Y6 K Zw) (pv 2) (fun _ _=>rfl))) (Y' (Y0 (4) cH.nd (@iE _ _ _ _ _ _ hu (Y6 K Zw) (pv 1) (fun _ _=>rfl))))) aP) (Zf (Y0 (5) cH.nd (@EH _ _ _ _ _ _ _ hu (Y6 K Zw) (pv 4) ⟨rfl,rfl,rfl,rfl⟩)) (Zf (@bj _ _ _ _ _ _ _ _ hX.own Zv (@bg _ K _ _ _ (pv 5) (Zz)) (Y2 (6) cH.nd) (Y' (@kn _ _ _ _ _ _ _ _ _ hu (Y6 K Zw) (pv 6) (pv 3) (by exact rfl))) (by intro _;rfl)) (Y' (Zq (Y_ K PySem.F.plainAttrs_list PySem.F.slot_list_extend PySem.F.type_list_extend vy (@iE _ _ _ _ _ _ hu (Y6 K Zw) (pv 3) (fun _ _=>rfl)) (Y1 (pv 5)))))))) aP)))),?_⟩;obtain⟨dg,dl,dm,kl,km,ld,mm,hg,FK,D,hE,Qh,Mf⟩:=id G;obtain⟨l,Jg,_⟩:=(hE p p).mp hp;obtain⟨g,Jh,_⟩:=(hE q q).mp hq;obtain⟨tl,vl,yU⟩:∃tl,bu kl (a9 p)=some (.ref tl)∧H tl=some (.tup (jo l)):=by have:=D.lv p;rw[Jg]at this;exact this
  obtain⟨tg,vg,Mg⟩:∃tg,bu kl (a9 q)=some (.ref tg)∧H tg=some (.tup (jo g)):=by have:=D.lv q;rw[Jh]at this;exact this
  refine⟨fun σ H1=>H1=H∧σ=[some (.ref x),some (.ref t),some (.ref u),some (.ref tl),none,none,none],⟨_,rfl,x,aI,dg,_,_,rfl,hg,Gc.cl,Gc.oR,jr dl dm,_,rfl,dl,_,rfl,by have:=jV.t (k:=a9 p) D.hl ht;rw[vl]at this;exact this,rfl,rfl⟩,?_⟩;rintro σ H1 ⟨rfl,rfl⟩;refine⟨fun σ H2=>H2=H1∧σ=[some (.ref x),some (.ref t),some (.ref u),some (.ref tl),some (.ref tg),none,none],⟨_,rfl,x,aI,dg,_,_,rfl,hg,Gc.cl,Gc.oR,jr dl dm,_,rfl,dl,_,rfl,by have:=jV.t (k:=a9 q) D.hl P8;rw[vg]at this;exact this,rfl,rfl⟩,?_⟩;rintro σ H2 ⟨rfl,rfl⟩;refine⟨_,rfl,_,rfl,tl,tg,_,_,rfl,rfl, .of yU, .of Mg,rfl,rfl,_,rfl,?_⟩;rw[Bv];by_cases BP:l=g
  ·rw[decide_eq_true BP];refine eU ?_;refine qq _ (.same (.refl _)) (G.iff (fun a b=>?_) (Nat.le_refl _));subst BP;unfold qx;rw[hE,hE,hE,hE,hE,Jg,Jh];constructor
   ·rintro(z|⟨z1,z2⟩)
    ·exact z
    ·have y1:ld a=some l:=by rcases z1 with⟨y,h1,h2⟩|⟨y,h1,h2⟩<;>(cases h2;exact h1)
     have y2:ld b=some l:=by rcases z2 with⟨y,h1,h2⟩|⟨y,h1,h2⟩<;>(cases h2;exact h1)
     exact⟨l,y1,y2⟩
   ·exact .inl
  rw[decide_eq_false BP];refine jK ?_;obtain⟨m1,BY⟩:=D.ml p l Jg;obtain⟨m2,F8⟩:=D.ml q g Jh;obtain⟨al,jt,OL,BQ,P1,_⟩:∃a us,bu km (a9 l)=some (.ref a)∧H2 a=some (.lst us)∧f7 H2 us m1∧S a:=by have:=D.mv l;rw[BY]at this;exact this
  obtain⟨ag,gY,Qj,HJ,P2,_⟩:∃a us,bu km (a9 g)=some (.ref a)∧H2 a=some (.lst us)∧f7 H2 us m2∧S a:=by have:=D.mv g;rw[F8]at this;exact this
  have gl:∀{tt:Addr}{r:Pr},H2 tt=some (.tup (jo r))→jV H2 dm (.ref tt) (bu km (a9 r)):=fun h=>jV.t (k:=a9 _) D.hm h
  have UY:∀{tt:Addr}{r:Pr},H2 tt=some (.tup (jo r))→jV H2 dl (.ref tt) (bu kl (a9 r)):=fun h=>jV.t (k:=a9 _) D.hl h
  refine⟨fun σ H3=>H3=H2∧∃l g tl tg p' q',σ=[some (.ref x),some (.ref t),some (.ref u),some (.ref tl),some (.ref tg),none,none]∧l≠g∧H2 tl=some (.tup (jo l))∧H2 tg=some (.tup (jo g))∧ld p'=some l∧ld q'=some g∧∀a b,qx E1 p q a b↔qx E1 p' q' a b,?_,?_⟩
  ·refine⟨_,rfl,x,aI,dg,_,_,rfl,hg,Gc.cl,Gc.members,iT dl dm,_,rfl,dm,_,rfl,by have:=gl yU;rw[OL]at this;exact this,al,_,rfl, .inl (.of BQ),?_⟩;refine⟨_,rfl,x,aI,dg,_,_,rfl,hg,Gc.cl,Gc.members,iT dl dm,_,rfl,dm,_,rfl,by have:=gl Mg;rw[Qj]at this;exact this,ag,_,rfl, .inl (.of HJ),?_⟩;refine⟨_,_,rfl,rfl,_,rfl,?_⟩;refine a8 (fun _=>?_) (fun _=>?_)
   ·refine⟨fun σ H3=>H3=H2∧σ=[some (.ref x),some (.ref t),some (.ref u),some (.ref tg),some (.ref tg),none,none],⟨_,rfl,x,aI,dg,_,_,rfl,hg,Gc.cl,Gc.oR,jr dl dm,_,rfl,dl,_,rfl,by have:=UY P8;rw[vg]at this;exact this,rfl,rfl⟩,?_⟩;rintro σ H3 ⟨rfl,rfl⟩;refine⟨_,rfl,x,aI,dg,_,_,rfl,hg,Gc.cl,Gc.oR,jr dl dm,_,rfl,dl,_,rfl,by have:=UY ht;rw[vl]at this;exact this,rfl,g,l,tg,tl,q,p,rfl,Ne.symm BP,Mg,yU,Jh,Jg,fun a b=>CU⟩
   ·exact⟨rfl,l,g,tl,tg,p,q,rfl,BP,yU,Mg,Jg,Jh,fun a b=>Iff.rfl⟩
  rintro σ H3 ⟨rfl,l,g,tl,tg,p',q',rfl,BP,yU,Mg,Jg,Jh,Xk⟩;obtain⟨m1,BY⟩:=D.ml p' l Jg;obtain⟨m2,F8⟩:=D.ml q' g Jh;obtain⟨al,jt,OL,BQ,P1,UZ⟩:∃a us,bu km (a9 l)=some (.ref a)∧H3 a=some (.lst us)∧f7 H3 us m1∧S a:=by have:=D.mv l;rw[BY]at this;exact this
  obtain⟨ag,gY,Qj,HJ,P2,YF⟩:∃a us,bu km (a9 g)=some (.ref a)∧H3 a=some (.lst us)∧f7 H3 us m2∧S a:=by have:=D.mv g;rw[F8]at this;exact this
  have YG:al≠ag:=fun z=>BP (D.inj l g al OL (by rw[Qj,z]))
  have l1:=D.vx (D.ms l m1 BY).1 (fun r hr=>⟨l,((D.ms l m1 BY).2 r).mp hr⟩);have l2:=D.vx (D.ms g m2 F8).1 (fun r hr=>⟨g,((D.ms g m2 F8).2 r).mp hr⟩);have nx:x≠dl:=fun z=>FK (by rw[z];exact D.sl)
  have Qi:x≠dm:=fun z=>FK (by rw[z];exact D.sm)
  have OM:al≠dl:=fun z=>by rw[z,D.hl]at BQ;cases BQ
  have ON:al≠dm:=fun z=>by rw[z,D.hm]at BQ;cases BQ
  have OO:ag≠dl:=fun z=>by rw[z,D.hl]at HJ;cases HJ
  have LA:ag≠dm:=fun z=>by rw[z,D.hm]at HJ;cases HJ
  have AJ:=P2.1;refine⟨fun σ H4=>H4=upd H3 dm (.dT (iX km (a9 g)))∧σ=[some (.ref x),some (.ref t),some (.ref u),some (.ref tl),some (.ref tg),some (.ref ag),none],?_,?_⟩
  ·exact⟨_,rfl,x,aI,dg,_,_,rfl,hg,Gc.cl,Gc.members,iT dl dm,dm,rfl, .inr ⟨km, .of D.hm⟩,_,rfl,dm,tg,km,a9 g,_,rfl,rfl,D.hm,Mg,Qj,rfl,rfl⟩
  rintro σ H4 ⟨rfl,rfl⟩;refine⟨fun σ H5=>(∃w,σ=[some (.ref x),some (.ref t),some (.ref u),some (.ref tl),some (.ref tg),some (.ref ag),w])∧∃uB,H5 dl=some (.dT uB)∧uB.length≤B∧(∀r,bu uB (a9 r)=if r∈m2 then some (.ref tl)else bu kl (a9 r))∧SameBut dl (upd H3 dm (.dT (iX km (a9 g)))) H5,?_,?_⟩
  ·refine⟨_,rfl,ag,rfl,⟨_, .of (by rw[ao LA];exact HJ)⟩,?_⟩;refine bJ (xs:=gY) (fun i σ H5=>(∃w,σ=[some (.ref x),some (.ref t),some (.ref u),some (.ref tl),some (.ref tg),some (.ref ag),w])∧∃uB,H5 dl=some (.dT uB)∧uB.length≤B∧(∀r,bu uB (a9 r)=if r∈m2.take i then some (.ref tl)else bu kl (a9 r))∧SameBut dl (upd H3 dm (.dT (iX km (a9 g)))) H5) ?_ ?_ ?_ ?_
   ·exact⟨⟨_,rfl⟩,kl,by rw[ao D.ne];exact D.hl,Qh,fun r=>ZA, .refl⟩
   ·rintro i σ H5 _ ⟨_,uB,_,_,_,s5⟩;exact .of (s5 _ _ OO (by rw[ao LA];exact HJ))
   ·rintro i v σ H5 hv ⟨⟨w,rfl⟩,uB,h5,Mh,LB,s5⟩;have hi:i<m2.length:=by rw[←AJ];exact(Y7 hv).1
    have ei:m2[i]?=some m2[i]:=by simp[hi]
    have i9:m2[i]∈m2:=List.getElem_mem hi;generalize m2[i]=r0 at ei i9;obtain⟨tr,k1,k2⟩:=P2.2 i r0 ei;rw[hv]at k1;cases k1;have US:tr≠dl:=fun z=>by rw[z,D.hl]at k2;cases k2
    have Sy:tr≠dm:=fun z=>by rw[z,D.hm]at k2;cases k2
    have k5:=s5 tr _ US (by rw[ao Sy];exact k2);have g5:=s5 x _ nx (by rw[ao Qi];exact hg);refine⟨_,rfl,_,rfl,x,aI,dg,_,_,rfl,g5,Gc.cl,Gc.oR,jr dl dm,_,rfl,dl,_,rfl, .t (k:=a9 r0) h5 k5 (ba Zt),⟨_,rfl⟩,_,ae,?_,fun r=>?_,s5.upd⟩
    ·have n6:bu uB (a9 r0)≠none:=by
      rw[LB];split
      ·simp
      ·have:=D.lv r0;rw[((D.ms g m2 F8).2 r0).mp i9]at this;obtain⟨t0,z,_⟩:=this;rw[z];simp
     have:(putK uB (a9 r0) (.ref tl)).length=uB.length:=by
      unfold putK;rw[ic,Zk (by cases z:bu uB (a9 r0)<;>simp_all),List.length_map]
     omega
    ·rw[iY,LB];have et:m2.take (i+1)=m2.take i++[r0]:=by rw[List.take_succ,ei];rfl
     rw[et];by_cases e:r=r0
     ·rw[Zk (by rw[e]),Zk (by simp[e])]
     ·rw[Zh (fun z=>e (dj z))];by_cases e2:r∈m2.take i
      ·rw[Zk e2,Zk (by simp[e2])]
      ·rw[Zh e2,Zh (by simp[e,e2])]
   ·rintro σ H5 ⟨⟨w,rfl⟩,uB,h5,Mh,LB,s5⟩;rw[AJ,List.take_length]at LB;exact⟨⟨_,rfl⟩,uB,h5,Mh,LB,s5⟩
  rintro σ H5 ⟨⟨w,rfl⟩,uB,h5,Mh,LB,s5⟩;have Sx:tl≠dl:=fun z=>by rw[z,D.hl]at yU;cases yU
  have Sz:tl≠dm:=fun z=>by rw[z,D.hm]at yU;cases yU
  have g5:=s5 x _ nx (by rw[ao Qi];exact hg);have m5:=s5 dm _ (Ne.symm D.ne) ae;have U0:=s5 al _ OM (by rw[ao ON];exact BQ);have Xl:=s5 ag _ OO (by rw[ao LA];exact HJ);have Xm:=s5 tl _ Sx (by rw[ao Sz];exact yU);have vd:bu (iX km (a9 g)) (a9 l)=some (.ref al):=by rw[ma,Zh (fun z=>BP (dj z))];exact OL
  refine⟨_,rfl,x,aI,dg,_,_,rfl,g5,Gc.cl,Gc.members,iT dl dm,_,rfl,dm, .ref al,rfl,by have:=jV.t (k:=a9 l) m5 Xm;rw[vd]at this;exact this, .inl ⟨rfl,_, .of U0⟩,_,rfl,al,ag,jt,gY,rfl,rfl,U0,Xl,?_,?_⟩
  ·have:=P1.1;exact aF Zt
  have Xn:x≠al:=fun z=>FK (by rw[z];exact UZ)
  have Ji:∀b o,¬S b→H3 b=some o→upd H5 al (.lst (jt++gY)) b=some o:=fun b o hb eb=>by
   rw[ao (fun z=>hb (by rw[z];exact UZ))];exact s5 b o (fun z=>hb (by rw[z];exact D.sl)) (by rw[ao (fun z=>hb (by rw[z];exact D.sm))];exact eb)
  refine qq _ ⟨fun _ h=> .inl h,Ji⟩ ?_;refine⟨dg,dl,dm,uB,iX km (a9 g),_,_,Ji x _ FK hg,FK,D.Ol (tl:=tl) BP BY F8 OL P1 P2 BQ yU LB (by rw[ao (Ne.symm OM)];exact h5) (by rw[ao (Ne.symm ON)];exact m5) ae ?_,fun a b=>(Xk a b).trans (Ln BP Jg Jh (D.ms g m2 F8).2 hE a b),Mh,Nat.le_trans (yn _ _) Mf⟩;intro b o h1 h2 h3 eb;rw[ao h3];exact s5 b o h1 (by rw[ao h2];exact eb)
variable(jd:mg "sorted"=none)
theorem tV:aM ["self"] ["self"] (ar g7):=⟨rfl,rfl,rfl,by decide+kernel,rfl,by decide+kernel,by decide+kernel⟩
include T Gc jd in
theorem tW{f:Addr}{fd:FuncData}(F:ir K "told" "Groups.told" g7 f fd):a7 P w K mg base (cW P w) true 1 f fd ["self"] (w_ aI):=by
 refine F.gI tV Zs (fun bT A outer s H vs Q E hr h hX=>?_)
 ·obtain⟨x,S,E1,B,rfl,_⟩:=h;rfl
 ·obtain⟨x,S,E1,B,rfl,G,hB,q⟩:=h;refine⟨_,(Y' (Zm (@l8 _ _ _ _ _ _ _ _ _ _ _ _ _ _ (by exact rfl) (show bD ["self"] (ar g7) _ ["members"] [] []from⟨rfl,by decide+kernel,by decide+kernel,by decide+kernel,rfl,rfl,by decide+kernel,by decide+kernel,by decide+kernel⟩) (@G9 _ H _ _ _ _ _ (Y6 K Zw) (Zz) (Zz) (Zz)) (fun _ _ _ _ _=>(Y2 (0) (show(["members"]:List Str).Nodup by decide+kernel))) (fun _ _ _ _ _=>iF) (fun _ _ _ _ _=>(Zg (An K) (by exact rfl) jd PyProof.Rows.Boot.«sorted» (Y1 Zw))) (by intro _;rfl)))),?_⟩;obtain⟨dg,dl,dm,kl,km,ld,mm,hg,FK,D,hE,Qh,Mf⟩:=G;refine⟨_,rfl,x,aI,dg,_,_,rfl,hg,Gc.cl,Gc.members,iT dl dm,dm,km,rfl,D.hm,fun o nf R hR=>?_⟩;have nR:R≠dm:=fun z=>by rw[z,ae]at hR;cases hR
  have SA:H R=none:=by rw[ao nR]at hR;exact hR
  refine CP (fun k ys bH H'=>(∃u,bH=[u])∧(∃gs,f9 H' ys gs∧gs.length=k∧∀(i:Nat) ps,gs[i]?=some ps→∃l ms v,km[i]?=some (a9 l,v)∧mm l=some ms∧ps.Perm ms∧ps.Pairwise fun p q=>ij p q=true)∧H' R=some (.lst ys)∧(∀b o,b≠dm→H b=some o→H' b=some o)∧H' dm=some (.r9 o (.dT km))∧∀(i:Nat) a,ys[i]?=some (.ref a)→H a=none∧a≠R) ⟨⟨_,rfl⟩,⟨[], .nil,rfl,fun i ps e=>by simp at e⟩,ae,fun b o hb e=>by rw[ao (aE e SA),ao hb];exact e,by rw[ao (Ne.symm nR),ae],fun i a e=>by simp at e⟩ ?_ ?_ ?_
  ·rintro k ys bH H' _ ⟨_,_,_,_,h4,_⟩;exact h4
  ·rintro k ⟨key,v⟩ ys bH H' hk ⟨⟨u,rfl⟩,⟨gs,W1,hl,Mi⟩,OP,Mj,Jf,Cm⟩;obtain⟨l,el⟩:=D.key _ (Ze hk);have el:key=a9 l:=el;subst el;have vv:=BO D.BN hk;have mv:=D.mv l;cases e:mm l with
   |none=>
    rw[e]at mv;have mv:bu km (a9 l)=none:=mv;rw[mv]at vv;cases vv
   |some ms=>
    rw[e]at mv;obtain⟨a,us,z1,z2,z3,z4⟩:=mv;rw[vv]at z1;cases z1;obtain⟨nd,Dy⟩:=D.ms l ms e;have SD:a≠dm:=fun z=>by rw[z,D.hm]at z2;cases z2
    have T:e6 H H':=fun b v hb=>Mj b _ (fun z=>by rw[z,D.hm]at hb;cases hb) hb
    refine qh ?_;refine⟨_,rfl,a,us,ms,rfl, .of (Mj _ _ SD z2),z3.cI T,nd,by have:=D.vx nd (fun p hp=>⟨l,(Dy p).mp hp⟩);omega,fun D2 U1 qs lO P2 perm pw=>?_⟩;have Qk:D2≠R:=fun z=>by rw[z,OP]at lO;cases lO
    have U2:D2≠dm:=fun z=>by rw[z,Jf]at lO;cases lO
    have OQ:H D2=none:=by
     cases z:H D2 with
     |none=>rfl
     |some o2=>rw[Mj D2 o2 U2 z]at lO;cases lO
    have U3:=W1.1;have R_:k<km.length:=(Y7 hk).1;refine⟨by rw[ao (Ne.symm Qk)];exact OP,ba Zt,⟨_,rfl⟩,⟨gs++[qs],?_,by simp;omega,fun i ps hi=>?_⟩,ae,fun b o hb eb=>?_,?_,fun i a ha=>?_⟩
    ·have W2:f9 (upd H' D2 (.lst U1)) ys gs:=W1.same (ax.upd lO);have W3:f9 (upd H' D2 (.lst U1)) (ys++[.ref D2]) (gs++[qs]):=W2.append (.one ae (P2.same (ax.upd lO)));refine W3.put (fun i e=>?_) (by rw[ao (Ne.symm Qk)];exact OP);by_cases hi:i<ys.length
     ·rw[List.getElem?_append_left hi]at e;exact(Cm i R e).2 rfl
     ·have:=(Y7 e).1;have:i=ys.length:=by simp at this;omega
      subst this;simp at e;exact Qk e
    ·by_cases FY:i<gs.length
     ·rw[List.getElem?_append_left FY]at hi;exact Mi i ps hi
     ·have:=(Y7 hi).1;have:i=gs.length:=by simp at this;omega
      subst this;simp at hi;subst hi;exact⟨l,ms,_,by rw[hl];exact hk,e,perm,pw⟩
    ·rw[ao (aE eb SA),ao (aE eb OQ)];exact Mj b o hb eb
    ·rw[ao (Ne.symm nR),ao (Ne.symm U2)];exact Jf
    ·by_cases hi:i<ys.length
     ·rw[List.getElem?_append_left hi]at ha;exact Cm i a ha
     ·have:=(Y7 ha).1;have:i=ys.length:=by simp at this;omega
      subst this;simp at ha;subst ha;exact⟨OQ,Qk⟩
  ·rintro ys bH H' ⟨_,⟨gs,W1,hl,Mi⟩,OP,Mj,Jf,Cm⟩;refine q _ R ys gs ⟨fun a h=> .inl h,fun b o hb eb=>Mj b o (fun z=>hb (by rw[z];exact D.sm)) eb⟩ SA OP W1 (fun k a h=>(Cm k a h).1) ?_;have at_:∀ps∈gs,∃l ms,mm l=some ms∧ps.Perm ms∧ps.Pairwise (fun p q=>ij p q=true):=fun ps Dv=>by
    obtain⟨i,hi⟩:=List.getElem?_of_mem Dv;obtain⟨l,ms,v,_,h2,h3,h4⟩:=Mi i ps hi;exact⟨l,ms,h2,h3,h4⟩
   refine⟨fun ps Dv=>?_,fun ps Dv=>?_,fun ps Dv a ha b=>?_,fun a ha=>?_,?_⟩
   ·obtain⟨_,_,_,_,h4⟩:=at_ ps Dv
    exact h4
   ·obtain⟨l,ms,h2,h3,_⟩:=at_ ps Dv
    intro z;subst z;have:l∈ms:=((D.ms l ms h2).2 l).mpr (D.self l ms h2);have:=h3.mem_iff.mpr this;cases this
   ·obtain⟨l,ms,h2,h3,_⟩:=at_ ps Dv
    have ha:=((D.ms l ms h2).2 a).mp (h3.mem_iff.mp ha);rw[h3.mem_iff,(D.ms l ms h2).2,hE,ha];exact⟨fun z=>⟨l,rfl,z⟩,fun⟨y,h,z⟩=>by cases h;exact z⟩
   ·obtain⟨l,h1,_⟩:=(hE a a).mp ha;obtain⟨ms,Dy⟩:=D.ml a l h1;have mv:=D.mv l;rw[Dy]at mv;obtain⟨aa,us,z1,_⟩:=mv;obtain⟨i,hi⟩:=yT z1;have h_:i<gs.length:=by rw[hl];exact(Y7 hi).1
    obtain⟨l2,Xo,v,h5,h6,h7,_⟩:=Mi i gs[i] (by simp[h_]);rw[hi]at h5;have:l=l2:=dj (Prod.mk.inj (Zp h5)).1;subst this;refine⟨gs[i],List.getElem_mem h_,h7.mem_iff.mpr ?_⟩;exact((D.ms l Xo h6).2 a).mpr h1
   ·rw[List.pairwise_iff_getElem];intro i j hi hj ur a ha hb;obtain⟨l1,m1,v1,a1,a2,a3,_⟩:=Mi i gs[i] (by simp[hi]);obtain⟨l2,m2,v2,b1,b2,b3,_⟩:=Mi j gs[j] (by simp[hj]);have ha:=((D.ms l1 m1 a2).2 a).mp (a3.mem_iff.mp ha);have hb:=((D.ms l2 m2 b2).2 a).mp (b3.mem_iff.mp hb);rw[ha]at hb;cases hb;have nd:=D.BN;have h1:(km.map (·.1))[i]?=some (a9 l1):=by rw[List.getElem?_map,a1];rfl
    have h2:(km.map (·.1))[j]?=some (a9 l1):=by rw[List.getElem?_map,b1];rfl
    have:=(List.getElem?_inj (Y7 h1).1 nd).mp (h1.trans h2.symm);omega
variable(mq:mO P w K mg base true 1 "Groups" aI ["self"] [] (tG aI))
variable(Hc:I0 K az)
theorem la:aM ["self","trails","worth"] ["self","trails","worth"] (ar fj):=⟨rfl,rfl,rfl,by decide+kernel,rfl,by decide+kernel,by decide+kernel⟩
include T mq Hc in
theorem lb{f:Addr}{fd:FuncData}(F:ir K "__init__" "Gathering.__init__" fj f fd):a7 P w K mg base (cW P w) true 3 f fd ["self","trails","worth"] (qy az aI):=by
 refine F.gI la Zs (fun bT A outer s H vs Q E hr h hX=>?_)
 ·obtain⟨x,dx,tr,W,rfl,_⟩:=h;rfl
 ·obtain⟨x,dx,tr,W,rfl,hx,q⟩:=h;refine⟨_,(Za (Zo K Zw (pv 1)) (Za (Zo K Zw (pv 2)) (Za (Zo K Zw (@Fb _ _ _ _ _ _ _ _ _ _ _ mq (hr.mono (Zy)) hX.pass (Zz) (Zy))) (Y' (Zo K Zw jW))))),?_⟩;refine⟨_,rfl,_,rfl,x,az,dx,_,rfl,hx,Hc.cl,Hc.tJ,Zy,?_⟩;refine⟨_,rfl,_,rfl,x,az,dx,_,rfl,ae,Hc.cl,Hc.worth,by have:=aW "trails" (.ref tr) [];simp at this;omega,?_⟩;rw[fW];refine fun g dg hg Ql eV=>?_
  have OR:x≠g:=fun z=>by rw[←z,ae]at hg;cases hg
  have SE:x≠dg:=fun z=>by rw[←z,ae]at Ql;cases Ql
  have OS:H g=none:=by rw[ao (Ne.symm OR)]at hg;exact hg
  have OT:H dg=none:=by rw[ao (Ne.symm SE)]at Ql;exact Ql
  refine⟨g,dg,rfl,ae,fun H1 S1 ya SF G1=>⟨rfl,?_⟩⟩;have keep:∀b o,b≠x→H b=some o→H1 b=some o:=fun b o hb e=>ya b o (aE e OS) (by rw[ao (aE e OS),ao (aE e OT),ao hb];exact e)
  have k8:H1 x=some (.ins az dx (bp "worth" (.int W) (bp "trails" (.ref tr) []))):=ya x _ OR (by rw[ao OR,ao SE];exact ae);have l2:(bp "worth" (.int W) (bp "trails" (.ref tr) [])).length≤2:=by
   have:=aW "trails" (.ref tr) [];have:=aW "worth" (.int W) (bp "trails" (.ref tr) []);simp at*;omega
  refine⟨_,rfl,x,az,dx,_,rfl,k8,Hc.cl,Hc.groups,Zx,?_⟩;refine fun dk Qm=>?_
  have Ml:x≠dk:=fun z=>by rw[←z,ae]at Qm;cases Qm
  have FN:H1 dk=none:=by rw[ao (Ne.symm Ml)]at Qm;exact Qm
  have SG:H dk=none:=by
   cases e:H dk with
   |none=>rfl
   |some o=>rw[keep dk o (Ne.symm Ml) e]at FN;cases FN
  refine⟨_,rfl,x,az,dx,_,rfl,by rw[ao Ml];exact ae,Hc.cl,Hc.marks,by have:=aW "groups" (.ref g) (bp "worth" (.int W) (bp "trails" (.ref tr) []));omega,?_⟩;rw[Lr];have Qn:¬S1 x:=fun z=>by
   have:=SF x z;rw[ao OR,ao SE,ae]at this;cases this
  have Xp:¬S1 g:=fun z=>by
   have:=SF g z;rw[ae]at this;cases this
  have G2:=G1.nt;have fin:∀b o,b≠x→H1 b=some o→upd (upd (upd H1 x (.ins az dx (bp "groups" (.ref g) (bp "worth" (.int W) (bp "trails" (.ref tr) []))))) dk (.dT [])) x (.ins az dx (jN tr W g dk)) b=some o:=fun b o hb e=>by
   rw[ao hb,ao (aE e FN),ao hb];exact e
  have SH:¬(S1 dk∧NT H1 dk):=fun z=>by
   obtain⟨o,e,_⟩:=z.2;rw[FN]at e;cases e
  refine q _ (fun a=>(S1 a∧NT H1 a)∨a=dk) (fun b o hb e=>fin b o hb (keep b o hb e)) (fun a ha=>?_) ⟨dx,g,dk,[],fun a=>S1 a∧NT H1 a,ae,G2.keep (fun a o hs e=>fin a o (fun z=>Qn (by rw[←z];exact hs.1)) e) (fun b v hb=>fin b _ (fun z=>by rw[z,k8]at hb;cases hb) hb) (fun o e=>fin g o (Ne.symm OR) e),by rw[ao (Ne.symm Ml),ae],fun c=>rfl,Nat.le_refl _,fun a=>Iff.rfl,SH,fun z=>z.elim (fun y=>Qn y.1) Ml,fun z=>z.elim (fun y=>Xp y.1) (fun y=>?_),fun a ha=>?_⟩
  ·rcases ha with ha|ha
   ·have:=SF a ha.1;cases e:H a with
    |none=>rfl
    |some o=>rw[ao (aE e OS),ao (aE e OT),ao (fun z=>Qn (by rw[←z];exact ha.1)),e]at this;cases this
   ·rw[ha];exact SG
  ·obtain⟨YH,dl,dm,kl,Hq,ld,mm,og,_⟩:=G1;rw[y,FN]at og;cases og
  ·rcases ha with⟨h1,o,h2,h3⟩|ha
   ·exact⟨o,fin a o (fun z=>Qn (by rw[←z];exact h1)) h2,h3⟩
   ·exact⟨_,by rw[ha,ao (Ne.symm Ml),ae],fun v=>(ZA)⟩
variable(cQ:eG P w K mg base true 1 aI "unite" ["self","pair","other"] (tH aI))
theorem o7:aM ["self","crossing","pair"] ["self","crossing","pair"] (ar fB):=⟨rfl,rfl,rfl,by decide+kernel,rfl,by decide+kernel,by decide+kernel⟩
include T Hc cQ in
theorem o8{f:Addr}{fd:FuncData}(F:ir K "mark" "Gathering.mark" fB f fd):a7 P w K mg base (cW P w) true 2 f fd ["self","crossing","pair"] (tK az aI):=by
 refine F.gI o7 Zs (fun bT A outer s H vs Q E hr h hX=>?_)
 ·obtain⟨x,tc,tp,tr,W,c,r,S,s1,B,M,rfl,_⟩:=h;rfl
 ·obtain⟨x,tc,tp,tr,W,c,r,S,s1,B,M,rfl,G,hc,hp,Lo,h0,hB,hM,q⟩:=h;have hu:=hr.units;have hu:(A.deeper (PyProof.Rows.envOfC "Gathering.mark" (ar fB) s.heap.objs.size f bT)).units+1<cLine:=Zx;refine⟨_,(Y' (@aX _ _ _ _ _ _ _ _ (Zb (@qf _ _ _ _ _ hu (pv 1) (Y6 K Zw))) (Y' (Zq (Zd (Y6 K Zw) cQ (hr.mono (Zy)) aQ (Y4 (@iE _ _ _ _ _ _ hu (Y6 K Zw) (pv 1) (fun _ _=>rfl)) (Y1 (pv 2)))))) (Y' (@kn _ _ _ _ _ _ _ _ _ hu (Y6 K Zw) (pv 1) (pv 2) (by exact rfl))))),?_⟩;obtain⟨dx,g,dk,km,S1,D⟩:=id G;refine⟨_,rfl,_,rfl,x,az,dx,_,_,rfl,D.ob,Hc.cl,Hc.marks,lF tr W g dk,dk,_,rfl, .t (k:=a9 c) D.hk hc,_,rfl,?_⟩;have mv:=D.mv c;cases e:s1.2 c with
  |none=>
   rw[e]at mv;have mv:bu km (a9 c)=none:=mv;rw[mv];refine eU ?_;have hl:=D.len;refine⟨_,rfl,_,rfl,x,az,dx,_,_,rfl,D.ob,Hc.cl,Hc.marks,lF tr W g dk,_,rfl,dk,_,rfl, .t (k:=a9 c) D.hk hc (ba Zt),?_⟩;obtain⟨u,D'⟩:=D.put (c:=c) hp;refine q _ S u ⟨dx,g,dk,putK km (a9 c) (.ref tp),S1,?_⟩;unfold yV;rw[e];exact D'
  |some r0=>
   rw[e]at mv;obtain⟨t0,v0,Xq⟩:=mv;rw[v0];refine jK ?_;obtain⟨dg,dl,dm,kl,Hq,ld,mm,og,_⟩:=id D.gr;refine⟨_,rfl,x,az,dx,_,_,rfl,D.ob,Hc.cl,Hc.groups,iU tr W g dk,g,dg,_,rfl,og,BM dl dm,_,rfl,x,az,dx,_,_,rfl,D.ob,Hc.cl,Hc.marks,lF tr W g dk,_,rfl,dk,_,rfl,by have:=jV.t (k:=a9 c) D.hk hc;rw[v0]at this;exact this,_,rfl,g,t0,tp,r0,r,S1,s1.1,B,rfl,D.gr,Xq,hp,h0 r0 e,Lo,hB,fun H' u G'=>?_⟩;obtain⟨S',S2,u2,D2⟩:=D.P9 u G';refine q _ S' u2 ⟨dx,g,dk,km,S2,?_⟩;unfold yV;rw[e];exact⟨D2.ob,D2.gr,D2.hk,D2.mv,by have:=D2.len;omega,D2.sS,D2.BN,D2.nx,D2.ng,D2.nt⟩
variable(cc:eG P w K mg base true 1 aI "take_in" ["self","pair"] (w9 aI))
variable(cf:eG P w K mg base true 2 az "mark" ["self","crossing","pair"] (tK az aI))
theorem fq:aM ["self","crossing","pair","later","before"] ["self","crossing","pair"] (ar dG):=⟨rfl,rfl,rfl,by decide+kernel,rfl,by decide+kernel,by decide+kernel⟩
include T bb aZ Hc cQ cc cf in
theorem lP{f:Addr}{fd:FuncData}(F:ir K "go_over" "Gathering.go_over" dG f fd):a7 P w K mg base (cW P w) true 3 f fd ["self","crossing","pair"] (tL az aI aA):=by
 refine F.gI fq Zs (fun bT A outer s H vs Q E hr h hX=>?_)
 ·obtain⟨x,tc,tp,tr,dt,e,b,es,bs,f,o,p,n,m,W,i,j,r,S,s1,B,M,H0,rfl,_⟩:=h;rfl
 ·obtain⟨x,tc,tp,tr,dt,e,b,es,bs,f1,o,p,n,m,W,i,j,r,S,s1,B,M,H0,rfl,G,TR,BA,hc,hp,hi,hj,TP,OK,hs,hB,hM,q⟩:=h;have hu:=hr.units;have hu:(A.deeper (PyProof.Rows.envOfC "Gathering.go_over" (ar dG) s.heap.objs.size f bT)).units+1<cLine:=Zx;refine⟨_,(Zf (Y0 (3) fq.nd (@iE _ _ _ _ _ _ hu (Y6 K Zw) (pv 1) (fun _ _=>rfl))) (Zf (@aX _ _ _ _ _ _ _ _ (@bE _ _ _ (Zd (Y6 K Zw) bb (hr.mono (Zy)) aQ (Y4 (pv 1) (Y1 (pv 2)))) (by intro _;rfl)) (Zf (Zq (Zd (Y6 K Zw) cc (hr.mono (Zy)) aQ (Y1 (pv 2)))) (Y' (Zq (Zd (Y6 K Zw) cQ (hr.mono (Zy)) aQ (Y4 (pv 2) (Y1 (pv 3))))))) aP) (Y' (@bj _ _ _ _ _ _ _ _ hX.own Zv (@bg _ K _ _ _ (Zd (Y6 K Zw) aZ (hr.mono (Zy)) aQ (Y1 (pv 1))) (Zz)) (Y2 (4) fq.nd) (Y' (Zq (Zd Zw cf (hr.mono (Zy)) aQ (Y4 (pv 4) (Y1 (pv 3)))))) (by intro _;rfl))))),?_⟩;obtain⟨dx,g,dk,km,S1,D⟩:=id G;obtain⟨tl,vl,yU⟩:∃tl,bu km (a9 (aR (i+1,j+1)))=some (.ref tl)∧H tl=some (.tup (jo r)):=by have:=D.mv (aR (i+1,j+1));rw[hs]at this;exact this
  obtain⟨Mb,i2,j2,e2,OV⟩:=OK.mr _ _ hs;obtain⟨rfl,rfl⟩:=iH e2;refine⟨fun σ H1=>H1=H∧σ=[some (.ref x),some (.ref tc),some (.ref tp),some (.ref tl),none],⟨_,rfl,x,az,dx,_,_,rfl,D.ob,Hc.cl,Hc.marks,lF tr W g dk,_,rfl,dk,_,rfl,by have:=jV.t (k:=a9 (aR (i+1,j+1))) D.hk hc;rw[vl]at this;exact this,rfl,rfl⟩,?_⟩;rintro σ H1 ⟨rfl,rfl⟩;have T1:=TR.keep BA.same;refine⟨fun σ H2=>σ=[some (.ref x),some (.ref tc),some (.ref tp),some (.ref tl),none]∧∃S',oQ S H1 S' H2∧il H2 az aI x tr W S' (IY f1 o p i j s1 r) (B+1) M,?_,?_⟩
  ·refine⟨_,rfl,x,az,dx,_,_,rfl,D.ob,Hc.cl,Hc.tJ,mh tr W g dk,tr,dt,_,rfl,T1.ob,IV o p e b,_,rfl,_,rfl,tr,dt,e,b,es,bs,f1,o,p,n,m,tc,tp,i+1,j+1,i,j,rfl,T1,hc,hp,Zx,Zx,hi,hj,_,rfl,?_⟩;unfold IY;refine a8 (fun hh=>?_) (fun hh=>?_)
   ·have hh:=of_decide_eq_true hh;rw[Zk hh];refine⟨fun σ H2=>σ=[some (.ref x),some (.ref tc),some (.ref tp),some (.ref tl),none]∧∃S',oQ S H1 S' H2∧il H2 az aI x tr W S' (IX s1.1 (aR (i,j)),s1.2) (B+1) M,?_,?_⟩
    ·obtain⟨dg,dl,dm,kl,Hq,ld,mm,og,_⟩:=id D.gr;refine⟨_,rfl,x,az,dx,_,_,rfl,D.ob,Hc.cl,Hc.groups,iU tr W g dk,g,dg,_,rfl,og,Ff dl dm,_,rfl,g,tp,aR (i,j),S1,s1.1,B,rfl,D.gr,hp,Zx,fun H' Lu u G'=>?_⟩;obtain⟨S',S2,u2,D2⟩:=D.P9 u G';exact⟨rfl,S',u2,dx,g,dk,km,S2,D2⟩
    rintro σ H2 ⟨rfl,S',u2,G2⟩;obtain⟨Qo,g2,Qp,Hq,S2,D2⟩:=id G2;have T:=u2.cI G.nt;obtain⟨dg,dl,dm,kl,YI,ld,mm,og,_⟩:=id D2.gr;refine⟨_,rfl,x,az,Qo,_,_,rfl,D2.ob,Hc.cl,Hc.groups,iU tr W g2 Qp,g2,dg,_,rfl,og,BM dl dm,_,rfl,_,rfl,g2,tp,tl,aR (i,j),r,S2,_,B+1,rfl,D2.gr,T _ _ hp,T _ _ yU, .inr ⟨rfl,rfl⟩, .inl Mb,Zx,fun H' u G'=>?_⟩;obtain⟨P6,S3,u3,D3⟩:=D2.P9 u G';exact⟨rfl,P6,u2.trans u3,Qo,g2,Qp,Hq,S3,D3⟩
   ·have hh:¬dE f1 o p i j=Bq f1 o p (i+1) (j+1):=fun z=>hh (decide_eq_true z)
    rw[Zh hh];exact⟨rfl,S, .same (.refl _),G.cast rfl (Zx) (Nat.le_refl _)⟩
  rintro σ H2 ⟨rfl,S2,u2,G2⟩;obtain⟨Xr,U4,_⟩:=Fm TP OK Mb OV;have B0:=BA.ups u2;have T2:=TR.keep B0.same;have TT:=u2.cI G.nt;obtain⟨Qo,g2,Qp,Hq,S3,D2⟩:=id G2;refine⟨_,rfl,x,az,Qo,_,_,rfl,D2.ob,Hc.cl,Hc.tJ,mh tr W g2 Qp,tr,dt,_,rfl,T2.ob,BK o p e b,_,rfl,tr,dt,e,b,es,bs,f1,o,p,n,m,tc,i,j,rfl,T2,TT _ _ hc,hi,hj,fun H3 rr us s3 rq xj P3=>?_⟩;refine⟨rr,rfl,⟨_, .of xj⟩,?_⟩;have hlen:(bq f1 o p i j).length≤2:=by
   unfold bq;rw[List.length_append];split<;>split<;>simp
  have Xs:=rn TP OV;refine bJ (xs:=us) (fun k σ H4=>(∃w,σ=[some (.ref x),some (.ref tc),some (.ref tp),some (.ref tl),w])∧∃S4,oQ S H1 S4 H4∧il H4 az aI x tr W S4 (((bq f1 o p i j).take k).foldl (fun s c=>yV s c r) (IY f1 o p i j s1 r)) (B+1) (M+k)∧H4 rr=some (.lst us)∧f7 H4 us (bq f1 o p i j)∧¬S4 rr∧H4 tl=some (.tup (jo r))) ?_ ?_ ?_ ?_
  ·have G3:=G2.same s3;refine⟨⟨_,rfl⟩,S2,u2.trans (.same s3),G3.cast Zr (Nat.le_refl _) (Nat.le_refl _),xj,P3,G2.out rq,s3 _ _ (TT _ _ yU)⟩
  ·rintro k σ H4 _ ⟨_,S4,_,_,h4,_⟩;exact .of h4
  ·rintro k v σ H4 hv ⟨⟨w,rfl⟩,S4,u4,G4,h4,P4,n4,t4⟩;have hk:k<(bq f1 o p i j).length:=by rw[←P4.1];exact(Y7 hv).1
   have ek:(bq f1 o p i j)[k]?=some (bq f1 o p i j)[k]:=by simp[hk]
   have i9:(bq f1 o p i j)[k]∈bq f1 o p i j:=List.getElem_mem hk;generalize (bq f1 o p i j)[k]=c at ek i9;obtain⟨t,k1,k2⟩:=P4.2 k c ek;rw[hv]at k1;cases k1;obtain⟨Xu,Xv,_⟩:=tI TP ((bq f1 o p i j).take k) _ Xr (U4.e _ _ Mb) (fun c hc=>Xs c (List.mem_of_mem_take hc));obtain⟨Xw,g4,Xx,YJ,S5,D4⟩:=id G4;refine⟨_,rfl,x,Xw,_,rfl,D4.ob,BR tr W g4 Xx,_,rfl,_,rfl,x,t,tl,tr,W,c,r,S4,_,B+1,M+k,rfl,G4,k2,t4,Xv.e _ _ (U4.e _ _ Mb),fun r0 h=>(Xu.mr _ _ h).1,Zx,Zx,fun H5 S6 u5 G5=>?_⟩;have T5:=u5.cI G4.nt;refine⟨⟨_,rfl⟩,S6,u4.trans u5,G5.cast ?_ (Nat.le_refl _) (Zx),u5.keep rr _ n4 h4,P4.cI T5,u5.out n4 h4,T5 _ _ t4⟩;rw[List.take_succ,ek];simp
  ·rintro σ H4 ⟨⟨w,rfl⟩,S4,u4,G4,h4,P4,n4,t4⟩;refine q _ S4 u4 (G4.cast ?_ (Nat.le_refl _) (by have:=P4.1;omega));rw[P4.1,List.take_length];rfl
variable(iL:eG P w K mg base true 1 aI "has" ["self","pair"] (Av aI))
variable(dH:eG P w K mg base true 3 az "go_over" ["self","crossing","pair"] (tL az aI aA))
theorem fQ:aM ["self","i","j","pair","behind"] ["self","i","j"] (ar eM):=⟨rfl,rfl,rfl,by decide+kernel,rfl,by decide+kernel,by decide+kernel⟩
include T Rc cb Hc cc cf iL dH in
theorem nM{f:Addr}{fd:FuncData}(F:ir K "visit" "Gathering.visit" eM f fd):a7 P w K mg base (cW P w) true 4 f fd ["self","i","j"] (qz az aI aA):=by
 refine F.gI fQ Zs (fun bT A outer s H vs Q E hr h hX=>?_)
 ·obtain⟨x,tr,dt,e,b,es,bs,f,o,p,n,m,W,i,j,S,s1,B,M,H0,rfl,_⟩:=h;rfl
 ·obtain⟨x,tr,dt,e,b,es,bs,f1,o,p,n,m,W,i,j,S,s1,B,M,H0,rfl,G,TR,BA,hi,hj,hn,hm,TP,OK,hB,hM,q⟩:=h;have hu:=hr.units;have hu:(A.deeper (PyProof.Rows.envOfC "Gathering.visit" (ar eM) s.heap.objs.size f bT)).units+1<cLine:=Zx;refine⟨_,(Zf (Y0 (3) fQ.nd (@eX _ _ _ _ _ (Y4 (pv 1) (Y1 (pv 2))))) (Zf (Y0 (4) fQ.nd (@eX _ _ _ _ _ (Y4 (Y8 bx (pv 1) ai) (Y1 (Y8 bx (pv 2) ai))))) (Zf (@aX _ _ _ _ _ _ _ _ (Zj jm (Y3 (Y3 (Y6 K (Y6 K Zw)) (pv 1)) (pv 2)) (Y6 K Zw) (aV _)) (Y' (Zq (Zd (Y6 K Zw) cc (hr.mono (Zy)) aQ (Y1 (pv 3))))) aP) (Zf (@aX _ _ _ _ _ _ _ _ (Zb (@qf _ _ _ _ _ hu (pv 4) (Y6 K Zw))) (Y' (Zq (Zd Zw dH (hr.mono (Zy)) aQ (Y4 (pv 4) (Y1 (pv 3)))))) aP) (Y' (@aX _ _ _ _ _ _ _ _ (@PW.pt _ _ _ (@pw_and _ _ _ _ _ _ _ (@bE _ _ _ (Zd (Y6 K Zw) iL (hr.mono (Zy)) aQ (Y1 (pv 3))) (by intro _;rfl)) (@pw_and1 _ _ _ _ (@bE _ _ _ (Zd (Y6 K Zw) cb (hr.mono (Zy)) aQ (Y1 (pv 3))) (by intro _;rfl))))) (Y' (Zq (Zd Zw cf (hr.mono (Zy)) aQ (Y4 (pv 3) (Y1 (pv 3)))))) aP)))))),?_⟩;refine⟨fun σ H1=>∃t,σ=[some (.ref x),some (.int i),some (.int j),some (.ref t),none]∧ax H H1∧H1 t=some (.tup (jo (aR (i,j)))),⟨_,rfl,_,rfl,aF Zr,fun t ht=>⟨t,rfl,ax.upd ht,ae⟩⟩,?_⟩;rintro σ H1 ⟨t,rfl,s2,ht⟩;refine⟨fun σ H2=>∃u,σ=[some (.ref x),some (.int i),some (.int j),some (.ref t),some (.ref u)]∧ax H1 H2∧H2 u=some (.tup (jo (aR (i+1,j+1)))),⟨_,rfl,_,_,rfl,rfl,_,rfl,_,_,rfl,rfl,aF Zr,fun u hu=>⟨u,rfl,ax.upd hu,ae⟩⟩,?_⟩;rintro σ H2 ⟨u,rfl,s3,P0⟩;have uw:=s3 _ _ ht;have Mm:=s2.trans s3;have G2:=G.same Mm;have B0:=BA.more Mm;have T2:=TR.keep B0.same;obtain⟨rb,g1,g2,g3⟩:=T2.te.at hi;refine⟨fun σ H3=>σ=[some (.ref x),some (.int i),some (.int j),some (.ref t),some (.ref u)]∧∃S',oQ S H2 S' H3∧il H3 az aI x tr W S' (Hn f1 o p W i j s1) (B+1) M,?_,?_⟩
  ·obtain⟨dx,g,dk,km,S1,D⟩:=id G2;refine⟨_,rfl,x,az,dx,_,_,rfl,D.ob,Hc.cl,Hc.tJ,mh tr W g dk,tr,aA,dt,_,_,rfl,T2.ob,Rc.cl,Rc.ku,ig o p e b,_,rfl,e,_,_,_,rfl,rfl, .of T2.he,av g2,_,rfl,rb,_,_,_,rfl,rfl, .of g3,av (dh hj),_,rfl,x,az,dx,_,_,rfl,D.ob,Hc.cl,Hc.worth,Fs tr W g dk,?_⟩;have Je:decide (bB (dE f1 o p i j)=V.int W)=decide (dE f1 o p i j=some W):=by cases dE f1 o p i j<;>simp[bB]
   refine⟨by cases dE f1 o p i j<;>rfl,_,rfl,?_⟩;rw[Je];unfold Hn;refine a8 (fun hh=>?_) (fun hh=>?_)
   ·have hh:=of_decide_eq_true hh;rw[Zk hh];obtain⟨dg,dl,dm,kl,Hq,ld,mm,og,_⟩:=id D.gr;refine⟨_,rfl,x,az,dx,_,_,rfl,D.ob,Hc.cl,Hc.groups,iU tr W g dk,g,dg,_,rfl,og,Ff dl dm,_,rfl,g,t,aR (i,j),S1,s1.1,B,rfl,D.gr,uw,Zx,fun H' Lu u G'=>?_⟩;obtain⟨S',S2,u2,D2⟩:=D.P9 u G';exact⟨rfl,S',u2,dx,g,dk,km,S2,D2⟩
   ·have hh:¬dE f1 o p i j=some W:=fun z=>hh (decide_eq_true z)
    rw[Zh hh];exact⟨rfl,S, .same (.refl _),G2.cast rfl (Zx) (Nat.le_refl _)⟩
  rintro σ H3 ⟨rfl,S3,u3,G3⟩;have Qq:=u3.cI G2.nt;have HK:=B0.ups u3;obtain⟨Xy,GW1,_⟩:=Fn OK i j;refine⟨fun σ H4=>σ=[some (.ref x),some (.int i),some (.int j),some (.ref t),some (.ref u)]∧∃S',oQ S3 H3 S' H4∧il H4 az aI x tr W S' (Dz f1 o p W i j s1) (B+2) (M+2),?_,?_⟩
  ·obtain⟨dx,g,dk,km,S1,D⟩:=id G3;refine⟨_,rfl,_,rfl,x,az,dx,_,_,rfl,D.ob,Hc.cl,Hc.marks,lF tr W g dk,dk,_,rfl, .t (k:=a9 (aR (i+1,j+1))) D.hk (Qq _ _ P0),_,rfl,?_⟩;have mv:=D.mv (aR (i+1,j+1));have ee:(Hn f1 o p W i j s1).2=s1.2:=rfl;rw[ee]at mv;unfold Dz;cases e9:s1.2 (aR (i+1,j+1))with
   |none=>
    rw[e9]at mv;have mv:bu km (a9 (aR (i+1,j+1)))=none:=mv;rw[mv];refine eU ?_;exact⟨rfl,S3, .same (.refl _),G3.cast rfl (Zx) (Zx)⟩
   |some r=>
    rw[e9]at mv;obtain⟨tl,vl,yU⟩:=mv;rw[vl];refine jK ?_;exact⟨_,rfl,x,dx,_,rfl,D.ob,Ho tr W g dk,_,rfl,_,rfl,x,u,t,tr,dt,e,b,es,bs,f1,o,p,n,m,W,i,j,r,S3,_,B+1,M,H0,rfl,G3,TR,HK,Qq _ _ P0,Qq _ _ uw,hi,hj,TP,Xy,e9,Zx,Zx,fun H' S' u G'=>⟨rfl,S',u,G'⟩⟩
  rintro σ H4 ⟨rfl,S4,u4,G4⟩;have Xz:=u4.cI G3.nt;have XA:=HK.ups u4;have T4:=TR.keep XA.same;have Qr:=Xz _ _ (Qq _ _ uw);obtain⟨XB,GW2,_⟩:=Fo TP OK i j;have uu:oQ S H S4 H4:=(oQ.same Mm).trans (u3.trans u4);obtain⟨dx,g,dk,km,S1,D⟩:=id G4;obtain⟨dg,dl,dm,kl,Hq,ld,mm,og,_⟩:=id D.gr;refine⟨_,rfl,x,az,dx,_,_,rfl,D.ob,Hc.cl,Hc.groups,iU tr W g dk,g,dg,_,rfl,og,Oi dl dm,_,rfl,g,t,aR (i,j),S1,_,B+2,rfl,D.gr,Qr,fun b1 jP=>?_⟩;refine⟨_,rfl,?_⟩;refine a8 (fun hh=>?_) (fun hh=>?_)
  ·refine⟨_,rfl,x,az,dx,_,_,rfl,D.ob,Hc.cl,Hc.tJ,mh tr W g dk,tr,dt,_,rfl,T4.ob,Fe o p e b,_,rfl,tr,dt,e,b,es,bs,f1,o,p,n,m,t,i,j,rfl,T4,Qr,Zx,Zx,_,rfl,?_⟩;refine a8 (fun h2=>?_) (fun h2=>?_)
   ·have n6:=jP.mp hh;refine⟨_,rfl,x,dx,_,rfl,D.ob,BR tr W g dk,_,rfl,_,rfl,x,t,t,tr,W,aR (i,j),aR (i,j),S4,_,B+2,M+2,rfl,G4,Qr,Qr,n6,fun r0 h=>(XB.mr _ _ h).1,Zx,Zx,fun H5 S5 u5 G5=>?_⟩;refine q _ S5 (uu.trans u5) ?_;unfold Z1;rw[Zk ⟨n6,h2⟩];exact G5
   ·refine q _ S4 uu (G4.cast ?_ Zt (Zx));unfold Z1;rw[Zh (fun z=>h2 z.2)]
  ·refine eU ?_;refine q _ S4 uu (G4.cast ?_ Zt (Zx));unfold Z1;rw[Zh (fun z=>hh (jP.mpr z.1))]
variable(iM:mO P w K mg base true 3 "Gathering" az ["self","trails","worth"] [] (qy az aI))
variable(eQ:eG P w K mg base true 4 az "visit" ["self","i","j"] (qz az aI aA))
variable(hG:eG P w K mg base true 1 aI "told" ["self"] (w_ aI))
theorem gm:aM ["trails","worth","gathering","i","j"] ["trails","worth"] (ar jO):=⟨rfl,rfl,rfl,by decide+kernel,rfl,by decide+kernel,by decide+kernel⟩
include T Rc Hc iM eQ hG in
theorem tX{f:Addr}{fd:FuncData}(F:jh K "best_groups" "best_groups" jO f fd):a7 P w K mg base (cW P w) true 5 f fd ["trails","worth"] (Ay aA):=by
 refine F.gI gm Zs (fun bT A outer s H vs Q E hr h hX=>?_)
 ·obtain⟨tr,dt,e,b,es,bs,f,o,p,n,m,W,rfl,_⟩:=h;rfl
 ·obtain⟨tr,dt,e,b,es,bs,f1,o,p,n,m,W,rfl,TR,IT,U5,hn,hm,TP,q⟩:=h;refine⟨_,(Zf (Y0 (2) gm.nd (@sg _ _ _ _ _ _ _ _ _ _ _ _ _ _ iM (hr.mono (Zy)) hX.pass (Y4 Zw (Y1 (pv 1))) (Zz) (Zy) (Zz) (Zz))) (Zf (@bj _ _ _ _ _ _ _ _ hX.own Zv (@vM _ _ _ _ _ _ _ _ (by exact rfl) T.dX (Y4 (Y8 bY (Y5 (aG K) (by exact rfl) T.cD (Y1 (Y6 K Zw))) ai) (Y4 (@qY _ _ _ _ _ _ lq ai) (Y1 (@qY _ _ _ _ _ _ lq ai)))) (Zz) (Zz)) (Y2 (3) gm.nd) (Y' (@bj _ _ _ _ _ _ _ _ hX.own Zv (@vM _ _ _ _ _ _ _ _ (by exact rfl) T.dX (Y4 (Y8 bY (Y5 (aG K) (by exact rfl) T.cD (Y1 (Y3 (Y6 K Zw) (pv 3)))) ai) (Y4 (@qY _ _ _ _ _ _ lq ai) (Y1 (@qY _ _ _ _ _ _ lq ai)))) (Zz) (Zz)) (Y2 (4) gm.nd) (Y' (Zq (Zd (pv 2) eQ (hr.mono (Zy)) aQ (Y4 (pv 3) (Y1 (pv 4)))))) (by intro _;rfl))) (by intro _;rfl)) (Y' (Zm (@Cr _ _ _ _ _ _ _ _ _ _ _ _ _ (Y6 K (pv 2)) hG (hr.mono (Zy)) aQ (Zz)))))),?_⟩;refine⟨fun σ H1=>∃gx S,σ=[some (.ref tr),some (.int W),some (.ref gx),none,none]∧Base H H1 S∧il H1 az aI gx tr W S (fun _ _=>False,fun _=>none) 0 0,?_,?_⟩
  ·refine⟨_,rfl,_,rfl,fun y dy hy Ly eV=>⟨y,dy,tr,W,rfl,ae,fun H' S sb fr G=>⟨rfl,y,S,rfl,⟨SameBut.ZI hy Ly sb,fun a ha=>?_⟩,G⟩⟩⟩;have:=fr a ha;cases e9:H a with
   |none=>rfl
   |some o9=>rw[ao (aE e9 hy),ao (aE e9 Ly),e9]at this;cases this
  rintro σ H1 ⟨gx,S,rfl,BA,G⟩;have HC:es.length=n:=TR.te.1;have V0:=Vd.start f1 o p W n m;refine⟨fun σ H2=>(∃u v,σ=[some (.ref tr),some (.int W),some (.ref gx),u,v])∧∃S s B M,Base H H2 S∧il H2 az aI gx tr W S s B M∧Vd f1 o p W (Vb n m 0 0) s∧B≤6000,?_,?_⟩
  ·have T1:=TR.keep BA.same;refine⟨_,rfl,tr,aA,dt,_,_,rfl,T1.ob,Rc.cl,Rc.ku,ig o p e b,e,_,rfl, .inl (.of T1.he),_,_,rfl,rfl,_,rfl,_,rfl,_,_,rfl,⟨by rw[List.length_map,HC];lia,by rw[List.length_map,HC];lia,Zy,Zy⟩,?_⟩;have en:((((es.map V.ref).length:Nat):Int)-1- -1).toNat=n:=by rw[List.length_map,HC];lia
   rw[en];refine yQ (fun k σ H2=>(∃u v,σ=[some (.ref tr),some (.int W),some (.ref gx),u,v])∧∃S s B M,Base H H2 S∧il H2 az aI gx tr W S s B M∧Vd f1 o p W (Vb n m (n-k) 0) s∧B≤2*(k*m)∧M≤3*(k*m)) ⟨⟨_,_,rfl⟩,S,_,0,0,BA,G,V0,by lia,by lia⟩ ?_ ?_
   ·rintro k σ H2 hk ⟨⟨u,v,rfl⟩,S2,s2,B,M,B0,G2,V2,hB,hM⟩;have ei:(((es.map V.ref).length:Nat):Int)-1-(k:Int)=((n-1-k:Nat):Int):=by rw[List.length_map,HC];lia
    rw[ei];have T2:=TR.keep B0.same;obtain⟨rb,g1,g2,g3⟩:=T2.te.at (show n-1-k<n by lia);have V2:Vd f1 o p W (Vb n m (n-1-k) m) s2:=Vd.turn (by rw[show n-1-k+1=n-k by lia];exact V2);have YK:(k+1)*m≤n*m:=Nat.mul_le_mul_right m Zu;have YL:(k+1)*m=k*m+m:=Nat.succ_mul k m;have lm:∀g:Nat→Option Int,(c_ m g).length=m:=fun g=>by simp[c_]
    refine⟨_,rfl,tr,aA,dt,_,_,rfl,T2.ob,Rc.cl,Rc.ku,ig o p e b,_,rfl,e,_,_,_,rfl,rfl, .of T2.he,av g2,rb,_,rfl, .inl (.of g3),_,_,rfl,rfl,_,rfl,_,rfl,_,_,rfl,⟨by rw[lm];lia,by rw[lm];lia,Zy,Zy⟩,?_⟩;have XC:((((c_ m (dE f1 o p (n-1-k))).length:Nat):Int)-1- -1).toNat=m:=by rw[lm];lia
    rw[XC];refine yQ (fun l σ H3=>(∃v,σ=[some (.ref tr),some (.int W),some (.ref gx),some (.int ((n-1-k:Nat):Int)),v])∧∃S s B M,Base H H3 S∧il H3 az aI gx tr W S s B M∧Vd f1 o p W (Vb n m (n-1-k) (m-l)) s∧B≤2*(k*m+l)∧M≤3*(k*m+l)) ⟨⟨_,rfl⟩,S2,s2,B,M,B0,G2,V2,hB,hM⟩ ?_ ?_
    ·rintro l σ H3 hl ⟨⟨v3,rfl⟩,S3,s3,B3,M3,HK,G3,V3,XD,XE⟩;have ej:(((c_ m (dE f1 o p (n-1-k))).length:Nat):Int)-1-(l:Int)=((m-1-l:Nat):Int):=by rw[lm];lia
     rw[ej];obtain⟨dx,g,dk,km,S1,D⟩:=id G3;have V3:Vd f1 o p W (Vb n m (n-1-k) (m-1-l+1)) s3:=by rw[show m-1-l+1=m-l by lia];exact V3
     refine⟨_,rfl,gx,dx,_,rfl,D.ob,Ft tr W g dk,_,rfl,_,rfl,gx,tr,dt,e,b,es,bs,f1,o,p,n,m,W,n-1-k,m-1-l,S3,s3,B3,M3,H,rfl,G3,TR,HK,by lia,by lia,hn,hm,TP,V3.ok,by lia,by lia,fun H4 S4 u4 G4=>?_⟩;refine⟨⟨_,rfl⟩,S4,_,_,_,HK.ups u4,G4,?_,by lia,by lia⟩;have:=V3.next TP (show n-1-k<n by lia) (show m-1-l<m by lia);rw[show m-(l+1)=m-1-l by lia];exact this
    ·rintro σ H3 ⟨⟨v3,rfl⟩,S3,s3,B3,M3,HK,G3,V3,XD,XE⟩;refine⟨⟨_,_,rfl⟩,S3,s3,B3,M3,HK,G3,?_,by lia,by lia⟩;rw[show n-(k+1)=n-1-k by lia,show(0:Nat)=m-m by lia];exact V3
   ·rintro σ H2 ⟨⟨u,v,rfl⟩,S2,s2,B,M,B0,G2,V2,hB,hM⟩;rw[Nat.sub_self]at V2;exact⟨⟨_,_,rfl⟩,S2,s2,B,M,B0,G2,V2,by lia⟩
  rintro σ H2 ⟨⟨u,v,rfl⟩,S2,s2,B,M,B0,G2,V2,hB⟩;obtain⟨dx,g,dk,km,S1,D⟩:=id G2;obtain⟨dg,dl,dm,kl,Hq,ld,mm,og,_⟩:=id D.gr;have HG:=fun a b=>V2.R' TP IT a b
  refine⟨_,rfl,gx,az,dx,_,_,rfl,D.ob,Hc.cl,Hc.groups,iU tr W g dk,g,dg,_,rfl,og,Ll dl dm,g,S1,_,B,rfl,D.gr,by lia,fun H3 r us gs u3 rq xj W3 LV TD=>?_⟩;have HK:Base H H2 S1:=⟨B0.same,fun a h=>B0.free a ((D.sS a).mpr (.inl h))⟩
  exact q _ r us gs (HK.ups u3).same (B0.same.free rq) xj W3 (fun k a h=>B0.same.free (LV k a h)) (TD.iff HG)
theorem nN:aM ["taken","shut","pair"] ["taken"] (ar mn):=⟨rfl,rfl,rfl,by decide+kernel,rfl,by decide+kernel,by decide+kernel⟩
include T in
theorem AK{f:Addr}{fd:FuncData}(F:jh K "shut_by" "shut_by" mn f fd):a7 P w K mg base (cW P w) true 1 f fd ["taken"] wR:=by
 refine F.gI nN Zs (fun bT A outer s H vs Q E hr h hX=>?_)
 ·obtain⟨v,shut,rfl,_⟩:=h;rfl
 ·obtain⟨v,shut,rfl,TV,hlen,q⟩:=h;have hu:=hr.units;have hu:(A.deeper (PyProof.Rows.envOfC "shut_by" (ar mn) s.heap.objs.size f bT)).units+1<cLine:=Zx;refine⟨_,(Za (Y0 (1) nN.nd jW) (Zf (@aX _ _ _ _ _ _ _ _ (Zb (@oa _ _ _ _ _ (pv 0))) (Y' (@bj _ _ _ _ _ _ _ _ hX.own Zv (@bg _ K _ _ _ (pv 0) (Zz)) (Y2 (2) nN.nd) (Y' (@kn _ _ _ _ _ _ _ _ _ hu (pv 1) (pv 2) cB Zv)) (by intro _;rfl))) aP) (Y' (Zm (pv 1))))),?_⟩;refine fun d hd=>?_
  refine⟨fun σ H1=>(∃u,σ=[some v,some (.ref d),u])∧ax H H1∧∃kvs,H1 d=some (.dT kvs)∧mR kvs shut,?_,?_⟩
  ·refine⟨_,rfl,_,rfl,?_⟩;rcases TV with⟨rfl,rfl⟩|⟨l,us,rfl,hl,P1⟩
   ·refine a8 (fun hh=>absurd hh Zr) (fun _=>?_);exact⟨⟨_,rfl⟩,ax.upd hd,[],ae,fun p=>by simp[sI]⟩
   ·refine a8 (fun _=>?_) (fun hh=>absurd Zr hh);have HF:=P1.1;refine⟨_,rfl,l,rfl,⟨_, .of (ax.upd hd _ _ hl)⟩,?_⟩;refine bJ (xs:=us) (fun i σ H'=>(∃u,σ=[some (.ref l),some (.ref d),u])∧ax H H'∧∃kvs,H' d=some (.dT kvs)∧kvs.length≤i∧mR kvs (shut.take i)) ?_ ?_ ?_ ?_
    ·exact⟨⟨_,rfl⟩,ax.upd hd,[],ae,Nat.le_refl _,fun p=>by simp[sI]⟩
    ·rintro i σ H' _ ⟨_,s1,_⟩;exact .of (s1 _ _ hl)
    ·rintro i x σ H' hx ⟨⟨u,rfl⟩,s1,kvs,hD,hk,hS⟩;have hi:i<shut.length:=by rw[←HF];exact(Y7 hx).1
     obtain⟨t,xZ,uw⟩:=P1.Kn hi;rw[hx]at xZ;cases xZ;refine⟨_,rfl,_,rfl,d,_,rfl, .t (k:=a9 (pr shut i)) hD (s1 _ _ uw) (ba Zt),⟨_,rfl⟩,s1.eZ hd,_,ae,Nat.le_trans (eY _ _ _) (Zx),fun p=>?_⟩;have e1:shut.take (i+1)=shut.take i++[pr shut i]:=by rw[List.take_succ,IF hi];rfl
     rw[iY,e1];by_cases hp:p=pr shut i
     ·rw[Zk (by rw[hp])];simp[hp]
     ·rw[Zh (fun z=>hp ?_),hS p]
      ·simp[hp]
      ·simp only[a9,List.cons.injEq,Sum.inl.injEq,and_true]at z;exact Prod.ext z.1 z.2
    ·rintro σ H' ⟨⟨u,rfl⟩,s1,kvs,hD,_,hS⟩;rw[HF,List.take_length]at hS;exact⟨⟨_,rfl⟩,s1,kvs,hD,hS⟩
  rintro σ H1 ⟨⟨u,rfl⟩,s1,kvs,hD,hS⟩;exact⟨_,rfl,q H1 d kvs s1 hD hS⟩
variable(mw:bK P w K mg base true 1 "shut_by" ["taken"] wR)
variable(d_:eG P w K mg base true 1 aT "pair_worth" ["self","x","y"] (wI aT))
theorem dO:aM ["first","second","terms","taken","shut","worths","i","x","row"] ["first","second","terms","taken"] (ar fH):=⟨rfl,rfl,rfl,by decide+kernel,rfl,by decide+kernel,by decide+kernel⟩
include T Tc mw d_ in
theorem tY{f:Addr}{fd:FuncData}(F:jh K "open_worths" "open_worths" fH f fd):a7 P w K mg base (cW P w) true 2 f fd ["first","second","terms","taken"] (tN aT):=by
 refine F.gI dO Zs (fun bT A outer s H vs Q E hr h hX=>?_)
 ·obtain⟨f,g,t,v,c,shut,rfl,_⟩:=h;rfl
 ·obtain⟨f1,g,t,v,c,shut,rfl,hf,hg,TF,TV,Ri,R4,U3,q⟩:=h;have hu:=hr.units;have hu:(A.deeper (PyProof.Rows.envOfC "open_worths" (ar fH) s.heap.objs.size f bT)).units+1<cLine:=Zx;have lx:(c.xs.map V.str).length=c.xs.length:=List.length_map ..;have ly:(c.ys.map V.str).length=c.ys.length:=List.length_map ..;refine⟨_,(Zf (@aH _ _ (4) _ _ _ _ dO.nd Zv (Or.inr rfl) (YZ mw aQ (Y1 (pv 3))) (Zz) (by exact .inl rfl)) (Zf (Y0 (5) dO.nd (@bM _ _ _ _ af)) (Zf (@bj _ _ _ _ _ _ _ _ hX.own Zv (@oH _ K _ _ _ _ _ _ _ (by exact rfl) T.jn (Y1 Zw) (Zz) (Zz)) (@f6 _ K _ _ _ (2) _ (by exact rfl) (@bf _ _ _ _ _ (@aL _ _ (6) _ dO.nd Zv (Or.inr rfl) (by first|exact .inl rfl|exact .inr rfl|assumption)) (@bf _ _ _ _ _ (@aL _ _ (7) _ dO.nd Zv (Or.inr rfl) (by first|exact .inl rfl|exact .inr rfl|assumption)) fX (Zz)) (Zz)) (Zz) (Zz) (Zz)) (Zf (@oC _ _ _ _ _ _ _ _ _ _ _ _ _ _ _ (8) _ _ (by exact rfl) dO.nd Zv (by exact rfl) (show bD ["first","second","terms","taken","shut","worths","i","x","row"] (ar fH) _ ["j","y"] [6,4,2,7] ["i","shut","terms","x"]from⟨rfl,by decide+kernel,by decide+kernel,by decide+kernel,rfl,rfl,by decide+kernel,by decide+kernel,by decide+kernel⟩) (@oH _ K _ _ _ _ _ _ _ (by exact rfl) T.jn (Y1 (pv 1)) (Zz) (Zz)) (fun _ _ _ _ _=>(@f6 _ K _ _ _ (2) _ (by exact rfl) (@bf _ _ _ _ _ (Y2 (0) (show(["j","y","i","shut","terms","x"]:List Str).Nodup by decide+kernel)) (@bf _ _ _ _ _ (Y2 (1) (show(["j","y","i","shut","terms","x"]:List Str).Nodup by decide+kernel)) fX (Zz)) (Zz)) (Zz) (Zz) (Zz))) (fun _ _ _ _ _=>iF) (fun _ _ _ _ _=>(@oe _ _ _ _ _ _ _ _ (Zb (@qf _ _ _ _ _ hu (@eX _ _ _ _ _ (Y4 (pv 2) (Y1 Zw))) (pv 3))) jJ (Zd (pv 4) d_ (hr.mono (Zy)) aQ (Y4 (pv 5) (Y1 (pv 1)))))) (Zz) (by intro _;rfl)) (Y' (Zq (Y_ K PySem.F.plainAttrs_list PySem.F.slot_list_append PySem.F.type_list_append bC (pv 5) (Y1 (pv 8)))))) (by intro _;rfl)) (Y' (Zm (pv 5)))))),?_⟩;refine⟨fun σ H1=>∃d kvs,σ=[some (.ref f1),some (.ref g),some (.ref t),some v,some (.ref d),none,none,none,none]∧ax H H1∧H1 d=some (.dT kvs)∧mR kvs shut,?_,?_⟩
  ·exact⟨_,rfl,v,shut,rfl,TV,Ri,fun H1 d kvs s1 hd hS=>⟨d,kvs,rfl,s1,hd,hS⟩⟩
  rintro σ H1 ⟨d,kvs,rfl,s1,XF,hS⟩;refine⟨fun σ H2=>∃e,σ=[some (.ref f1),some (.ref g),some (.ref t),some v,some (.ref d),some (.ref e),none,none,none]∧ax H1 H2∧H1 e=none∧H2 e=some (.lst []),?_,?_⟩
  ·exact⟨aF Zr,fun e he=>⟨e,rfl,ax.upd he,he,ae⟩⟩
  rintro σ H2 ⟨e,rfl,s2,Jb,Md⟩;refine⟨fun σ H3=>(∃u1 u2 u3,σ=[some (.ref f1),some (.ref g),some (.ref t),some v,some (.ref d),some (.ref e),u1,u2,u3])∧ax H1 H3∧∃as:List Addr,H3 e=some (.lst (as.map V.ref))∧i8 H3 as (i7 c shut) c.xs.length c.ys.length∧(∀a∈as,H1 a=none∧a≠e)∧as.Nodup,?_,?_⟩
  ·refine⟨_,rfl,f1,rfl,⟨_, .of (s2 _ _ (s1 _ _ hf))⟩,?_⟩;refine yz (xs:=c.xs.map V.str) (fun i σ H'=>(∃u1 u2 u3,σ=[some (.ref f1),some (.ref g),some (.ref t),some v,some (.ref d),some (.ref e),u1,u2,u3])∧ax H1 H'∧∃as:List Addr,H' e=some (.lst (as.map V.ref))∧i8 H' as (i7 c shut) i c.ys.length∧(∀a∈as,H1 a=none∧a≠e)∧as.Nodup) ?_ ?_ ?_ ?_
   ·exact⟨⟨_,_,_,rfl⟩,s2,[],Md,⟨rfl,fun i a h=>by simp at h⟩,(fun a h=>by cases h), .nil⟩
   ·rintro i σ H' _ ⟨_,s3,_⟩;exact .of (s3 _ _ (s1 _ _ hf))
   ·rintro i x T' σ H' hx ⟨⟨u1,u2,u3,rfl⟩,s3,as,F6,TA,hn,F2⟩ hT;obtain⟨wx,Qs,rfl⟩:=l' hx;have hi:i<c.xs.length:=(Y7 Qs).1;have s4:ax H1 (upd H' T' (.tup [.int i, .str wx])):=s3.trans (ax.upd hT);have Qt:=ax.upd (o:= .tup [.int i, .str wx]) hT _ _ F6;have Qu:=TA.same (ax.upd (o:= .tup [.int i, .str wx]) hT);refine⟨T',_,rfl, .of ae,rfl,_,_,rfl,_,_,rfl,rfl,?_⟩;generalize upd H' T' (.tup [.int i, .str wx])=H4 at s4 Qt Qu;clear TA F6 s3 hT;refine⟨fun σ H5=>∃r,σ=[some (.ref f1),some (.ref g),some (.ref t),some v,some (.ref d),some (.ref e),some (.int i),some (.str wx),some (.ref r)]∧ax H4 H5∧H4 r=none∧H5 r=some (.lst (c_ c.ys.length (i7 c shut i))),?_,?_⟩
    ·have U6:=s4 _ _ (s1 _ _ hg);refine⟨_,rfl,g,rfl,⟨_, .of U6⟩,fun D hD=>?_⟩;refine vH (xs:=c.ys.map V.str) (fun j ys bH H5=>(∃w1 w2,bH=[w1,w2,some (.int i),some (.ref d),some (.ref t),some (.str wx)])∧ys=c_ j (i7 c shut i)∧H5 D=some (.lst ys)∧ax H4 H5) ⟨⟨_,_,rfl⟩,rfl,ae,ax.upd hD⟩ ?_ ?_ ?_
     ·rintro j ys bH H5 _ ⟨_,_,_,s5⟩;exact .of (s5 _ _ U6)
     ·rintro j y T2 ys bH H5 hy ⟨⟨w1,w2,rfl⟩,rfl,F9,s5⟩ OG;obtain⟨wy,DC,rfl⟩:=l' hy;have hj:j<c.ys.length:=(Y7 DC).1;have s6:ax H4 (upd H5 T2 (.tup [.int j, .str wy])):=s5.trans (ax.upd OG);have OU:=ax.upd (o:= .tup [.int j, .str wy]) OG _ _ F9;refine⟨T2,_,rfl, .of ae,rfl,_,_,rfl,_,_,rfl,rfl,?_⟩;generalize upd H5 T2 (.tup [.int j, .str wy])=H6 at s6 OU;refine wB ?_;refine⟨_,rfl,_,rfl,aF Zr,fun p hp=>?_⟩;have s7:=s6.trans (ax.upd (o:= .tup [.int (i:Int), .int (j:Int)]) hp);have sA:=s4.trans s7;have Mn:=ax.upd (o:= .tup [.int (i:Int), .int (j:Int)]) hp _ _ OU;have len:(c_ j (i7 c shut i)).length<sizeLine:=ba (by rw[de];omega);have sn:∀u,u=i7 c shut i j→c_ j (i7 c shut i)++[bB u]=c_ (j+1) (i7 c shut i):=fun u e=>by rw[qo,e]
      have SI:c.pw ((i:Int),(j:Int))=dD c.same c.fs wx wy:=Case.pw_of (by rw[sX];exact Qs) (by rw[sX];exact DC);refine⟨_,rfl,d,_,rfl, .t (k:=a9 ((i:Int),(j:Int))) (sA _ _ XF) ae,_,rfl,?_⟩;rw[hS];refine a8 (fun h1=>?_) (fun h1=>?_)
      ·have h1:((i:Int),(j:Int))∈shut:=by simpa using h1
       refine⟨Mn,len,⟨_,_,rfl⟩,?_,ae,s7.eZ hD⟩;exact sn none (by simp[i7,n8,h1])
      ·have h1:((i:Int),(j:Int))∉shut:=by simpa using h1
       obtain⟨n,dx,l,dd,vs,T1,e1,e2,e3,e4⟩:=(TF.keep s1).keep sA;refine⟨_,rfl,t,dx,_,rfl,T1.ob,wG n l dd,_,rfl,_,rfl,t,wx,wy,n,c.fs,dx,l,dd,vs,rfl,T1,fun H8 s8=>?_⟩;refine⟨s8 _ _ Mn,len,⟨_,_,rfl⟩,?_,ae,(s7.trans s8).eZ hD⟩;exact sn _ (by simp[i7,n8,h1,SI,e1])
     ·rintro ys bH H5 ⟨_,rfl,F9,s5⟩;rw[ly]at F9;exact⟨D,rfl,s5,hD,F9⟩
    rintro σ H5 ⟨r,rfl,s5,rq,SJ⟩;have U7:r≠e:=Ne.symm (aE Qt rq);have hlen:=Qu.len;refine⟨_,rfl, .inl ⟨rfl,_, .of (s5 _ _ Qt)⟩,_,rfl,e,_,_,rfl,rfl,s5 _ _ Qt,ba (by rw[List.length_map];omega),⟨_,_,_,rfl⟩,(s4.trans s5).eZ Jb,as++[r],by rw[ae];simp,⟨by simp[hlen],fun k a hk=>?_⟩,fun a ha=>?_,List.nodup_append.mpr ⟨F2,ZA,fun x hx y hy e9=>?_⟩⟩
    ·by_cases h:k<i
     ·rw[List.getElem?_append_left Zt]at hk;rw[ao (hn a (Ze hk)).2];exact s5 _ _ (Qu.row k a hk)
     ·rw[List.getElem?_append_right Zt]at hk;have Z2:k-as.length=0:=by
       have:=(Y7 hk).1;simp at this;omega
      rw[Z2]at hk;have:r=a:=by simpa using hk
      subst this;rw[ao U7];have:k=i:=Zx;rw[this];exact SJ
    ·rcases List.mem_append.mp ha with ha|ha
     ·exact hn a ha
     ·have:a=r:=by simpa using ha
      rw[this];exact⟨s4.free rq,U7⟩
    ·have hy:y=r:=by simpa using hy
     obtain⟨k,hk,ek⟩:=List.mem_iff_getElem.mp hx;have:=Qu.row k x (by rw[List.getElem?_eq_getElem hk,ek]);rw[e9,hy,rq]at this;cases this
   ·rintro σ H' ⟨⟨u1,u2,u3,rfl⟩,s3,as,F6,TA,hn,F2⟩;rw[lx]at TA;exact⟨⟨_,_,_,rfl⟩,s3,as,F6,TA,hn,F2⟩
  rintro σ H3 ⟨⟨u1,u2,u3,rfl⟩,s3,as,F6,TA,hn,F2⟩;exact⟨_,rfl,q H3 e as (s1.trans s3) F6 (s1.free Jb) TA F2 (fun z=>(hn e z).2 rfl) fun a ha=>s1.free (hn a ha).1⟩
variable(my:mO P w K mg base true 4 "Trails" aA ["self","worths","terms"] [] (qw aA aT))
variable(hJ:bK P w K mg base true 5 "best_groups" ["trails","worth"] (Ay aA))
variable(gq:bK P w K mg base true 6 "make_finding" ["trails","worth","pairs"] (Au aA ay))
theorem jR:aM ["worths","terms","trails","worth"] ["worths","terms"] (ar gh):=⟨rfl,rfl,rfl,by decide+kernel,rfl,by decide+kernel,by decide+kernel⟩
include T Tc fo Rc my hJ gq in
theorem uJ{f:Addr}{fd:FuncData}(F:jh K "make_round" "make_round" gh f fd):a7 P w K mg base (cW P w) true 7 f fd ["worths","terms"] (oU aT ay):=by
 refine F.gI jR Zs (fun bT A outer s H vs Q E hr h hX=>?_)
 ·obtain⟨w,t,as,c,f,n,m,rfl,_⟩:=h;rfl
 ·obtain⟨w,t,as,c,f1,n,m,rfl,hw,TA,TF,IT,U5,hn,hm,q0,q1⟩:=h;refine⟨_,(Zf (@aH _ _ (2) _ _ _ _ jR.nd Zv (Or.inr rfl) (@sg _ _ _ _ _ _ _ _ _ _ _ _ _ _ my (hr.mono (Zy)) hX.pass (Y4 Zw (Y1 (pv 1))) (Zz) (Zy) (Zz) (Zz)) (Zz) (by exact .inl rfl)) (Zf (@aH _ _ (3) _ _ _ _ jR.nd Zv (Or.inr rfl) (YZ fo aQ (Y1 (@l8 _ _ _ _ _ _ _ _ _ _ _ _ _ _ (by exact rfl) (show bD ["worths","terms","trails","worth"] (ar gh) _ ["row"] [] []from⟨rfl,by decide+kernel,by decide+kernel,by decide+kernel,rfl,rfl,by decide+kernel,by decide+kernel,by decide+kernel⟩) (@bg _ K _ _ _ (Y6 K (pv 2)) (Zz)) (fun _ _ _ _ _=>(Y2 (0) (show(["row"]:List Str).Nodup by decide+kernel))) (fun _ _ _ _ _=>iF) (fun _ _ _ _ _=>(YZ fo aQ (Y1 Zw))) (by intro _;rfl)))) (Zz) (by exact .inl rfl)) (Zf (@aX _ _ _ _ _ _ _ _ (@PW.pt _ _ _ (@pw_or _ _ _ _ _ _ _ (Zb (@ll _ _ _ _ _ (pv 3))) (@pw_or1 _ _ _ _ (Zj mM (pv 3) (Y6 K (pv 1)) (aV _))))) (Y' (Zm (@bM _ _ _ _ af))) aP) (Y' (Zm (@l8 _ _ _ _ _ _ _ _ _ _ _ _ _ _ (by exact rfl) (show bD ["worths","terms","trails","worth"] (ar gh) _ ["pairs"] [2,3] ["trails","worth"]from⟨rfl,by decide+kernel,by decide+kernel,by decide+kernel,rfl,rfl,by decide+kernel,by decide+kernel,by decide+kernel⟩) (@bg _ K _ _ _ (YZ hJ aQ (Y4 (pv 2) (Y1 (pv 3)))) (Zz)) (fun _ _ _ _ _=>(Y2 (0) (show(["pairs","trails","worth"]:List Str).Nodup by decide+kernel))) (fun _ _ _ _ _=>iF) (fun _ _ _ _ _=>(YZ gq aQ (Y4 (pv 1) (Y4 (pv 2) (Y1 Zw))))) (by intro _;rfl))))))),?_⟩;refine⟨fun σ H1=>∃x dx e b es,σ=[some (.ref w),some (.ref t),some (.ref x),none]∧ax H H1∧H1 x=some (.ins aA dx (gL c.out c.into e b))∧H1 e=some (.lst (es.map V.ref))∧i8 H1 es (dE f1 c.out c.into) n m∧(0<n→∃bs,qv H1 aA x dx e b es bs f1 c.out c.into n m),?_,?_⟩
  ·refine⟨_,rfl,_,rfl,fun x dx hx EA eV=>?_⟩;have s5:ax H (upd (upd H dx (.own x)) x (.ins aA dx [])):=(ax.upd EA).eZ hx;refine⟨x,dx,w,t,c,as,f1,n,m,rfl,ae,by rw[ao eV];exact ae,s5 _ _ hw,TA.same s5,TF.keep s5,hn,hm,fun H6 e b sb U8 Te Tb=>?_⟩;obtain⟨es,he,_,TE,_⟩:=Te;refine⟨rfl,x,dx,e,b,es,rfl,SameBut.ZI hx EA sb,U8,he,TE,fun h=>?_⟩;obtain⟨bs,hb,_,XG,_⟩:=Tb h;exact⟨bs,U8,he,TE,hb,XG⟩
  rintro σ H1 ⟨x,dx,e,b,es,rfl,s1,k8,AI,TE,XH⟩;have HC:es.length=n:=TE.len;refine⟨fun σ H2=>σ=[some (.ref w),some (.ref t),some (.ref x),some (bB (Ht f1 c.out c.into n m))]∧ax H1 H2,?_,?_⟩
  ·refine⟨_,rfl,x,aA,dx,_,_,rfl,k8,Rc.cl,Rc.ku,ig c.out c.into e b,e,rfl,⟨_, .of AI⟩,fun D hD=>?_⟩;refine jZ (xs:=es.map V.ref) (fun k ys bH H'=>(∃u,bH=[u])∧ys=((List.range k).map fun i=>bB (oI ((List.range m).map (dE f1 c.out c.into i))))∧H' D=some (.lst ys)∧ax H1 H') ⟨⟨_,rfl⟩,rfl,ae,ax.upd hD⟩ ?_ ?_ ?_
   ·rintro k ys bH H' _ ⟨_,_,_,s2⟩;exact .of (s2 _ _ AI)
   ·rintro k v ys bH H' hv ⟨⟨u,rfl⟩,rfl,rP,s2⟩;have hk:k<n:=by rw[←HC];have:=(Y7 hv).1;simpa using this
    obtain⟨rb,g1,g2,g3⟩:=TE.at hk;rw[hv]at g2;cases g2;refine qh ?_;refine⟨_,rfl,rb,(List.range m).map (dE f1 c.out c.into k),rfl,?_,by simpa using hm,fun Lj s3=>?_⟩
    ·rw[s2 _ _ g3,List.map_map];rfl
    ·refine⟨s3 _ _ rP,ba (by simp;omega),⟨_,rfl⟩,?_,ae,(s2.trans s3).eZ hD⟩;rw[List.range_succ,List.map_append];rfl
   ·rintro ys bH H' ⟨_,rfl,rP,s2⟩;rw[List.length_map,HC]at rP;refine⟨D,(List.range n).map fun i=>oI ((List.range m).map (dE f1 c.out c.into i)),rfl,by rw[rP,List.map_map];rfl,by simpa using hn,fun Lj s3=>⟨rfl,s2.trans s3⟩⟩
  rintro σ H2 ⟨rfl,s2⟩;have Jj:=s1.trans s2;obtain⟨nu,dt,l,d,vs,TM,z1,z2,z3,z4⟩:=TF.keep Jj;have MX:=Fw IT c.out c.into;refine⟨fun σ H3=>∃W,Ht f1 c.out c.into n m=some W∧c.least≤W∧σ=[some (.ref w),some (.ref t),some (.ref x),some (.int W)]∧H3=H2,?_,?_⟩
  ·refine⟨_,rfl,_,rfl,?_⟩;cases eT:Ht f1 c.out c.into n m with
   |none=>
    rw[eT]at MX;refine jK ?_;refine jK ?_;exact⟨aF Zr,fun r rq=>q0 (fun ps hp=>absurd ⟨ps,hp,rfl⟩ (MX _)) _ r (Jj.trans (ax.upd rq)) (Jj.free rq) ae⟩
   |some W=>
    rw[eT]at MX;refine a8 (fun hh=>absurd hh (by simp[bB])) (fun _=>?_);refine⟨_,rfl,_,rfl,t,aT,dt,_,_,rfl,TM.ob,Tc.cl,Tc.least,GO nu l d,_,_,rfl,rfl,_,rfl,?_⟩;refine a8 (fun hh=>?_) (fun hh=>?_)
    ·have hh:W<nu.least:=by simpa using hh
     rw[z4]at hh;exact⟨aF Zr,fun r rq=>q0 (fun ps hp=>by have:=MX.2 _ ⟨ps,hp,rfl⟩;omega) _ r (Jj.trans (ax.upd rq)) (Jj.free rq) ae⟩
    ·have hh:¬W<nu.least:=by simpa using hh
     rw[z4]at hh;exact⟨W,rfl,Zx,rfl,rfl⟩
  rintro σ H2 ⟨W,eT,hle,rfl,rfl⟩;rw[eT]at MX;obtain⟨U9,w0,U_⟩:=MX.1;have TP:e_ f1 c.out c.into W:=fun ps hp=>MX.2 _ ⟨ps,hp,rfl⟩
  have Sr:0<n:=by
   obtain⟨i,j,_,hi,_⟩:=jM IT w0 (cR w0.ne);omega
  obtain⟨bs,TR⟩:=XH Sr;have U':=TR.keep s2;refine⟨_,rfl,_,rfl,x,dx,e,b,es,bs,f1,c.out,c.into,n,m,W,rfl,U',IT,U5,hn,hm,TP,fun H3 r us gs s3 rq xj W3 LV TD=>?_⟩;have HL:∀g∈gs,∀a∈g,∃i j:Nat,a=aR (i,j)∧i<n∧j<m:=fun g hg a ha=>by
   obtain⟨ps,wp,hm⟩:=(TD.mem hg ha).on;exact jM IT wp.1 hm
  have rf:∀g∈gs,g.length≤n*m:=fun g hg=>by
   have:=len_sub g (uD n m) ((TD.sq g hg).imp fun{a b} h e=>by
    rw[e]at h;unfold ij at h;simp at h) fun a ha=>by
    obtain⟨i,j,rfl,hi,hj⟩:=HL g hg a ha;exact oT hi hj
   rw[oS]at this;exact this
  have D5:=TD.vx HL;have SK:gs≠[]:=fun z=>by
   obtain⟨i,j,h1,_⟩:=jM IT w0 (cR w0.ne);obtain⟨g,hg,_⟩:=TD.all _ (gK.way U9 ⟨w0,U_.symm⟩ (cR w0.ne) (cR w0.ne));rw[z]at hg;cases hg
  have hW:=W3.1;refine⟨r,rfl,⟨_, .of xj⟩,fun D hD=>?_⟩;refine jZ (xs:=us) (fun k ys bH H'=>(∃u,bH=[u,some (.ref x),some (.int W)])∧H' D=some (.lst ys)∧ax H3 H'∧∃ds,cG (fun b=>H2 b=none∧b≠D) H' ay ys ds∧ds.map Fd.pairs=gs.take k∧∀d∈ds,Ot f1 c.out c.into W d) ⟨⟨_,rfl⟩,ae,ax.upd hD,[], .nil,rfl,fun d h=>(by cases h)⟩ ?_ ?_ ?_
  ·rintro k ys bH H' _ ⟨_,_,s4,_⟩;exact .of (s4 _ _ xj)
  ·rintro k v ys bH H' hv ⟨⟨u,rfl⟩,Jk,s4,ds,F4,OW,bX⟩;have hk:k<gs.length:=by rw[←hW];exact(Y7 hv).1
   have ek:gs[k]?=some gs[k]:=by simp[hk]
   have i9:gs[k]∈gs:=List.getElem_mem hk;generalize gs[k]=g at ek i9;obtain⟨pa,Va,k1,k2,k3⟩:=W3.2 k g ek;rw[hv]at k1;cases k1;have SM:=LV k pa hv;have OX:pa≠D:=fun z=>by rw[z,hD]at k2;cases k2
   obtain⟨gn,OY⟩:∃gn:List (Nat×Nat),g=gn.map aR:=by
    refine⟨g.map fun a=>(a.1.toNat,a.2.toNat),?_⟩;rw[List.map_map]
    conv=>lhs;rw[←List.map_id g]
    apply List.map_congr_left;intro a ha;obtain⟨i,j,rfl,_⟩:=HL g i9 a ha;simp[aR]
   obtain⟨i0,j0,z5,z6,z7,z8⟩:∃i j:Nat,dE f1 c.out c.into i j=some W∧i<n∧j<m∧aR (i,j)∈g:=by
    obtain⟨a,ha⟩:=List.exists_mem_of_ne_nil _ (TD.ne g i9);obtain⟨i,j,h1,h2,h3,h4⟩:=CW TP IT (TD.mem i9 ha);exact⟨i,j,h1,h2,h3,(TD.cls g i9 a ha _).mpr h4⟩
   have SN:gn.filter (fun q=>decide (dE f1 c.out c.into q.1 q.2=some W))≠[]:=fun z=>by
    rw[OY]at z8;obtain⟨q9,XI,e9⟩:=List.mem_map.mp z8;obtain⟨XJ,XM⟩:=iH (a:=q9.1) (b:=q9.2) e9;have:q9∈gn.filter (fun q=>decide (dE f1 c.out c.into q.1 q.2=some W)):=List.mem_filter.mpr ⟨XI,by rw[XJ,XM];simpa using z5⟩;rw[z]at this;cases this
   obtain⟨tZ,HH⟩:∃q0,(gn.filter fun q=>decide (dE f1 c.out c.into q.1 q.2=some W))[0]?=some q0:=by
    cases e9:gn.filter (fun q=>decide (dE f1 c.out c.into q.1 q.2=some W))with
    |nil=>exact absurd e9 SN
    |cons a r=>exact⟨a,rfl⟩
   have OZ:=List.mem_filter.mp (Ze HH);have SO:dE f1 c.out c.into tZ.1 tZ.2=some W:=by simpa using OZ.2
   have XN:=U'.keep (s3.trans s4);refine qh ?_;refine⟨_,rfl,_,rfl,_,rfl,x,dx,e,b,es,bs,f1,c.out,c.into,n,m,W,pa,Va,gn,tZ,rfl,XN,s4 _ _ k2,by rw[←OY];exact k3.same s4,fun q hq=>?_,HH,hn,?_,fun H5 y dy wy rw gY s5 hy Ly DC SQ XO XQ SR P5 SJ=>?_⟩
   ·have:aR q∈g:=by rw[OY];exact List.mem_map.mpr ⟨q,hq,rfl⟩
    obtain⟨i,j,h1,h2,h3⟩:=HL g i9 _ this;obtain⟨h4,h5⟩:=iH (a:=q.1) (b:=q.2) h1;omega
   ·have:=rf g i9;rw[OY,List.length_map]at this;omega
   ·obtain⟨v1,v2,v3,v4⟩:=Hs f1 c.out c.into tZ.1 tZ.1 tZ.2 W (Nat.le_refl _) SO;have YM:=F4.1;have XR:ds.length=k:=by
     have:=congrArg List.length OW;rw[List.length_map,List.length_take]at this;omega
    have nD:∀{z},H' z=none→z≠D:=fun h z=>by rw[z,Jk]at h;cases h
    have SS:ax H2 H':=s3.trans s4;refine⟨s5 _ _ Jk,ba Zt,⟨_,rfl⟩,ae,(s4.trans s5).eZ hD,ds++[⟨W,(eI f1 c.out c.into tZ.1 tZ.1 tZ.2).map aR,Z6 (lf f1) c.out c.into ((eI f1 c.out c.into tZ.1 tZ.1 tZ.2).map aR),g⟩],?_,?_,fun d hd=>?_⟩
    ·refine cG.append (F4.keep (fun b o hb e=>by rw[ao hb.2];exact s5 _ _ e) (fun a v e=>by rw[ao (fun z=>by rw[z,Jk]at e;cases e)];exact s5 _ _ e) fun _ h=>h) ⟨rfl,fun k9 d9 e9=>?_⟩;have XS:k9=0:=by
      have:=(Y7 e9).1;simp at this;omega
     subst XS;have e9:=(Zp e9).symm;subst e9;have T5:e6 H5 (upd H5 D (.lst (ys++[.ref y]))):=e6.lst (s5 _ _ Jk);refine⟨y,dy,wy,rw,pa,gY,Va,rfl,⟨by rw[ao (nD hy)];exact XO,by rw[ao (nD DC)];exact SR,P5.cI T5,?_,by rw[ao OX];exact s5 _ _ (s4 _ _ k2),((k3.same s4).same s5).cI T5,⟨SS.free hy,nD hy⟩,⟨SS.free DC,nD DC⟩,⟨SS.free SQ,nD SQ⟩,⟨SM,OX⟩⟩⟩;rw[ao (nD SQ),SJ]
     congr 2
     have:=congrArg (List.map bB) v4;rw[List.map_map,List.map_map]at this;exact this
    ·rw[List.map_append,OW,List.take_succ,ek];rfl
    ·rcases List.mem_append.mp hd with hd|hd
     ·exact bX d hd
     ·have:d=⟨W,(eI f1 c.out c.into tZ.1 tZ.1 tZ.2).map aR,Z6 (lf f1) c.out c.into ((eI f1 c.out c.into tZ.1 tZ.1 tZ.2).map aR),g⟩:=by simpa using hd
      subst this;refine⟨rfl,⟨v1,v3⟩,rfl,fun q hq=>?_⟩;have OS:aR tZ∈g:=by rw[OY];exact List.mem_map.mpr ⟨_,OZ.1,rfl⟩
      have v2:lstP ((eI f1 c.out c.into tZ.1 tZ.1 tZ.2).map aR)=aR tZ:=v2;exact(TD.cls g i9 _ OS q).mpr (.way _ ⟨v1,v3⟩ (by rw[←v2];exact cR v1.ne) hq)
  ·rintro ys bH H' ⟨_,Jk,s4,ds,F4,OW,bX⟩;rw[hW,List.take_length]at OW;have sA:=Jj.trans (s3.trans s4);exact q1 W gs ds ⟨TP,⟨U9,w0,U_.symm⟩,hle,TD,OW,bX⟩ SK _ D ys sA ((Jj.trans s3).free hD) Jk (F4.keep (fun _ _ _ h=>h) (fun _ _ h=>h) fun b hb=>Jj.free hb.1)
theorem hU:aM ["worths","findings","finding","i","j"] ["worths","findings"] (ar kD):=⟨rfl,rfl,rfl,by decide+kernel,rfl,by decide+kernel,by decide+kernel⟩
include T Fc in
theorem uK{f:Addr}{fd:FuncData}(F:jh K "shut_pairs" "shut_pairs" kD f fd):a7 P w K mg base (cW P w) true 1 f fd ["worths","findings"] (tO ay):=by
 refine F.gI hU Zs (fun bT A outer s H vs Q E hr h hX=>?_)
 ·obtain⟨w,md,as,us,ds,f,n,m,rfl,_⟩:=h;rfl
 ·obtain⟨w,md,as,us,ds,f1,n,m,rfl,hw,Ob,nw,TA,Vc,XT,FL,n6,q⟩:=h;refine⟨_,(Y' (@bj _ _ _ _ _ _ _ _ hX.own Zv (@bg _ K _ _ _ (pv 1) (Zz)) (Y2 (2) hU.nd) (Y' (@bj _ _ _ _ _ _ _ _ hX.own Zv (@bg _ K _ _ _ (Y6 K (pv 2)) (Zz)) (@f6 _ K _ _ _ (2) _ (by exact rfl) (@bf _ _ _ _ _ (Y2 (3) hU.nd) (@bf _ _ _ _ _ (Y2 (4) hU.nd) fX (Zz)) (Zz)) (Zz) (Zz) (Zz)) (Y' (@zF _ _ _ _ _ _ jJ (@JM _ _ _ _ _ _ _ (Y3 Zw (pv 3)) (pv 4) set_list (by intro _;rfl)) (Zz) (Zz) (Zz))) (by intro _;rfl))) (by intro _;rfl))),?_⟩;have rows:∀a∈as,∃xs,H a=some (.lst xs):=fun a ha=>by
   obtain⟨k,hk,ek⟩:=List.mem_iff_getElem.mp ha;exact⟨_,TA.row k a (by rw[List.getElem?_eq_getElem hk,ek])⟩
  have cI:∀H',(∀b o,b∉as→H b=some o→H' b=some o)→e6 H H':=fun H' k t v e=>k t _ (fun z=>by
   obtain⟨xs,h⟩:=rows t z;rw[e]at h;cases h) e
  have hlen:=FL.1;refine⟨_,rfl,md,rfl,⟨_, .of Vc⟩,?_⟩;refine bJ (xs:=us) (fun k σ H1=>(∃u1 u2 u3,σ=[some (.ref w),some (.ref md),u1,u2,u3])∧(∀b o,b∉as→H b=some o→H1 b=some o)∧i8 H1 as (kU f1 ((ds.take k).map Fd.pairs).flatten) n m) ⟨⟨_,_,_,rfl⟩,fun _ _ _ h=>h,TA⟩ ?_ ?_ ?_
  ·rintro k σ H1 _ ⟨_,k1,_⟩;exact .of (k1 _ _ XT Vc)
  ·rintro k v σ H1 hv ⟨⟨u1,u2,u3,rfl⟩,k1,T1⟩;have hk:k<ds.length:=by rw[←hlen];exact(Y7 hv).1
   have ek:ds[k]?=some ds[k]:=by simp[hk]
   have i9:ds[k]∈ds:=List.getElem_mem hk;generalize ds[k]=d at ek i9;obtain⟨a,dy,wy,fY,pr,jt,gY,e1,F⟩:=FL.2 k d ek;rw[hv]at e1;cases e1;have vz:=F.pp.1;have et:((ds.take (k+1)).map Fd.pairs).flatten=((ds.take k).map Fd.pairs).flatten++d.pairs:=by
    rw[List.take_succ,ek,List.map_append,List.flatten_append];simp
   refine⟨_,rfl,a,ay,dy,_,_,rfl,k1 _ _ F.fa F.ob,Fc.cl,Fc.pairs,fF d.worth wy fY pr,pr,rfl,⟨_, .of (k1 _ _ F.fp F.hp)⟩,?_⟩;refine bJ (xs:=gY) (fun l σ H2=>(∃u2 u3,σ=[some (.ref w),some (.ref md),some (.ref a),u2,u3])∧(∀b o,b∉as→H b=some o→H2 b=some o)∧i8 H2 as (kU f1 (((ds.take k).map Fd.pairs).flatten++d.pairs.take l)) n m) ⟨⟨_,_,rfl⟩,k1,by simpa using T1⟩ ?_ ?_ ?_
   ·rintro l σ H2 _ ⟨_,k2,_⟩;exact .of (k2 _ _ F.fp F.hp)
   ·rintro l v σ H2 Qv ⟨⟨v2,v3,rfl⟩,k2,T2⟩;have hl:l<d.pairs.length:=by rw[←vz];exact(Y7 Qv).1
    have el:d.pairs[l]?=some d.pairs[l]:=by simp[hl]
    have hq:=n6 d i9 d.pairs[l] (List.getElem_mem hl);generalize d.pairs[l]=g at el hq;obtain⟨i,j,rfl,hi,hj⟩:=hq;obtain⟨t,g1,g2⟩:=F.pp.2 l _ el;rw[Qv]at g1;cases g1;have kt:=cI H2 k2 _ _ g2;refine⟨t,_,rfl, .of kt,rfl,_,_,rfl,_,_,rfl,rfl,?_⟩;obtain⟨ra,r1,r2,r3⟩:=T2.at hi;have Qd:ra∈as:=Ze r1;refine⟨_,rfl,_,rfl,w,_,_,_,rfl,rfl, .of (k2 _ _ nw hw),av r2,_,rfl,ra,_,_,j,rfl,rfl,r3,GQ (by rw[de];exact hj),⟨_,_,rfl⟩,fun b o hb e=>?_,⟨T2.len,fun x b hb=>?_⟩⟩
    ·rw[ao (fun z=>hb (by rw[z];exact Qd))];exact k2 b o hb e
    ·have Ve:d.pairs.take (l+1)=d.pairs.take l++[aR (i,j)]:=by rw[List.take_succ,el];rfl
     by_cases e:b=ra
     ·have ex:x=i:=by
       obtain⟨h1,e1⟩:=Y7 hb;obtain⟨h2,e2⟩:=Y7 r1;exact(List.getElem_inj Ob).mp (by rw[e1,e2,e])
      subst ex e;rw[ae];show some (HO.lst ((c_ m _).set j (bB none)))=_;rw[EG]
      congr 2
      unfold c_;apply List.map_congr_left;intro y _;unfold kU;rw[Ve,←List.append_assoc]
      congr 1
      dsimp only;by_cases ey:y=j
      ·subst ey;rw[if_pos rfl,if_pos Zr]
      ·rw[Zh ey];have:¬aR (x,y)=aR (x,j):=fun z=>ey (iH z).2
       simp[this]
     ·rw[ao e,T2.row x b hb]
      congr 2
      unfold c_;apply List.map_congr_left;intro y _;unfold kU;rw[Ve,←List.append_assoc];have:¬aR (x,y)=aR (i,j):=fun z=>by
       have hk:=(iH z).1;subst hk;rw[r1]at hb;exact e (Zp hb).symm
      simp[this]
   ·rintro σ H2 ⟨⟨v2,v3,rfl⟩,k2,T2⟩;rw[vz,List.take_length]at T2;exact⟨⟨_,_,_,rfl⟩,k2,by rw[et];exact T2⟩
  ·rintro σ H1 ⟨_,k1,T1⟩;rw[hlen,List.take_length]at T1;exact q H1 k1 (cI H1 k1) T1
variable(eA:DO mg "FINDINGS_MOST" (.int 20))
variable(hV:bK P w K mg base true 2 "open_worths" ["first","second","terms","taken"] (tN aT))
variable(gu:bK P w K mg base true 7 "make_round" ["worths","terms"] (oU aT ay))
variable(iO:bK P w K mg base true 1 "shut_pairs" ["worths","findings"] (tO ay))
variable(kL:bK P w K mg base true 1 "order_of" ["finding"] (tF ay))
variable(ke:Er K mg "TooMany" j9)
theorem je:aM ["first","second","terms","worths","findings","made"] ["first","second","terms"] (ar qE):=⟨rfl,rfl,rfl,by decide+kernel,rfl,by decide+kernel,by decide+kernel⟩
include T jd eA hV gu iO kL ke in
theorem AL{f:Addr}{fd:FuncData}(F:jh K "compare" "compare" qE f fd):a7 P w K mg base (cW P w) true 8 f fd ["first","second","terms"] (xg aT ay j9):=by
 refine F.gI je Zs (fun bT A outer s H vs Q E hr h hX=>?_)
 ·obtain⟨a,b,t,c,rfl,_⟩:=h;rfl
 ·obtain⟨a,b,t,c,rfl,ha,hb,TF,hx,hy,q1,q2⟩:=h;refine⟨_,(Zf (Y0 (3) je.nd (YZ hV aQ (Y4 Zw (Y4 (pv 1) (Y4 (pv 2) (Y1 jJ)))))) (Zf (Y0 (4) je.nd (@bM _ _ _ _ af)) (Zf (Y0 (5) je.nd (YZ gu aQ (Y4 (pv 3) (Y1 (pv 2))))) (Zf (@sF _ _ _ _ _ _ hX.own (Zj oh (Y5 (aG K) (by exact rfl) T.cD (Y1 (pv 5))) ai (aV _)) (Zf (Zq (Y_ K PySem.F.plainAttrs_list PySem.F.slot_list_extend PySem.F.type_list_extend vy (pv 4) (Y1 (pv 5)))) (Zf (@aX _ _ _ _ _ _ _ _ (Zj oh (Y5 (aG K) (by exact rfl) T.cD (Y1 (pv 4))) (@fJ _ _ _ _ eA (Zz) (Zy)) (aV _)) (Y' (@iZ _ _ _ _ _ _ _ _ _ _ hX Zv (by exact rfl) ke.m ke.e (Y1 (@l7 _ _ _ _ _ _ (@fz _ _ _ _ _ dS (@fz _ _ _ _ _ (@qg _ _ _ _ (@fJ _ _ _ _ eA (Zz) (Zy))) (@fz _ _ _ _ _ dS wm))))) (Zy) (Zz) (Zz))) aP) (Zf (Zq (YZ iO aQ (Y4 (pv 3) (Y1 (pv 5))))) (Y' (Y0 (5) je.nd (YZ gu aQ (Y4 (pv 3) (Y1 (pv 2)))))))))) (Y' (Zm (@E_ _ K _ _ _ _ _ _ _ _ _ _ _ kL (hr.mono (Zy)) (pv 4) (by exact rfl) jd (Zz) (Zy) (Zz) (Zz)))))))),?_⟩;have Aj:c.xs.length*c.ys.length≤3000:=Nat.le_trans (Nat.mul_le_mul hx hy) (Zy);have SU:=Kv c [];refine⟨fun σ H1=>∃w as,σ=[some (.ref a),some (.ref b),some (.ref t),some (.ref w),none,none]∧ax H H1∧H1 w=some (.lst (as.map V.ref))∧i8 H1 as (i7 c []) c.xs.length c.ys.length∧as.Nodup∧w∉as∧∀a∈as,H a=none,?_,?_⟩
  ·exact⟨_,rfl,_,rfl,_,rfl,a,b,t, .cO,c,[],rfl,ha,hb,TF, .inl ⟨rfl,rfl⟩,ZA,Zx,Zx,fun H1 w as s1 h1 _ h3 h4 h5 h6=>⟨w,as,rfl,s1,h1,h3,h4,h5,h6⟩⟩
  rintro σ H1 ⟨w,as,rfl,s1,rQ,SV,Ob,nw,has⟩;refine⟨fun σ H2=>∃fl,σ=[some (.ref a),some (.ref b),some (.ref t),some (.ref w),some (.ref fl),none]∧ax H1 H2∧H1 fl=none∧H2 fl=some (.lst []),⟨aF Zr,fun fl h=>⟨fl,rfl,ax.upd h,h,ae⟩⟩,?_⟩;rintro σ H2 ⟨fl,rfl,s2,LC,O0⟩;have alloc:∀x∈as,∃xs,H1 x=some (.lst xs):=fun x hx=>by
   obtain⟨k,hk,ek⟩:=List.mem_iff_getElem.mp hx;exact⟨_,SV.row k x (by rw[List.getElem?_eq_getElem hk,ek])⟩
  have Vf:fl∉as:=fun z=>by
   obtain⟨xs,h⟩:=alloc fl z;rw[LC]at h;cases h
  have HM:w≠fl:=aE rQ LC;have rd:∀f H3,(∀x∈as,∃xs,H3 x=some (.lst xs))→H3 w=some (.lst (as.map V.ref))→i8 H3 as f c.xs.length c.ys.length→ax H H3→∀done,Reach (i7 c []) c.out c.into c.least done f→∀(Q':VK)(E':XK),(∀H4 r,ax H3 H4→H3 r=none→∀us ds,H4 r=some (.lst us)→cG (fun b=>H3 b=none) H4 ay us ds→((us=[]∧ds=[]∧Stop f c.out c.into c.least)∨(us≠[]∧∃W gs,mi f c.out c.into c.least W gs ds))→Q' (.ref r) H4)→oU aT ay [.ref w, .ref t] H3 Q' E':=fun f H3 al h3 T3 s3 done RC Q' E' k=>by
   refine⟨w,t,as,c,f,_,_,rfl,h3,T3,TF.keep s3,RC.Se SU,Aj,Zx,Zx,fun st H4 r s4 h4 h5=>k H4 r s4 h4 [] [] h5 .nil (.inl ⟨rfl,rfl,st⟩),fun W gs ds R SK H4 r us s4 h4 h5 FL=>k H4 r s4 h4 us ds h5 FL (.inr ⟨fun z=>SK ?_,W,gs,R⟩)⟩;have:=FL.1;rw[z]at this;have:ds=[]:=List.length_eq_zero_iff.mp (by simpa using this.symm);rw[←R.Hr,this];rfl
  have Vg:∀b o,b∉as→b≠fl→H1 b=some o→H2 b=some o:=fun b o _ _ e=>s2 b o e
  have Mo:=s1.trans s2;refine⟨fun σ H3=>∃md us ds,σ=[some (.ref a),some (.ref b),some (.ref t),some (.ref w),some (.ref fl),some (.ref md)]∧ax H2 H3∧H2 md=none∧H3 md=some (.lst us)∧cG (fun b=>H2 b=none) H3 ay us ds∧((us=[]∧ds=[]∧Stop (i7 c []) c.out c.into c.least)∨(us≠[]∧∃W gs,mi (i7 c []) c.out c.into c.least W gs ds)),?_,?_⟩
  ·exact⟨_,rfl,_,rfl,rd _ H2 (fun x hx=>let ⟨xs,h⟩:=alloc x hx;⟨xs,s2 _ _ h⟩) (s2 _ _ rQ) (SV.same s2) Mo [] .start _ _ fun H4 r s4 h4 us ds h5 FL z=>⟨r,us,ds,rfl,s4,h4,h5,FL,z⟩⟩
  rintro σ H3 ⟨md,us,ds,rfl,s3,HN,SW,XU,Z3⟩;refine⟨fun σ H5=>∃md ul es f,σ=[some (.ref a),some (.ref b),some (.ref t),some (.ref w),some (.ref fl),some (.ref md)]∧ax H H5∧H5 fl=some (.lst ul)∧cG (fun b=>H2 b=none) H5 ay ul es∧Reach (i7 c []) c.out c.into c.least es f∧Stop f c.out c.into c.least∧es.length≤20,?_,?_⟩
  ·refine⟨fun mm σ H4=>∃md us ds ul es f,mm+es.length=20∧σ=[some (.ref a),some (.ref b),some (.ref t),some (.ref w),some (.ref fl),some (.ref md)]∧ax H H4∧(∀b o,b∉as→b≠fl→H2 b=some o→H4 b=some o)∧i8 H4 as f c.xs.length c.ys.length∧H4 fl=some (.lst ul)∧cG (fun b=>H2 b=none) H4 ay ul es∧Reach (i7 c []) c.out c.into c.least es f∧H2 md=none∧H4 md=some (.lst us)∧cG (fun b=>H2 b=none) H4 ay us ds∧((us=[]∧ds=[]∧Stop f c.out c.into c.least)∨(us≠[]∧∃W gs,mi f c.out c.into c.least W gs ds)),⟨20,md,us,ds,[],[],i7 c [],rfl,rfl,Mo.trans s3,fun b o _ _ e=>s3 b o e,(SV.same s2).same s3,s3 _ _ O0, .nil, .start,HN,SW,XU,Z3⟩,?_⟩;rintro mm σ H4 ⟨md,us,ds,ul,es,f1,YN,rfl,sH,k4,T4,HP,FE,RC,HN,LD,FD,Z4⟩;have XW:∀x∈as,∃xs,H2 x=some (.lst xs):=fun x hx=>let ⟨xs,h⟩:=alloc x hx;⟨xs,s2 _ _ h⟩
   have P2:∀{b},H2 b=none→b∉as:=fun{b} h z=>by
    obtain⟨xs,h'⟩:=XW b z;rw[h]at h';cases h'
   have SX:∀{b},H2 b=none→b≠fl:=fun{b} h z=>by rw[z,O0]at h;cases h
   have Qw:=FE.1;have YO:=FD.1;refine⟨_,rfl,md,_,rfl, .inl (.of LD),_,_,rfl,rfl,_,rfl,?_⟩;refine a8 (fun hh=>?_) (fun hh=>?_)
   ·have hh:0<us.length:=by simpa using hh
    rcases Z4 with⟨z1,_,_⟩|⟨Vh,W,gs,R⟩
    ·rw[z1]at hh;simp at hh
    have Qg:ds.length≤c.xs.length*c.ys.length:=by
     have:=R.told.vx (n:=c.xs.length) (m:=c.ys.length) fun g hg q hq=>by
      obtain⟨ps,wp,hm⟩:=(R.told.mem hg hq).on;exact jM (RC.Se SU) wp.1 hm
     rw[←R.Hr,List.length_map]at this;exact this
    refine⟨_,fun bH H' z=>z,?_⟩;have XX:md≠fl:=SX HN;refine⟨fun σ H5=>σ=[some (.ref a),some (.ref b),some (.ref t),some (.ref w),some (.ref fl),some (.ref md)]∧H5=upd H4 fl (.lst (ul++us)),⟨_,rfl, .inl ⟨rfl,_, .of HP⟩,_,rfl,fl,md,ul,us,rfl,rfl,HP,LD,aF Zt,rfl,rfl⟩,?_⟩;rintro σ H5 ⟨rfl,rfl⟩;have Vi:ax H (upd H4 fl (.lst (ul++us))):=sH.eZ (s1.free LC);have Vj:e6 H4 (upd H4 fl (.lst (ul++us))):=e6.lst HP;have XY:cG (fun b=>H2 b=none) (upd H4 fl (.lst (ul++us))) ay ul es:=FE.keep (fun b o hb e=>by rw[ao (SX hb)];exact e) Vj fun _ h=>h
    have Vk:cG (fun b=>H2 b=none) (upd H4 fl (.lst (ul++us))) ay us ds:=FD.keep (fun b o hb e=>by rw[ao (SX hb)];exact e) Vj fun _ h=>h
    have SY:=RC.round R;refine⟨fun σ H6=>σ=[some (.ref a),some (.ref b),some (.ref t),some (.ref w),some (.ref fl),some (.ref md)]∧H6=upd H4 fl (.lst (ul++us))∧(es++ds).length≤20,?_,?_⟩
    ·refine⟨_,rfl,fl,_,rfl, .inl (.of ae),_,_,rfl,rfl,_,rfl,?_⟩;refine a8 (fun h9=>?_) (fun h9=>?_)
     ·have h9:20<(ul++us).length:=by
       have:(20:Int)<((ul++us).length:Nat):=by simpa using h9
       omega
      have:=q2 _ _ SY (by rw[List.length_append]at h9⊢;omega) _ Vi;have z:(20:Int).natAbs.log2<1920∧(Str.ofString (toString (20:Int))).length≤6:=⟨Zy,by decide+kernel⟩
      have w1:(Str.ofString "there are at most ").length=18:=by decide+kernel
      have w2:(Str.ofString " findings between two books").length=27:=by decide+kernel
      have w3:=l_;refine⟨_,rfl,aF ?_, .inr ⟨20,rfl,z.1,_,rfl,aF ?_,_,rfl,aF ?_,aF ?_,ie,this⟩⟩;all_goals (simp only[len_app];omega)
     ·have h9:¬20<(ul++us).length:=by
       have:¬(20:Int)<((ul++us).length:Nat):=by simpa using h9
       omega
      exact⟨rfl,rfl,by rw[List.length_append]at h9⊢;omega⟩
    rintro σ H6 ⟨rfl,rfl,hle⟩;refine⟨fun σ H7=>σ=[some (.ref a),some (.ref b),some (.ref t),some (.ref w),some (.ref fl),some (.ref md)]∧(∀b o,b∉as→upd H4 fl (.lst (ul++us)) b=some o→H7 b=some o)∧e6 (upd H4 fl (.lst (ul++us))) H7∧i8 H7 as (kU f1 gs.flatten) c.xs.length c.ys.length,?_,?_⟩
    ·refine⟨_,rfl,_,rfl,w,md,as,us,ds,f1,_,_,rfl,by rw[ao HM];exact k4 _ _ nw HM (s2 _ _ rQ),Ob,nw,⟨T4.len,fun i x hx=>by rw[ao (fun z=>Vf (by rw[←z];exact Ze hx))];exact T4.row i x hx⟩,by rw[ao XX];exact LD,P2 HN,Vk.keep (fun _ _ _ h=>h) (fun _ _ h=>h) (fun _ h=>P2 h),fun d hd q hq=>?_,fun H7 k7 t7 T7=>⟨rfl,k7,t7,by rw[←R.Hr];exact T7⟩⟩;have hg:d.pairs∈gs:=by rw[←R.Hr];exact List.mem_map.mpr ⟨d,hd,rfl⟩
     obtain⟨ps,wp,hm⟩:=(R.told.mem hg hq).on;exact jM (RC.Se SU) wp.1 hm
    rintro σ H7 ⟨rfl,k7,t7,T7⟩;have Vl:ax H H7:=fun b o e=>k7 b o (fun z=>by rw[has b z]at e;cases e) (Vi b o e)
    have Vm:∀x∈as,∃xs,H7 x=some (.lst xs):=fun x hx=>by
     obtain⟨k,hk,ek⟩:=List.mem_iff_getElem.mp hx;exact⟨_,T7.row k x (by rw[List.getElem?_eq_getElem hk,ek])⟩
    have w7:H7 w=some (.lst (as.map V.ref)):=k7 w _ nw (by rw[ao HM];exact k4 _ _ nw HM (s2 _ _ rQ));have F7:cG (fun b=>H2 b=none) H7 ay (ul++us) (es++ds):=(XY.append Vk).keep (fun b o hb e=>k7 b o (P2 hb) e) t7 fun _ h=>h
    have Vn:H7 fl=some (.lst (ul++us)):=k7 fl _ Vf ae;refine⟨_,rfl,_,rfl,rd _ H7 Vm w7 T7 Vl _ SY _ _ fun H8 r s8 h8 XZ X0 X1 X2 Z8=>?_⟩;have Vo:∀b,H7 b=none→H2 b=none:=fun b h=>by
     cases e:H2 b with
     |none=>rfl
     |some o=>
      by_cases S8:b∈as
      ·obtain⟨xs,h'⟩:=Vm b S8;rw[h]at h';cases h'
      ·by_cases S9:b=fl
       ·rw[S9,Vn]at h;cases h
       ·rw[k7 b o S8 (by rw[ao S9];exact k4 b o S8 S9 e)]at h;cases h
    refine⟨20-(es++ds).length,?_,r,XZ,X0,ul++us,es++ds,_,Zx,rfl,Vl.trans s8,fun b o h1 h2 e=>s8 b o (k7 b o h1 (by rw[ao h2];exact k4 b o h1 h2 e)),T7.same s8,s8 _ _ Vn,F7.keep (fun b o _ e=>s8 b o e) (e6.same s8) fun _ h=>h,SY,Vo r h8,X1,X2.keep (fun _ _ _ h=>h) (fun _ _ h=>h) fun b h=>Vo b h,Z8⟩;rw[List.length_append]at hle⊢;omega
   ·have hh:us.length=0:=by
     have:¬(0:Int)<(us.length:Nat):=by simpa using hh
     omega
    rcases Z4 with⟨_,_,z3⟩|⟨Vh,_⟩
    ·exact⟨md,ul,es,f1,rfl,sH,HP,FE,RC,z3,Zx⟩
    ·exact absurd (List.length_eq_zero_iff.mp hh) Vh
  rintro σ H5 ⟨md,ul,es,f1,rfl,sH,S_,FE,RC,ST,hle⟩;have Qw:=FE.1;have AP:=RC.apart;have O1:∀d∈es,mC d.pairs∈d.pairs:=fun d hd=>by
   cases e:d.pairs with
   |nil=>exact absurd e (AP.sq d hd).2
   |cons a r=>simp[mC]
  refine⟨_,rfl,fl,ul,es.map (fun d=>(-d.worth,mC d.pairs)),rfl, .of S_,by rw[List.length_map];omega,?_,Zx,fun i v H6 hv s6=>?_,fun p H6 D hp hs s6 hD OU=>?_⟩
  ·refine List.pairwise_map.mpr (List.Pairwise.imp_of_mem (fun{x y} hx hy Aj e=>?_) AP.ap);have:=(Prod.mk.inj e).2;exact Aj _ (O1 x hx) (by rw[this];exact O1 y hy)
  ·have hi:i<es.length:=by rw[←Qw];exact(Y7 hv).1
   have ei:es[i]?=some es[i]:=by simp[hi]
   have i9:es[i]∈es:=List.getElem_mem hi;have eg:(es.map fun d=>(-d.worth,mC d.pairs)).getD i (0,(0,0))=(-es[i].worth,mC es[i].pairs):=by simp[hi]
   rw[eg];generalize es[i]=d at ei i9;obtain⟨x,dy,wy,fY,pr,jt,gY,e1,F⟩:=FE.2 i d ei;rw[hv]at e1;cases e1;exact⟨x,dy,wy,fY,pr,d.worth,gY,d.pairs,rfl,s6 _ _ F.ob,s6 _ _ F.hp,F.pp.same s6,(AP.sq d i9).2,fun H7 k t s7 hk ht=>⟨s7,k,t,rfl,hk,ht⟩⟩
  ·have rf:p.toList.Perm (List.range es.length):=by rw[←Qw];exact hp
   have LF:∀i∈p.toList,i<es.length:=fun i hi=>by simpa using rf.mem_iff.mp hi
   have dflt:Fd:=⟨0,[],[],[]⟩
   refine q1 (p.toList.map fun i=>es.getD i dflt) ⟨⟨es,f1,RC,ST,?_⟩,?_,?_⟩ _ D _ ((sH.trans s6).eZ (sH.free hD)) (sH.free hD) ae ?_
   ·have e1:(List.range es.length).map (fun i=>es.getD i dflt)=es:=by
     apply List.ext_getElem
     ·simp
     ·intro i h1 h2;simp[h2]
    have:=rf.map fun i=>es.getD i dflt
    rw[e1]at this;exact this
   ·rw[List.length_map,rf.length_eq,List.length_range];exact hle
   ·rw[List.pairwise_map,List.pairwise_iff_getElem];intro i j hi hj ur;have hsz:p.size=es.length:=by have:=rf.length_eq;simpa using this
    have:=hs i j ur (by rw[Qw,←hsz];simpa using hj);have g1:gd p i=p.toList[i]:=by rw[EJ];simp at hi;simp[hi]
    have g2:gd p j=p.toList[j]:=by rw[EJ];simp at hj;simp[hj]
    rw[g1,g2]at this;have l1:=LF _ (List.getElem_mem hi);have l2:=LF _ (List.getElem_mem hj);generalize p.toList[i]=x at this l1;generalize p.toList[j]=y at this l2;unfold kl Z5 at this;unfold Ou;simp only[List.getD_eq_getElem?_getD,List.getElem?_map,List.getElem?_eq_getElem l1,List.getElem?_eq_getElem l2,Option.map_some,Option.getD_some]at this⊢;by_cases ew:es[x].worth=es[y].worth
    ·rw[Zk ew];rw[Zk (by rw[ew])]at this;exact this
    ·rw[Zh ew];rw[Zh (fun z=>ew Zt)]at this;simp at this⊢;omega
   ·refine⟨ZA,fun k d hk=>?_⟩;rw[List.getElem?_map]at hk;cases e:p.toList[k]? with
    |none=>rw[e]at hk;cases hk
    |some i=>
     rw[e]at hk;have hi:=LF i (Ze e);have hd:es.getD i dflt=d:=by simpa using hk
     have ei:es[i]?=some d:=by rw[←hd];simp[hi]
     obtain⟨x,dy,wy,fY,pr,jt,gY,e1,F⟩:=FE.2 i d ei;have nD:∀{b o},H5 b=some o→b≠D:=fun h z=>by rw[z,hD]at h;cases h
     refine⟨x,dy,wy,fY,pr,jt,gY,?_,F.ob|>fun h=>⟨by rw[ao (nD h)];exact s6 _ _ h,by rw[ao (nD F.hw)];exact s6 _ _ F.hw,(F.pw.same s6).same (ax.upd OU),by rw[ao (nD F.hr)];exact s6 _ _ F.hr,by rw[ao (nD F.hp)];exact s6 _ _ F.hp,(F.pp.same s6).same (ax.upd OU),Mo.free F.fa,Mo.free F.fw,Mo.free F.fr,Mo.free F.fp⟩⟩;rw[List.getElem?_map,e];show some (ul.getD i .cO)=_;simp[e1]
theorem AM:aM ["_law_script","_law_k"] ["_law_script","_law_k"] (ar qF):=⟨rfl,rfl,rfl,by decide+kernel,rfl,by decide+kernel,by decide+kernel⟩
include T in
theorem AN{f:Addr}{fd:FuncData}(F:jh K "_law_at" "_law_at" qF f fd):a7 P w K mg base (cW P w) true 1 f fd ["_law_script","_law_k"] (Ej K):=by
 refine F.gI AM Zs (fun bT A outer s H vs Q E hr h hX=>?_)
 ·obtain⟨a,ns,k,rfl,_⟩:=h;rfl
 ·obtain⟨a,ns,k,rfl,hS,h0,q⟩:=h;refine⟨_,(Za (@aX _ _ _ _ _ _ _ _ (Zj mM (pv 1) (Y5 (aG K) (by exact rfl) T.cD (Y1 Zw)) (aV _)) (Y' (Zm (Y3 Zw (pv 1)))) aP) (Y' (Zm ai))),?_⟩;refine⟨_,rfl,_,rfl,a,_,rfl, .inl hS,_,_,rfl,rfl,_,rfl,?_⟩;refine a8 (fun h=>?_) (fun h=>?_)
  ·have h:k<((ns.map V.int).length:Int):=by simpa using h
   rw[List.length_map]at h;exact⟨_,rfl,_,rfl,a,_,k,_,rfl,rfl,hS,GN h0 h,q⟩
  ·have h:¬k<((ns.map V.int).length:Int):=by simpa using h
   rw[List.length_map]at h;rw[cell_out h0 h]at q;exact q
theorem uL:aM ["_law_found"] ["_law_found"] (ar kE):=⟨rfl,rfl,rfl,by decide+kernel,rfl,by decide+kernel,by decide+kernel⟩
include T in
theorem uM{f:Addr}{fd:FuncData}(F:jh K "_law_whole" "_law_whole" kE f fd):a7 P w K mg base (cW P w) true 1 f fd ["_law_found"] sT:=by
 refine F.gI uL Zs (fun bT A outer s H vs Q E hr h hX=>?_)
 ·obtain⟨i,rfl,_⟩:=h;rfl
 ·obtain⟨i,rfl,q⟩:=h;refine⟨_,(Y' (Zm (@v5 _ _ _ _ _ _ _ (Zg (eD K) (by exact rfl) T.cn PyProof.Rows.Boot.«isinstance» (Y4 Zw (Y1 (@iC _ _ (.ty "int") _ _ (by exact rfl) T.Bk PyProof.Rows.Boot.«int» Zv (Zy) (Zy))))) (@vZ _ _ _ _ _ (@JI _ _ _ _ (Zg (eD K) (by exact rfl) T.cn PyProof.Rows.Boot.«isinstance» (Y4 Zw (Y1 (@iC _ _ (.ty "bool") _ _ (by exact rfl) T.Kh PyProof.Rows.Boot.«bool» Zv (Zy) (Zy)))))))))),?_⟩;refine⟨_,rfl,_,_,_,true,_,rfl,rfl, .int i,rfl,_,rfl,?_⟩;refine jK ?_;exact⟨_,rfl,_,_,_,false,_,rfl,rfl, .int i,by kernel_rfl,_,rfl,q⟩
theorem bF:aM ["_law_cell","_law_other","_law_many","_law_letters","_law_stem","_law_rest","_law_k","_law_size","_law_found","_law_spot","_law_sign"] ["_law_cell","_law_other","_law_many"] (ar lI):=⟨rfl,rfl,rfl,by decide+kernel,rfl,by decide+kernel,by decide+kernel⟩
include T in
theorem xk{f:Addr}{fd:FuncData}(F:jh K "_law_bank" "_law_bank" lI f fd):a7 P w K mg base (cW P w) true 1 f fd ["_law_cell","_law_other","_law_many"] wJ:=by
 refine F.gI bF Zs (fun bT A outer s H vs Q E hr h hX=>?_)
 ·obtain⟨cell,other,many,rfl,_⟩:=h;rfl
 ·obtain⟨cell,other,many,rfl,Td,hm,q⟩:=h;have YQ:=GP;have Vp:(0:Int)<26:=Zy;have Vq:(0:Int)<12:=Zy;refine⟨_,(Za (Y0 (3) bF.nd dS) (Za (Y0 (4) bF.nd dS) (Za (Y0 (5) bF.nd (Y8 dU Zw ai)) (Za (@bj _ _ _ _ _ _ _ _ hX.own Zv (@cL _ _ _ _ _ _ (by exact rfl) T.dX (Y1 ai) (Zz)) (Y2 (6) bF.nd) (Za (Y0 (4) bF.nd (Y8 m7 (pv 4) (@aB _ _ _ _ _ _ _ D0 (pv 3) (Y8 bS (pv 5) ai) (fun _ _=>rfl)))) (Y' (Y0 (5) bF.nd (Y8 dU (pv 5) ai)))) (by intro _;rfl)) (Za (Y0 (7) bF.nd (Y8 bx ai (Y8 bS (Y8 dU Zw ai) ai))) (Za (Y0 (8) bF.nd (@bM _ _ _ _ af)) (Za (@bj _ _ _ _ _ _ _ _ hX.own Zv (@cL _ _ _ _ _ _ (by exact rfl) T.dX (Y1 (pv 2)) (Zz)) (Y2 (6) bF.nd) (Y' (@aX _ _ _ _ _ _ _ _ (Zj jm (Y8 bS Zw ai) ai (aV _)) (Y' (Zq (Y_ K PySem.F.plainAttrs_list PySem.F.slot_list_append PySem.F.type_list_append bC (pv 8) (Y1 (@lr _ _ _ _ _ _ _ _ _ _ ZH (pv 4) sf (@l6 _ _ _ (Y8 bx ai (Y8 bS (Y8 bx (pv 7) (pv 6)) ai)))))))) (Za (Y0 (9) bF.nd (Y8 bS (pv 1) (pv 7))) (Za (Y0 (10) bF.nd (@aB _ _ _ _ _ _ _ D0 (pv 3) (Y8 bS (Y8 bx (Y8 dU (pv 1) ai) (pv 6)) ai) (fun _ _=>rfl))) (Y' (Zq (Y_ K PySem.F.plainAttrs_list PySem.F.slot_list_append PySem.F.type_list_append bC (pv 8) (Y1 (Y8 m7 (Y8 m7 (@lr _ _ _ _ _ _ _ _ _ _ ZH (pv 4) sf (@l6 _ _ _ (pv 9))) (pv 10)) (@lr _ _ _ _ _ _ _ _ _ _ ZH (pv 4) (@l6 _ _ _ (Y8 bx (pv 9) ai)) (@l6 _ _ _ (pv 7)))))))))))) (by intro _;rfl)) (Y' (Zm (pv 8)))))))))),?_⟩;refine⟨_,rfl,_,_,rfl,rfl,⟨Zy,Zy⟩,?_⟩;refine⟨12,rfl,Zy,Zy,?_⟩;refine dI (fun i σ H'=>H'=H∧∃(bU:Str)(rest:Int)(kv:Option V),bU.length=i∧lows bU∧σ=[some (.int cell),some (.int other),some (.int many),some (.str NR),some (.str bU),some (.int rest),kv,none,none,none,none]) ⟨rfl,_,_,_,(by decide+kernel),(show(Str.ofString "").cps.toList.all low=true by decide+kernel),rfl⟩ ?_ ?_
  ·rintro i σ H' hi ⟨rfl,bU,rest,kv,hl,LG,rfl⟩;have hi:i<12:=hi;refine⟨_,rfl,_,rfl,_,rfl,_,_,rfl,rfl,Vp,_,_,_,rfl,rfl,aF Zt,Es,_,_,rfl,rfl,aF (show bU.length+1≤100000 by omega),?_⟩;refine⟨_,rfl,_,_,rfl,rfl,⟨Zy,Zy⟩,rfl,_,_,_,?_,?_,rfl⟩
   ·rw[len_app,hl];rfl
   ·have h1:bU.cps.toList.all low=true:=LG;have h2:=Bn rest;unfold lows;rw[oG,List.all_append,h1];simp[h2]
  ·rintro σ H' ⟨rfl,bU,rest,kv,hl,LG,rfl⟩;have hl:bU.length=12:=hl;refine⟨_,rfl,_,_,rfl,rfl,⟨Zy,Zy⟩,_,_,rfl,rfl,Vq,_,_,rfl,rfl,?_⟩;have z0:1≤1+cell/2%12∧1+cell/2%12≤12:=Zx;refine⟨aF Zr,fun D hD=>?_⟩;refine⟨_,rfl,many,rfl,Zx,Zx,?_⟩;refine dI (fun i σ H2=>(∃u v w,σ=[some (.int cell),some (.int other),some (.int many),some (.str NR),some (.str bU),some (.int rest),u,some (.int (1+cell/2%12)),some (.ref D),v,w])∧H2 D=some (.lst (((List.range i).map (j1 bU cell other)).map V.str))∧ax H' H2) ⟨⟨_,_,_,rfl⟩,ae,ax.upd hD⟩ ?_ ?_
   ·rintro i σ H2 hi ⟨⟨u,v,w,rfl⟩,lO,s2⟩;have hi:i<12:=Zx;have nx:∀z,z=j1 bU cell other i→(List.range i).map (fun k=>V.str (j1 bU cell other k))++[V.str z]=((List.range (i+1)).map (j1 bU cell other)).map V.str:=fun z e=>by
     rw[List.range_succ,e];simp
    have h_:(((List.range i).map (j1 bU cell other)).map V.str).length<sizeLine:=ba (by simp;omega);refine⟨_,rfl,_,_,rfl,rfl,(show(0:Int)<2 by decide),rfl,_,rfl,?_⟩;refine a8 (fun h=>?_) (fun h=>?_)
    ·have h:cell%2=1:=by simpa using h
     refine⟨_,rfl, .inl ⟨rfl,_, .of lO⟩,_,rfl,_,rfl,_,rfl,_,_,rfl,rfl,_,_,rfl,rfl,Vq,_,_,rfl,rfl,_,rfl,bU,rfl,aF Zt,D,_,_,rfl,rfl,lO,h_,⟨_,_,_,rfl⟩,?_,s2.eZ hD⟩;rw[ae];have:=nx (Txt.slice bU none (some (1+(1+cell/2%12+(0+(i:Int)))%12))) (by simp[j1,h]);rw[←this];simp
    ·have h:¬cell%2=1:=by simpa using h
     have z1:0≤other%(1+cell/2%12)∧other%(1+cell/2%12)<1+cell/2%12:=⟨Int.emod_nonneg _ (Zx),Int.emod_lt_of_pos _ (Zx)⟩
     have b1:=vD bU none (some (other%(1+cell/2%12)));have b2:=vD bU (some (other%(1+cell/2%12)+1)) (some (1+cell/2%12));refine⟨_,rfl,_,rfl,_,_,rfl,rfl,(show(0:Int)<1+cell/2%12 by omega),?_⟩;refine⟨_,rfl,_,rfl,_,_,rfl,rfl,⟨Zy,Zy⟩,_,rfl,_,_,rfl,rfl,_,_,rfl,rfl,Vp,_,_,_,rfl,rfl,aF Zt,Es,?_⟩;refine⟨_,rfl, .inl ⟨rfl,_, .of lO⟩,_,rfl,_,rfl,_,rfl,bU,rfl,aF Zt,_,rfl,_,_,rfl,rfl,aF (show(Txt.slice bU none (some (other%(1+cell/2%12)))).length+1≤100000 by omega),_,rfl,_,rfl,_,_,rfl,rfl,_,rfl,_,rfl,_,rfl,bU,rfl,aF Zt,_,_,rfl,rfl,?_,D,_,_,rfl,rfl,lO,h_,⟨_,_,_,rfl⟩,?_,s2.eZ hD⟩
     ·rw[len_app];exact aF (show(Txt.slice bU none (some (other%(1+cell/2%12)))).length+1+_≤100000 by omega)
     rw[ae];have:=nx (Txt.slice bU none (some (other%(1+cell/2%12)))++⟨#[97+((other/12+(0+(i:Int)))%26).toNat]⟩++Txt.slice bU (some (other%(1+cell/2%12)+1)) (some (1+cell/2%12))) (by simp[j1,h]);rw[←this];simp
   ·rintro σ H2 ⟨⟨u,v,w,rfl⟩,lO,s2⟩;refine⟨_,rfl,q H2 D _ s2 hD lO Zr ?_ (ZL hl cell other (Zx))⟩;intro z hz;obtain⟨k,_,rfl⟩:=List.mem_map.mp hz;exact Ew hl LG cell other k
variable(a_:bK P w K mg base true 1 "_law_at" ["_law_script","_law_k"] (Ej K))
theorem gv:aM ["_law_script","_law_cell","_law_spot","_law_many","_law_bank_here","_law_book_here","_law_rest","_law_k"] ["_law_script","_law_cell","_law_spot","_law_many","_law_bank_here"] (ar lJ):=⟨rfl,rfl,rfl,by decide+kernel,rfl,by decide+kernel,by decide+kernel⟩
include T a_ in
theorem xl{f:Addr}{fd:FuncData}(F:jh K "_law_book" "_law_book" lJ f fd):a7 P w K mg base (cW P w) true 2 f fd ["_law_script","_law_cell","_law_spot","_law_many","_law_bank_here"] (wL K):=by
 refine F.gI gv Zs (fun bT A outer s H vs Q E hr h hX=>?_)
 ·obtain⟨a,b,ns,zs,c,p,m,rfl,_⟩:=h;rfl
 ·obtain⟨a,b,ns,zs,c,p,m,rfl,hS,hb,⟨X3,NP⟩,X4,Td,BY,q⟩:=h;refine⟨_,(Za (Y0 (5) gv.nd (@bM _ _ _ _ af)) (Za (Y0 (6) gv.nd (pv 1)) (Za (@bj _ _ _ _ _ _ _ _ hX.own Zv (@cL _ _ _ _ _ _ (by exact rfl) T.dX (Y1 (pv 3)) (Zz)) (Y2 (7) gv.nd) (Za (Zq (Y_ K PySem.F.plainAttrs_list PySem.F.slot_list_append PySem.F.type_list_append bC (pv 5) (Y1 (Y3 (pv 4) (Y8 bS (Y8 bx (Y8 bx (pv 6) (pv 7)) (YZ a_ aQ (Y4 Zw (Y1 (Y8 bx (pv 2) (pv 7)))))) (Y5 (aG K) (by exact rfl) T.cD (Y1 (pv 4)))))))) (Y' (Y0 (6) gv.nd (Y8 dU (pv 6) (Y5 (aG K) (by exact rfl) T.cD (Y1 (pv 4))))))) (by intro _;rfl)) (Y' (Zm (pv 5)))))),?_⟩;refine⟨aF Zr,fun l hl=>?_⟩;refine⟨_,rfl,?_⟩;refine⟨_,rfl,m,rfl,Zx,Zx,?_⟩;refine dI (fun i σ H'=>(∃r u,σ=[some (.ref a),some (.int c),some (.int p),some (.int m),some (.ref b),some (.ref l),some (.int r),u])∧ax H H'∧∃ws:List Str,H' l=some (.lst (ws.map V.str))∧ws.length=i∧∀w∈ws,w∈zs) ⟨⟨_,_,rfl⟩,ax.upd hl,[],ae,rfl,fun w hw=>by cases hw⟩ ?_ ?_
  ·rintro i σ H' hi ⟨⟨r,u,rfl⟩,s1,ws,kW,rQ,LH⟩;have hi:i<m.toNat:=hi;have jP:=s1 _ _ hb;have z0:0≤(r+(0+(i:Int))+cell ns (p+(0+(i:Int))))%(zs.length:Int):=Int.emod_nonneg _ (Zx);have z1:(r+(0+(i:Int))+cell ns (p+(0+(i:Int))))%(zs.length:Int)<(zs.length:Int):=Int.emod_lt_of_pos _ (Zx);obtain⟨w,hw,zC⟩:=ZF zs z0 z1;have el:(zs.map V.str).length=zs.length:=List.length_map ..;refine⟨_,rfl, .inl ⟨rfl,_, .of kW⟩,_,rfl,_,rfl,_,rfl,_,_,rfl,rfl,_,rfl,_,rfl,_,rfl,_,_,rfl,rfl,a,ns,_,rfl,s1.seq hS,Zx,_,_,rfl,rfl,_,rfl,b,_,rfl, .inl (.of jP),_,_,rfl,rfl,(by rw[el];show(0:Int)<_;omega),b,_,_,_,rfl,rfl, .of jP,(by rw[el];exact zC),l,_,_,rfl,rfl,kW,ba (by rw[List.length_map];omega),?_⟩;have HB:b≠l:=aE hb hl;have xf:upd H' l (.lst (ws.map V.str++[.str w])) b=some (.lst (zs.map V.str)):=by rw[ao HB];exact jP
   refine⟨_,rfl,_,rfl,b,_,rfl, .inl (.of xf),_,_,rfl,rfl,⟨by rw[el];omega,by rw[el];omega⟩,⟨_,_,rfl⟩,s1.eZ hl,ws++[w],?_,by simp[rQ],?_⟩
   ·rw[ae];simp
   ·intro x hx;rcases List.mem_append.mp hx with hx|hx
    ·exact LH x hx
    ·have:x=w:=by simpa using hx
     rw[this];exact hw
  ·rintro σ H' ⟨⟨r,u,rfl⟩,s1,ws,kW,rQ,LH⟩;exact⟨_,rfl,q H' l ws s1 hl kW rQ LH⟩
theorem cw:aM ["_law_script","_law_cell","_law_spot","_law_many","_law_first","_law_bank_here","_law_book_here","_law_rest","_law_place","_law_k","_law_pick"] ["_law_script","_law_cell","_law_spot","_law_many","_law_first","_law_bank_here"] (ar iJ):=⟨rfl,rfl,rfl,by decide+kernel,rfl,by decide+kernel,by decide+kernel⟩
include T a_ in
theorem uN{f:Addr}{fd:FuncData}(F:jh K "_law_quote" "_law_quote" iJ f fd):a7 P w K mg base (cW P w) true 2 f fd ["_law_script","_law_cell","_law_spot","_law_many","_law_first","_law_bank_here"] (sY K):=by
 refine F.gI cw Zs (fun bT A outer s H vs Q E hr h hX=>?_)
 ·obtain⟨a,b,x,ns,zs,LI,c,p,m,rfl,_⟩:=h;rfl
 ·obtain⟨a,b,x,ns,zs,LI,c,p,m,rfl,hS,hb,hx,⟨X3,NP⟩,yb,Tf,X4,Td,BY,q⟩:=h;have hu:=hr.units;have Lz:(A.deeper (PyProof.Rows.envOfC "_law_quote" (ar iJ) s.heap.objs.size f bT)).units<cLine:=Zx;have c8:(0:Int)<8:=Zy;refine⟨_,(Za (Y0 (6) cw.nd (@bM _ _ _ _ af)) (Za (Y0 (7) cw.nd (pv 1)) (Za (Y0 (8) cw.nd ai) (Za (@bj _ _ _ _ _ _ _ _ hX.own Zv (@cL _ _ _ _ _ _ (by exact rfl) T.dX (Y1 (pv 3)) (Zz)) (Y2 (9) cw.nd) (Za (Y0 (10) cw.nd (Y8 bx (pv 7) (YZ a_ aQ (Y4 Zw (Y1 (Y8 bx (pv 2) (pv 9))))))) (Za (Y0 (7) cw.nd (Y8 dU (pv 7) (Y8 m6 ai (Y5 (aG K) (by exact rfl) T.cD (Y1 (pv 5)))))) (Y' (@aX _ _ _ _ _ _ _ _ (@PW.pt _ _ _ (@pw_and _ _ _ _ _ _ _ (Zj mM (Y8 bS (pv 10) ai) ai (aV _)) (@pw_and1 _ _ _ _ (Zj (sU K Lz) (pv 4) (@bM _ _ _ _ af) (aV _))))) (Za (Y0 (8) cw.nd (Y8 bx (pv 8) (@gO _ _ _ _ _ _ _ _ _ qc Zv T.Bk PyProof.Rows.Boot.«int» (Y1 (@iD _ _ _ _ _ _ _ _ jm (Y8 bS (pv 10) ai) ai (aV _))) (Zy) (Zy) (Zz) (Zz)))) (Za (Zq (Y_ K PySem.F.plainAttrs_list PySem.F.slot_list_append PySem.F.type_list_append bC (pv 6) (Y1 (Y3 (pv 4) (Y8 bS (pv 8) (Y5 (aG K) (by exact rfl) T.cD (Y1 (pv 4)))))))) (Y' (Y0 (8) cw.nd (Y8 bx (pv 8) ai))))) (Y' (Zq (Y_ K PySem.F.plainAttrs_list PySem.F.slot_list_append PySem.F.type_list_append bC (pv 6) (Y1 (Y3 (pv 5) (Y8 bS (Y8 dU (pv 10) ai) (Y5 (aG K) (by exact rfl) T.cD (Y1 (pv 5))))))))))))) (by intro _;rfl)) (Y' (Zm (pv 6))))))),?_⟩;refine⟨aF Zr,fun l hl=>?_⟩;refine⟨_,rfl,?_⟩;refine⟨_,rfl,m,rfl,Zx,Zx,?_⟩;refine dI (fun i σ H'=>(∃(r pl:Int)(u1 u2:Option V),σ=[some (.ref a),some (.int c),some (.int p),some (.int m),some (.ref x),some (.ref b),some (.ref l),some (.int r),some (.int pl),u1,u2])∧ax H H'∧∃ws:List Str,H' l=some (.lst (ws.map V.str))∧ws.length=i∧∀w∈ws,w∈zs) ⟨⟨_,_,_,_,rfl⟩,ax.upd hl,[],ae,rfl,fun w hw=>by cases hw⟩ ?_ ?_
  ·rintro i σ H' hi ⟨⟨r,pl,u1,u2,rfl⟩,s1,ws,kW,rQ,LH⟩;have hi:i<m.toNat:=hi;have jP:=s1 _ _ hb;have k8:=s1 _ _ hx;have el:(zs.map V.str).length=zs.length:=List.length_map ..;have Vr:(LI.map V.str).length=LI.length:=List.length_map ..;have h_:(ws.map V.str).length<sizeLine:=ba (by rw[List.length_map];omega);refine⟨_,rfl,_,rfl,_,rfl,_,rfl,_,_,rfl,rfl,a,ns,_,rfl,s1.seq hS,Zx,_,_,rfl,rfl,?_⟩;refine⟨_,rfl,_,rfl,b,_,rfl, .inl (.of jP),_,_,rfl,rfl, .inl (Zy),_,_,rfl,rfl,⟨by rw[el];omega,by rw[el];omega⟩,?_⟩;have fin:∀H3 (w:Str),ax H H3→H3 l=some (.lst (ws.map V.str))→w∈zs→ax H (upd H3 l (.lst (ws.map V.str++[.str w])))∧∃Tg:List Str,upd H3 l (.lst (ws.map V.str++[.str w])) l=some (.lst (Tg.map V.str))∧Tg.length=i+1∧∀w∈Tg,w∈zs:=fun H3 w s3 h3 hw=>by
    refine⟨s3.eZ hl,ws++[w],by rw[ae];simp,by simp[rQ],fun x hx=>?_⟩;rcases List.mem_append.mp hx with hx|hx
    ·exact LH x hx
    ·have:x=w:=by simpa using hx
     rw[this];exact hw
   have other:∀H3,ax H H3→H3 l=some (.lst (ws.map V.str))→H3 b=some (.lst (zs.map V.str))→∃w,w∈zs∧rg (zs.map V.str) ((r+cell ns (p+(0+(i:Int))))/8%((zs.map V.str).length:Int))=some (.str w):=fun H3 _ _ _=>by
    rw[el];exact ZF zs (Int.emod_nonneg _ (Zx)) (Int.emod_lt_of_pos _ (Zx))
   refine⟨_,rfl,_,_,rfl,rfl,c8,_,_,rfl,rfl,_,rfl,?_⟩;refine a8 (fun h1=>?_) (fun h1=>?_)
   ·refine⟨_,rfl,aF Zr,fun pn Mp=>⟨x,pn,_,rfl,rfl, .of (ax.upd Mp _ _ k8), .of ae,_,rfl,?_⟩⟩;have s2:ax H (upd H' pn (.lst [])):=s1.trans (ax.upd Mp);have vz:=ax.upd (o:= .lst []) Mp _ _ kW;refine a8 (fun h2=>?_) (fun h2=>?_)
    ·have eV:LI≠[]:=by simpa using h2
     have Th:0<LI.length:=List.length_pos_iff.mpr eV;obtain⟨w,hw,zC⟩:=ZF LI (i:=(pl+(if decide ((r+cell ns (p+(0+(i:Int))))%8=4)=true then 1 else 0))%((LI.length:Nat):Int)) (Int.emod_nonneg _ (Zx)) (Int.emod_lt_of_pos _ (Zx));obtain⟨a1,a2⟩:=fin _ w s2 vz (Tf w hw);refine⟨_,rfl,_,rfl,_,_,rfl,rfl,c8,rfl, .inr ⟨_,rfl,_,_,rfl,rfl,?_⟩⟩;refine⟨_,rfl, .inl ⟨rfl,_, .of vz⟩,_,rfl,_,rfl,_,rfl,x,_,rfl, .inl (.of (s2 _ _ hx)),_,_,rfl,rfl,(by rw[Vr];show(0:Int)<_;omega),x,_,_,_,rfl,rfl, .of (s2 _ _ hx),by rw[Vr];simpa[beq_iff_eq,we]using zC,l,_,_,rfl,rfl,vz,h_,?_⟩;exact⟨_,rfl,_,_,rfl,rfl,⟨_,_,_,_,rfl⟩,a1,a2⟩
    ·obtain⟨w,hw,zC⟩:=other _ s2 vz (s2 _ _ hb);obtain⟨a1,a2⟩:=fin _ w s2 vz hw;refine⟨_,rfl, .inl ⟨rfl,_, .of vz⟩,_,rfl,_,rfl,_,_,rfl,rfl,⟨Zy,Zy⟩,_,rfl,b,_,rfl, .inl (.of (s2 _ _ hb)),_,_,rfl,rfl,(by rw[el];show(0:Int)<_;omega),b,_,_,_,rfl,rfl, .of (s2 _ _ hb),zC,l,_,_,rfl,rfl,vz,h_,⟨_,_,_,_,rfl⟩,a1,a2⟩
   ·refine eU ?_;obtain⟨w,hw,zC⟩:=other _ s1 kW jP;obtain⟨a1,a2⟩:=fin _ w s1 kW hw;refine⟨_,rfl, .inl ⟨rfl,_, .of kW⟩,_,rfl,_,rfl,_,_,rfl,rfl,⟨Zy,Zy⟩,_,rfl,b,_,rfl, .inl (.of jP),_,_,rfl,rfl,(by rw[el];show(0:Int)<_;omega),b,_,_,_,rfl,rfl, .of jP,zC,l,_,_,rfl,rfl,kW,h_,⟨_,_,_,_,rfl⟩,a1,a2⟩
  ·rintro σ H' ⟨⟨r,pl,u1,u2,rfl⟩,s1,ws,kW,rQ,LH⟩;exact⟨_,rfl,q H' l ws s1 hl kW rQ LH⟩
theorem eC:aM ["_law_script","_law_spot","_law_pick","_law_same","_law_most"] ["_law_script","_law_spot"] (ar gi):=⟨rfl,rfl,rfl,by decide+kernel,rfl,by decide+kernel,by decide+kernel⟩
include T a_ in
theorem rT{f:Addr}{fd:FuncData}(F:jh K "_law_numbers" "_law_numbers" gi f fd):a7 P w K mg base (cW P w) true 2 f fd ["_law_script","_law_spot"] (nc K):=by
 refine F.gI eC Zs (fun bT A outer s H vs Q E hr h hX=>?_)
 ·obtain⟨a,ns,k,rfl,_⟩:=h;rfl
 ·obtain⟨a,ns,k,rfl,hS,h0,q⟩:=h;have c2:(0:Int)<2:=Zy;have c4:(0:Int)<4:=Zy;have c6:(0:Int)<6:=Zy;have cM:(0:Int)<1000000:=Zy;have Vs:∀i:Int,JR i 4:=fun i=>⟨Zy,Zy⟩
  have X5:∀i:Int,JR i 8:=fun i=>⟨Zy,Zy⟩
  refine⟨_,(Za (@oC _ _ _ _ _ _ _ _ _ _ _ _ _ _ _ (2) _ _ (by exact rfl) eC.nd Zv (by exact rfl) (show bD ["_law_script","_law_spot","_law_pick","_law_same","_law_most"] (ar gi) _ ["_law_k"] [0,1] ["_law_script","_law_spot"]from⟨rfl,by decide+kernel,by decide+kernel,by decide+kernel,rfl,rfl,by decide+kernel,by decide+kernel,by decide+kernel⟩) (@cL _ _ _ _ _ _ (by exact rfl) T.dX (Y1 ai) (Zz)) (fun _ _ _ _ _=>(Y2 (0) (show(["_law_k","_law_script","_law_spot"]:List Str).Nodup by decide+kernel))) (fun _ _ _ _ _=>iF) (fun _ _ _ _ _=>(YZ a_ aQ (Y4 (pv 1) (Y1 (Y8 bx (pv 2) (pv 0)))))) (Zz) (by intro _;rfl)) (Za (@aX _ _ _ _ _ _ _ _ (Zj mM (Y8 bS (Y3 (pv 2) ai) ai) ai (aV _)) (Za (Y0 (3) eC.nd (Y8 bx ai (Y8 bS (Y8 dU (Y3 (pv 2) ai) ai) ai))) (Y' (Zm (@bM _ _ _ _ (Y4 (pv 3) (Y4 (Y8 bS (Y3 (pv 2) ai) ai) (Y4 (Y8 bS (Y3 (pv 2) ai) ai) (Y1 (Y8 bx ai (Y8 bS (Y3 (pv 2) ai) (Y8 m6 ai (pv 3)))))))))))) aP) (Za (Y0 (3) eC.nd (Y8 bx ai (Y8 bS (Y8 dU (Y3 (pv 2) ai) ai) ai))) (Za (Y0 (4) eC.nd (Y3 (@bM _ _ _ _ (Y4 (Zg (qb rfl) (by exact rfl) T.Ei PyProof.Rows.Boot.«min» (Y4 ai (Y1 (Y8 m6 ai (pv 3))))) (Y1 ai))) (Y8 bS (Y8 dU (Y3 (pv 2) ai) ai) ai))) (Y' (Zm (@bM _ _ _ _ (Y4 (pv 3) (Y4 (Y8 bS (Y3 (pv 2) ai) ai) (Y4 (Y8 bS (Y3 (pv 2) ai) ai) (Y1 (Y8 bx ai (Y8 bS (Y3 (pv 2) ai) (pv 4)))))))))))))),?_⟩;refine⟨4,rfl,Zy,Zy,fun D hD=>?_⟩;refine sP (fun i ys bH H'=>(∃u,bH=[u,some (.ref a),some (.int k)])∧∃is:List Int,ys=is.map V.int∧is.length=i∧H' D=some (.lst ys)∧ax H H') ⟨⟨_,rfl⟩,[],rfl,rfl,ae,ax.upd hD⟩ ?_ ?_
  ·rintro i ys bH H' hi ⟨⟨u,rfl⟩,is,rfl,hl,X6,s1⟩;have hi:i<4:=hi;refine qh ?_;exact⟨_,rfl,_,rfl,_,rfl,_,_,rfl,rfl,a,ns,_,rfl,s1.seq hS,by lia,X6,ba (by rw[List.length_map];lia),⟨_,rfl⟩,is++[cell ns (k+(0+(i:Int)))],ZA,by simp[hl],ae,s1.eZ hD⟩
  ·rintro ys bH H1 ⟨_,is,rfl,hl,rP,s1⟩;obtain⟨p0,p1,p2,p3,rfl⟩:=GU hl;refine⟨_,rfl,D,_,0,_,rfl,rfl, .of rP,av (j:=0) rfl,_,_,rfl,rfl,c4,_,_,rfl,rfl,_,rfl,?_⟩;refine a8 (fun _=>?_) (fun _=>?_)
   ·refine⟨_,rfl,D,_,0,_,rfl,rfl, .of rP,av (j:=0) rfl,_,_,rfl,rfl,Vs _,_,_,rfl,rfl,c6,_,_,rfl,rfl,?_⟩;have z0:1≤1+p0/4%6∧1+p0/4%6≤6:=by lia
    have z3:0≤p3%(3*(1+p0/4%6)):=Int.emod_nonneg _ (by lia);have z4:p3%(3*(1+p0/4%6))<3*(1+p0/4%6):=Int.emod_lt_of_pos _ (by lia);exact⟨_,rfl,_,rfl,D,_,1,_,rfl,rfl, .of rP,av (j:=1) rfl,_,_,rfl,rfl,c4,_,rfl,D,_,2,_,rfl,rfl, .of rP,av (j:=2) rfl,_,_,rfl,rfl,c4,_,rfl,D,_,3,_,rfl,rfl, .of rP,av (j:=3) rfl,_,rfl,_,_,rfl,rfl, .inl (Zy),_,_,rfl,rfl,(show(0:Int)<3*(1+p0/4%6) by lia),_,_,rfl,rfl,aF Zr,fun p hp=>q _ p _ _ _ _ (s1.trans (ax.upd hp)) (s1.free hp) ae Zu (by lia) (by lia) (by lia)⟩
   ·refine⟨_,rfl,D,_,0,_,rfl,rfl, .of rP,av (j:=0) rfl,_,_,rfl,rfl,X5 _,_,_,rfl,rfl,(show(0:Int)<999999 by decide),_,_,rfl,rfl,?_⟩;have z0:1≤1+p0/8%999999∧1+p0/8%999999≤999999:=by lia
    obtain⟨m,BY,hm⟩:=int_at [if 3*(1+p0/8%999999)<999999 then 3*(1+p0/8%999999)else 999999,999999] (i:=p0/4%2) (by lia) (show p0/4%2<2 by lia);have F8:1≤m∧m≤999999:=by
     simp only[List.mem_cons,List.not_mem_nil,or_false]at BY;rcases BY with rfl|rfl
     ·split<;>lia
     ·lia
    refine⟨_,rfl,_,_,rfl,rfl, .inl (Zy),_,_,rfl,aF Zr,fun p hp=>?_⟩;have lO:=ax.upd (o:= .lst [.int (if 3*(1+p0/8%999999)<999999 then 3*(1+p0/8%999999)else 999999), .int 999999]) hp _ _ rP;refine⟨_,rfl,D,_,0,_,rfl,rfl, .of lO,av (j:=0) rfl,_,_,rfl,rfl,Vs _,_,_,rfl,rfl,c2,p,_,_,_,rfl,rfl, .of ae,hm,?_⟩;have z3:0≤p3%m:=Int.emod_nonneg _ (by lia);have z4:p3%m<m:=Int.emod_lt_of_pos _ (by lia);exact⟨_,rfl,_,rfl,D,_,1,_,rfl,rfl, .of lO,av (j:=1) rfl,_,_,rfl,rfl,cM,_,rfl,D,_,2,_,rfl,rfl, .of lO,av (j:=2) rfl,_,_,rfl,rfl,cM,_,rfl,D,_,3,_,rfl,rfl, .of lO,av (j:=3) rfl,_,rfl,_,_,rfl,rfl,(show(0:Int)<m by lia),_,_,rfl,rfl,aF Zr,fun p2 Cf=>q _ p2 _ _ _ _ ((s1.trans (ax.upd hp)).trans (ax.upd Cf)) ((s1.trans (ax.upd hp)).free Cf) ae Zu (by lia) (by lia) (by lia)⟩
theorem du:aM ["_law_cell","_law_bank_here","_law_same","_law_found","_law_rest","_law_x","_law_y","_law_price"] ["_law_cell","_law_bank_here","_law_same"] (ar lK):=⟨rfl,rfl,rfl,by decide+kernel,rfl,by decide+kernel,by decide+kernel⟩
include T in
theorem xm{f:Addr}{fd:FuncData}(F:jh K "_law_near" "_law_near" lK f fd):a7 P w K mg base (cW P w) true 1 f fd ["_law_cell","_law_bank_here","_law_same"] wK:=by
 refine F.gI du Zs (fun bT A outer s H vs Q E hr h hX=>?_)
 ·obtain⟨cell,same,b,zs,rfl,_⟩:=h;rfl
 ·obtain⟨cell,same,b,zs,rfl,hb,X7,hw,hn,YR,JT,q⟩:=h;have ND:(0:Int)<same+3:=Zx;refine⟨_,(Za (Y0 (3) du.nd (@bM _ _ _ _ af)) (Za (Y0 (4) du.nd Zw) (Za (@bj _ _ _ _ _ _ _ _ hX.own Zv (@bg _ K _ _ _ (pv 1) (Zz)) (Y2 (5) du.nd) (Y' (@bj _ _ _ _ _ _ _ _ hX.own Zv (@bg _ K _ _ _ (pv 1) (Zz)) (Y2 (6) du.nd) (Y' (@aX _ _ _ _ _ _ _ _ (Zj qZ (pv 5) (pv 6) (aV _)) (Za (Y0 (7) du.nd (Y8 bS (Y8 dU (pv 4) ai) (Y8 bx (pv 2) ai))) (Zf (@aX _ _ _ _ _ _ _ _ (Zj jm (Y8 bS (pv 4) ai) ai (aV _)) (Za (Zq (Y_ K PySem.F.plainAttrs_list PySem.F.slot_list_append PySem.F.type_list_append bC (pv 3) (Y1 (@eX _ _ _ _ _ (Y4 (pv 5) (Y4 (pv 6) (Y1 (Zg (qb rfl) (by exact rfl) T.Ei PyProof.Rows.Boot.«min» (Y4 (pv 7) (Y1 ai)))))))))) (Y' (Y0 (4) du.nd (Y8 dU (pv 4) (Y8 bx (pv 2) ai))))) (Y' (@aX _ _ _ _ _ _ _ _ (Zj jm (Y8 bS (pv 4) ai) ai (aV _)) (Y' (Zq (Y_ K PySem.F.plainAttrs_list PySem.F.slot_list_append PySem.F.type_list_append bC (pv 3) (Y1 (@eX _ _ _ _ _ (Y4 (pv 5) (Y4 (pv 6) (Y1 ai)))))))) aP))) (Y' (Y0 (4) du.nd (Y8 dU (pv 4) ai))))) aP)) (by intro _;rfl))) (by intro _;rfl)) (Y' (Zm (pv 3)))))),?_⟩;refine⟨aF Zr,fun l hl=>?_⟩;refine⟨_,rfl,?_⟩;have YS:b≠l:=aE hb hl;refine⟨_,rfl,b,rfl,⟨_, .of (ax.upd hl _ _ hb)⟩,?_⟩;refine bJ (xs:=zs.map V.str) (fun i σ H'=>(∃(rest:Int)(u1 u2 u3:Option V),σ=[some (.int cell),some (.ref b),some (.int same),some (.ref l),some (.int rest),u1,u2,u3])∧ax H H'∧∃xs fs,H' l=some (.lst xs)∧dR H' xs fs∧c7 zs i 0 fs) ⟨⟨_,_,_,_,rfl⟩,ax.upd hl,[],[],ae, .nil, .nil⟩ ?_ ?_ ?_
  ·rintro i σ H' _ ⟨_,s1,_⟩;exact .of (s1 _ _ hb)
  ·rintro i v σ H' hv ⟨⟨rest,u1,u2,u3,rfl⟩,s1,xs,fs,kW,T1,P1⟩;obtain⟨x,hx,rfl⟩:∃x,zs[i]?=some x∧v= .str x:=l' hv;have hi:i<zs.length:=(Y7 hx).1;refine⟨_,rfl,b,rfl,⟨_, .of (s1 _ _ hb)⟩,?_⟩;refine bJ (xs:=zs.map V.str) (fun j σ H'=>(∃(rest:Int)(u2 u3:Option V),σ=[some (.int cell),some (.ref b),some (.int same),some (.ref l),some (.int rest),some (.str x),u2,u3])∧ax H H'∧∃xs fs,H' l=some (.lst xs)∧dR H' xs fs∧c7 zs i j fs) ⟨⟨_,_,_,rfl⟩,s1,xs,fs,kW,T1,P1⟩ ?_ ?_ ?_
   ·rintro j σ H' _ ⟨_,s1,_⟩;exact .of (s1 _ _ hb)
   ·clear s1 kW T1 P1 xs fs u1 u2 u3 rest H';rintro j v σ H' hv ⟨⟨rest,u2,u3,rfl⟩,s1,xs,fs,kW,T1,P1⟩;obtain⟨y,hy,rfl⟩:∃y,zs[j]?=some y∧v= .str y:=l' hv;have D5:xs.length<1000:=by
     have h1:=P1.vx;have h2:i*(zs.length-1)≤8*7:=Nat.mul_le_mul Zt (Zx);have h3:j<zs.length:=(Y7 hy).1;have h4:=T1.1;omega
    refine⟨_,rfl,_,rfl,rfl,_,rfl,?_⟩;refine a8 (fun h=>?_) (fun h=>?_)
    rotate_left
    ·exact⟨⟨_,_,_,rfl⟩,s1,xs,fs,kW,T1,P1.skip⟩
    have eV:¬x=y:=by simpa using h
    refine⟨_,rfl,_,_,rfl,rfl,⟨Zy,Zy⟩,_,rfl,_,_,rfl,rfl,_,_,rfl,rfl,ND,?_⟩;have p0:0≤rest/3%(same+3):=Int.emod_nonneg _ (Zx);have add:∀(t:Addr)(ht:H' t=none)(pr:Int),0≤pr→pr≤999999→ax H (upd (upd H' t (.tup [.str x, .str y, .int pr])) l (.lst (xs++[.ref t])))∧∃FO Jl,upd (upd H' t (.tup [.str x, .str y, .int pr])) l (.lst (xs++[.ref t])) l=some (.lst FO)∧dR (upd (upd H' t (.tup [.str x, .str y, .int pr])) l (.lst (xs++[.ref t]))) FO Jl∧c7 zs i (j+1) Jl:=fun t ht pr h0 h1=>by
     refine⟨(s1.trans (ax.upd ht)).eZ hl,_,fs++[(x,y,pr)],ae,?_,P1.add hn hw hx hy eV h0 h1⟩;have T2:dR (upd H' t (.tup (Ki (x,y,pr)))) (xs++[.ref t]) (fs++[(x,y,pr)]):=(T1.same (ax.upd ht)).snoc ae;exact T2.cI (e6.lst (ax.upd ht _ _ kW))
    refine⟨fun σ H2=>(∃(rest:Int)(u3:Option V),σ=[some (.int cell),some (.ref b),some (.int same),some (.ref l),some (.int rest),some (.str x),some (.str y),u3])∧ax H H2∧∃xs fs,H2 l=some (.lst xs)∧dR H2 xs fs∧c7 zs i (j+1) fs,?_,?_⟩
    ·refine⟨_,rfl,_,_,rfl,rfl,(show(0:Int)<3 by decide),rfl,_,rfl,?_⟩;refine a8 (fun _=>?_) (fun _=>?_)
     ·refine⟨_,rfl, .inl ⟨rfl,_, .of kW⟩,_,rfl,_,rfl,_,rfl,_,_,rfl,aF Zr,fun t ht=>⟨l,xs,_,rfl,rfl,ax.upd ht _ _ kW,ba Zt,?_⟩⟩;obtain⟨a1,a2⟩:=add t ht (if 999999<rest/3%(same+3)then 999999 else rest/3%(same+3)) (by split<;>omega) (by split<;>omega);exact⟨_,rfl,_,rfl,_,_,rfl,rfl,_,_,rfl,rfl,⟨ND,Zx⟩,⟨_,_,rfl⟩,a1,a2⟩
     ·refine⟨_,rfl,_,_,rfl,rfl,(show(0:Int)<9 by decide),rfl,_,rfl,?_⟩;refine a8 (fun _=>?_) (fun _=>?_)
      ·refine⟨_,rfl, .inl ⟨rfl,_, .of kW⟩,_,rfl,_,rfl,aF Zr,fun t ht=>⟨l,xs,_,rfl,rfl,ax.upd ht _ _ kW,ba Zt,?_⟩⟩;obtain⟨a1,a2⟩:=add t ht 999999 (Zy) (Zy);exact⟨⟨_,_,rfl⟩,a1,a2⟩
      ·exact⟨⟨_,_,rfl⟩,s1,xs,fs,kW,T1,P1.skip⟩
    rintro σ H2 ⟨⟨Jm,u4,rfl⟩,s2,FO,Jl,vz,T2,P2⟩;exact⟨_,rfl,_,_,rfl,rfl,⟨Zy,Zy⟩,⟨_,_,_,rfl⟩,s2,FO,Jl,vz,T2,P2⟩
   ·rintro σ H2 ⟨⟨Jm,u4,u5,rfl⟩,s2,FO,Jl,vz,T2,P2⟩;rw[List.length_map]at P2;exact⟨⟨_,_,_,_,rfl⟩,s2,FO,Jl,vz,T2,P2.row hi⟩
  ·rintro σ H2 ⟨⟨Jm,u4,u5,u6,rfl⟩,s2,FO,Jl,vz,T2,P2⟩;rw[List.length_map]at P2;exact⟨_,rfl,q H2 l FO Jl s2 hl vz T2 (P2.good X7)⟩
variable(jx:bK P w K mg base true 1 "_law_bank" ["_law_cell","_law_other","_law_many"] wJ)
variable(jy:bK P w K mg base true 2 "_law_book" ["_law_script","_law_cell","_law_spot","_law_many","_law_bank_here"] (wL K))
variable(iP:bK P w K mg base true 2 "_law_quote" ["_law_script","_law_cell","_law_spot","_law_many","_law_first","_law_bank_here"] (sY K))
variable(gw:bK P w K mg base true 2 "_law_numbers" ["_law_script","_law_spot"] (nc K))
variable(jz:bK P w K mg base true 1 "_law_near" ["_law_cell","_law_bank_here","_law_same"] wK)
theorem dw:aM ["_law_script","_law_most","_law_many","_law_bank_here","_law_one","_law_other","_law_first","_law_second","_law_numbers_here"] ["_law_script","_law_most"] (ar lL):=⟨rfl,rfl,rfl,by decide+kernel,rfl,by decide+kernel,by decide+kernel⟩
include T a_ jx jy iP gw jz in
theorem xn{f:Addr}{fd:FuncData}(F:jh K "_law_case" "_law_case" lL f fd):a7 P w K mg base (cW P w) true 3 f fd ["_law_script","_law_most"] (wN K):=by
 refine F.gI dw Zs (fun bT A outer s H vs Q E hr h hX=>?_)
 ·obtain⟨a,ns,most,rfl,_⟩:=h;rfl
 ·obtain⟨a,ns,most,rfl,hS,Td,BY,q⟩:=h;refine⟨_,(Zf (Y0 (2) dw.nd (Y8 bx (Y8 bx ai (Y8 bS (YZ a_ aQ (Y4 Zw (Y1 ai))) ai)) (Y8 m6 (@gO _ _ _ _ _ _ _ _ _ qc Zv T.Bk PyProof.Rows.Boot.«int» (Y1 (@iD _ _ _ _ _ _ _ _ oh (pv 1) ai (aV _))) (Zy) (Zy) (Zz) (Zz)) ai))) (Zf (Y0 (3) dw.nd (YZ jx aQ (Y4 (YZ a_ aQ (Y4 Zw (Y1 ai))) (Y4 (YZ a_ aQ (Y4 Zw (Y1 ai))) (Y1 (pv 2)))))) (Zf (Y0 (4) dw.nd (Y8 bY (pv 1) (Y8 bS (YZ a_ aQ (Y4 Zw (Y1 ai))) (Y8 bx (pv 1) ai)))) (Zf (Y0 (5) dw.nd (Y8 bY (pv 1) (Y8 bS (YZ a_ aQ (Y4 Zw (Y1 ai))) (Y8 bx (pv 1) ai)))) (Zf (Y0 (6) dw.nd (YZ jy aQ (Y4 Zw (Y4 (YZ a_ aQ (Y4 Zw (Y1 ai))) (Y4 ai (Y4 (pv 4) (Y1 (pv 3)))))))) (Zf (Y0 (7) dw.nd (YZ iP aQ (Y4 Zw (Y4 (YZ a_ aQ (Y4 Zw (Y1 ai))) (Y4 ai (Y4 (pv 5) (Y4 (pv 6) (Y1 (pv 3))))))))) (Zf (Y0 (8) dw.nd (YZ gw aQ (Y4 Zw (Y1 ai)))) (Y' (Zm (@bM _ _ _ _ (Y4 (pv 6) (Y4 (pv 7) (Y4 (pv 8) (Y1 (YZ jz aQ (Y4 (YZ a_ aQ (Y4 Zw (Y1 ai))) (Y4 (@lr _ _ _ _ _ _ _ _ _ _ (yx K) (pv 3) sf (@l6 _ _ _ ai)) (Y1 (Y3 (pv 8) ai))))))))))))))))))),?_⟩;refine⟨fun σ H1=>∃many:Int,σ=[some (.ref a),some (.int most),some (.int many),none,none,none,none,none,none]∧H1=H∧1≤many∧many≤12,?_,?_⟩
  ·refine⟨_,rfl,a,ns,2,rfl,hS,Zy,_,_,rfl,rfl,(show(0:Int)<5 by decide),_,_,rfl,rfl,_,rfl,_,_,rfl,rfl, .inr ⟨_,rfl,_,_,rfl,rfl, .inr ⟨Zy,Zy⟩,_,_,rfl,rfl,_,rfl,rfl,?_,?_⟩⟩
   ·split<;>lia
   ·split<;>lia
  rintro σ H ⟨many,rfl,rfl,YT,zB⟩;refine⟨fun σ H1=>∃(b:Addr)(zs:List Str),σ=[some (.ref a),some (.int most),some (.int many),some (.ref b),none,none,none,none,none]∧ax H H1∧H1 b=some (.lst (zs.map V.str))∧(1≤zs.length∧zs.length≤12)∧(∀z∈zs,sR z=true)∧zs.Nodup,?_,?_⟩
  ·exact⟨_,rfl,a,ns,0,rfl,hS,Zy,_,rfl,a,ns,1,rfl,hS,Zy,_,rfl,_,_,many,rfl,by lia,by lia,fun H' b zs s1 hb jP hz hw hn=>⟨b,zs,rfl,s1,jP,by lia,hw,hn⟩⟩
  rintro σ H1 ⟨b,zs,rfl,s1,jP,hz,hw,hn⟩;have O2:=s1.seq hS;refine⟨fun σ H2=>∃one:Int,σ=[some (.ref a),some (.int most),some (.int many),some (.ref b),some (.int one),none,none,none,none]∧H2=H1∧0≤one∧one≤most,?_,?_⟩
  ·have z0:0≤cell ns 3%(most+1):=Int.emod_nonneg _ (by lia);have z1:cell ns 3%(most+1)<most+1:=Int.emod_lt_of_pos _ (by lia);exact⟨_,rfl,_,rfl,a,ns,3,rfl,O2,Zy,_,rfl,_,_,rfl,rfl,_,_,rfl,rfl,(show(0:Int)<most+1 by lia),_,_,rfl,rfl,_,rfl,rfl,by lia,by lia⟩
  rintro σ H1 ⟨one,rfl,rfl,X8,Hh⟩;refine⟨fun σ H2=>∃HQ:Int,σ=[some (.ref a),some (.int most),some (.int many),some (.ref b),some (.int one),some (.int HQ),none,none,none]∧H2=H1∧0≤HQ∧HQ≤most,?_,?_⟩
  ·have z0:0≤cell ns 4%(most+1):=Int.emod_nonneg _ (by lia);have z1:cell ns 4%(most+1)<most+1:=Int.emod_lt_of_pos _ (by lia);exact⟨_,rfl,_,rfl,a,ns,4,rfl,O2,Zy,_,rfl,_,_,rfl,rfl,_,_,rfl,rfl,(show(0:Int)<most+1 by lia),_,_,rfl,rfl,_,rfl,rfl,by lia,by lia⟩
  rintro σ H1 ⟨HQ,rfl,rfl,HH,Ov⟩;refine⟨fun σ H2=>∃(x:Addr)(xs:List Str),σ=[some (.ref a),some (.int most),some (.int many),some (.ref b),some (.int one),some (.int HQ),some (.ref x),none,none]∧ax H1 H2∧H2 x=some (.lst (xs.map V.str))∧xs.length=one.toNat∧∀w∈xs,w∈zs,?_,?_⟩
  ·exact⟨_,rfl,_,rfl,a,ns,10,rfl,O2,Zy,_,rfl,_,rfl,a,b,ns,zs,_,16,one,rfl,O2,jP,⟨hz.1,by lia⟩,Zy,X8,by lia,fun H2 x xs s2 hx yb hl n6=>⟨x,xs,rfl,s2,yb,hl,n6⟩⟩
  rintro σ H2 ⟨x,xs,rfl,s2,yb,R4,Tf⟩;have s3:=s1.trans s2;have Ti:=s2.seq O2;refine⟨fun σ H3=>∃(y:Addr)(ys:List Str),σ=[some (.ref a),some (.int most),some (.int many),some (.ref b),some (.int one),some (.int HQ),some (.ref x),some (.ref y),none]∧ax H2 H3∧H3 y=some (.lst (ys.map V.str))∧ys.length=HQ.toNat,?_,?_⟩
  ·exact⟨_,rfl,_,rfl,a,ns,11,rfl,Ti,Zy,_,rfl,_,rfl,_,rfl,a,b,x,ns,zs,xs,_,17,HQ,rfl,Ti,s2 _ _ jP,yb,⟨hz.1,by lia⟩,by lia,Tf,Zy,HH,by lia,fun H3 y ys s4 hy yW hl _=>⟨y,ys,rfl,s4,yW,hl⟩⟩
  rintro σ H3 ⟨y,ys,rfl,s4,X9,U3⟩;have s5:=s3.trans s4;have Vt:=s4.seq Ti;refine⟨fun σ H4=>∃(n:Addr)(sa ou iN le:Int),σ=[some (.ref a),some (.int most),some (.int many),some (.ref b),some (.int one),some (.int HQ),some (.ref x),some (.ref y),some (.ref n)]∧ax H3 H4∧H4 n=some (.lst [.int sa, .int ou, .int iN, .int le])∧(1≤sa∧sa≤999999)∧(0≤ou∧ou≤999999)∧(0≤iN∧iN≤999999)∧(1≤le∧le≤999999),?_,?_⟩
  ·exact⟨_,rfl,a,ns,5,rfl,Vt,Zy,fun H4 D sa ou iN le s6 hD Jk h1 h2 h3 h4=>⟨D,sa,ou,iN,le,rfl,s6,Jk,h1,h2,h3,h4⟩⟩
  rintro σ H4 ⟨n,sa,ou,iN,le,rfl,s6,Vu,h1,h2,h3,h4⟩;have s7:=s5.trans s6;have X_:=s6.seq Vt;have X':H4 b=some (.lst (zs.map V.str)):=s6 _ _ (s4 _ _ (s2 _ _ jP));refine⟨_,rfl,_,rfl,_,rfl,_,rfl,a,ns,9,rfl,X_,Zy,_,rfl,_,rfl,b,_,rfl, .of X',fun b5 Mh=>?_⟩;have e5:yp (zs.map V.str) none (some 5)=(zs.take 5).map V.str:=by
   have:HT.jX (zs.map V.str).length (zs.map V.str).length (some 5)=min 5 zs.length:=by
    rw[List.length_map];simp only[HT.jX];split<;>lia
   have e0:HT.jX (zs.map V.str).length 0 none=0:=by simp[HT.jX]
   unfold yp;rw[this,e0,List.drop_zero,Nat.sub_zero,←List.map_take]
   congr 1
   apply List.ext_getElem?;intro i;rw[List.getElem?_take,List.getElem?_take];by_cases hi:i<zs.length
   ·by_cases h5:i<5
    ·rw[Zk Zu,Zk h5]
    ·rw[Zh Zu,Zh h5]
   ·simp[List.getElem?_eq_none (by lia:zs.length≤i)]
  rw[e5];have s8:ax H4 (upd H4 b5 (.lst ((zs.take 5).map V.str))):=ax.upd Mh;have Yb:=s8 _ _ Vu;refine⟨_,rfl,n,_,0,_,rfl,rfl, .of Yb,av (j:=0) rfl,_,sa,b5,zs.take 5,rfl,ae,by simp;lia,fun z hz=>hw z (List.mem_of_mem_take hz),hn.sublist (List.take_sublist ..),h1.1,h1.2,fun H6 l us fs s9 hl Vv T6 g6=>?_⟩;have sA:=(s7.trans s8).trans s9;refine⟨aF Zr,fun r hr=>?_⟩;have sB:=ax.upd (o:= .lst [.ref x, .ref y, .ref n, .ref l]) hr;have sC:=s9.trans sB;refine q _ r ⟨xs,ys,sa,ou,iN,le,fs⟩ x y n l us (sA.trans sB) (sA.free hr) ⟨ae,?_,?_,?_,sB _ _ Vv,T6.same sB⟩ ⟨by show xs.length≤_;lia,by show ys.length≤_;lia,g6,h1,h2,h3,h4⟩
  ·exact sC _ _ (s8 _ _ (s6 _ _ (s4 _ _ yb)))
  ·exact sC _ _ (s8 _ _ (s6 _ _ X9))
  ·exact sC _ _ (s8 _ _ Vu)
theorem iQ:aM ["_law_x","_law_y","_law_same","_law_near_here","_law_old","_law_new","_law_price"] ["_law_x","_law_y","_law_same","_law_near_here"] (ar lM):=⟨rfl,rfl,rfl,by decide+kernel,rfl,by decide+kernel,by decide+kernel⟩
include T in
theorem xo{f:Addr}{fd:FuncData}(F:jh K "_law_pair" "_law_pair" lM f fd):a7 P w K mg base (cW P w) true 1 f fd ["_law_x","_law_y","_law_same","_law_near_here"] sV:=by
 refine F.gI iQ Zs (fun bT A outer s H vs Q E hr h hX=>?_)
 ·obtain⟨x,y,same,l,xs,fs,rfl,_⟩:=h;rfl
 ·obtain⟨x,y,same,l,xs,fs,rfl,hl,T1,q⟩:=h;refine⟨_,(Za (@aX _ _ _ _ _ _ _ _ (Zj jm Zw (pv 1) (aV _)) (Y' (Zm (pv 2))) aP) (Za (@bj _ _ _ _ _ _ _ _ hX.own Zv (@bg _ K _ _ _ (pv 3) (Zz)) (@f6 _ K _ _ _ (3) _ (by exact rfl) (@bf _ _ _ _ _ (Y2 (4) iQ.nd) (@bf _ _ _ _ _ (Y2 (5) iQ.nd) (@bf _ _ _ _ _ (Y2 (6) iQ.nd) fX (Zz)) (Zz)) (Zz)) (Zz) (Zz) (Zz)) (Y' (@aX _ _ _ _ _ _ _ _ (@PW.pt _ _ _ (@pw_and _ _ _ _ _ _ _ (Zj jm (pv 4) (pv 0) (aV _)) (@pw_and1 _ _ _ _ (Zj jm (pv 5) (pv 1) (aV _))))) (Y' (Zm (Y8 bY (pv 2) (pv 6)))) aP)) (by intro _;rfl)) (Y' (Zm jJ)))),?_⟩;refine⟨_,rfl,_,rfl,rfl,_,rfl,?_⟩;refine a8 (fun h=>?_) (fun h=>?_)
  ·have h:x=y:=by simpa using h
   rw[show dD same fs x y=some same by simp[dD,h]]at q;exact⟨_,rfl,q⟩
  have h:¬x=y:=by simpa using h
  refine⟨_,rfl,l,rfl,⟨_, .of hl⟩,?_⟩;refine bJ (xs:=xs) (fun i σ H'=>(∃u1 u2 u3,σ=[some (.str x),some (.str y),some (.int same),some (.ref l),u1,u2,u3])∧H'=H∧∀f∈fs.take i,¬(f.1=x∧f.2.1=y)) ⟨⟨_,_,_,rfl⟩,rfl,ZA⟩ ?_ ?_ ?_
  ·rintro i σ H' _ ⟨_,rfl,_⟩;exact .of hl
  ·rintro i v σ H' hv ⟨⟨u1,u2,u3,rfl⟩,rfl,CC⟩;have hi:i<fs.length:=by rw[←T1.1];exact(Y7 hv).1
   have hf:fs[i]?=some fs[i]:=by simp[hi]
   generalize fs[i]=f0 at hf;obtain⟨t,xZ,uw⟩:=T1.2 i f0 hf;rw[hv]at xZ;cases xZ;obtain⟨x0,y0,p0⟩:=f0;refine⟨t,_,rfl, .of uw,rfl,_,_,rfl,_,_,rfl,_,_,rfl,rfl,?_⟩;have Qc:¬(x0=x∧y0=y)→∀f∈fs.take (i+1),¬(f.1=x∧f.2.1=y):=fun eV f Vw=>by
    rw[List.take_succ,hf]at Vw;rcases List.mem_append.mp Vw with h|h
    ·exact CC f h
    ·have h:f=(x0,y0,p0):=by simpa using h
     rw[h];exact eV
   refine⟨_,rfl,_,rfl,rfl,_,rfl,?_⟩;refine a8 (fun hh=>?_) (fun hh=>?_)
   ·have Al:x0=x:=by simpa using hh
    refine⟨_,rfl,_,rfl,rfl,_,rfl,?_⟩;refine a8 (fun hh=>?_) (fun hh=>?_)
    ·have jP:y0=y:=by simpa using hh
     have e:dY fs x y=some p0:=rj hf CC ⟨Al,jP⟩;rw[show dD same fs x y=some (same-p0) by simp[dD,h,e]]at q;exact⟨_,rfl,_,rfl,_,_,rfl,rfl,q⟩
    ·have jP:¬y0=y:=by simpa using hh
     exact⟨⟨_,_,_,rfl⟩,rfl,Qc fun z=>jP z.2⟩
   ·have Al:¬x0=x:=by simpa using hh
    refine eU ?_;exact⟨⟨_,_,_,rfl⟩,rfl,Qc fun z=>Al z.1⟩
  ·rintro σ H' ⟨⟨u1,u2,u3,rfl⟩,rfl,CC⟩;rw[T1.1,List.take_length]at CC;have e:dY fs x y=none:=Ez CC;rw[show dD same fs x y=none by simp[dD,h,e]]at q;exact q
variable(bL:bK P w K mg base true 1 "_law_pair" ["_law_x","_law_y","_law_same","_law_near_here"] sV)
theorem cx:aM ["_law_case_here","_law_way","_law_total","_law_k","_law_i","_law_j","_law_gain"] ["_law_case_here","_law_way"] (ar kF):=⟨rfl,rfl,rfl,by decide+kernel,rfl,by decide+kernel,by decide+kernel⟩
include T bL in
theorem uO{f:Addr}{fd:FuncData}(F:jh K "_law_worth" "_law_worth" kF f fd):a7 P w K mg base (cW P w) true 2 f fd ["_law_case_here","_law_way"] qm:=by
 refine F.gI cx Zs (fun bT A outer s H vs Q E hr h hX=>?_)
 ·obtain⟨a,w,c,f,g,m,l,us,ws,ps,rfl,_⟩:=h;rfl
 ·obtain⟨a,w,c,x1,x2,m,l,us,ws,ps,rfl,C1,no,hw,P1,hlen,HE,q⟩:=h;obtain⟨eV,GI⟩:=i6 HE;have Th:0<ps.length:=List.length_pos_iff.mpr eV;have HF:=P1.1;have kM:=C1.ca;have zD:=C1.nu;have nO:=no.out;have nI:=no.into;refine⟨_,(Za (Y0 (2) cx.nd ai) (Za (Zn hX.own Zv (Y2 (3) cx.nd) (Za (@zF _ _ _ _ _ _ (Y3 (pv 1) (pv 3)) (@f6 _ K _ _ _ (2) _ (by exact rfl) (@bf _ _ _ _ _ (Y2 (4) cx.nd) (@bf _ _ _ _ _ (Y2 (5) cx.nd) fX (Zz)) (Zz)) (Zz) (Zz) (Zz)) (Zz) (Zz) (Zz)) (Za (Y0 (6) cx.nd (YZ bL aQ (Y4 (Y9 (pv 4)) (Y4 (Y9 (pv 5)) (Y4 (Y9 ai) (Y1 (Y3 Zw ai))))))) (Za (@aX _ _ _ _ _ _ _ _ (Zb (@ll _ _ _ _ _ (pv 6))) (Y' (Zm jJ)) aP) (Za (Y0 (2) cx.nd (Y8 bx (pv 2) (pv 6))) (Y' (@aX _ _ _ _ _ _ _ _ (Zj oh (pv 3) ai (aV _)) (Za (Y0 (2) cx.nd (Y8 bY (pv 2) (Y8 m6 (Y9 ai) (Y8 bY (Y8 bY (pv 4) (@aB _ _ _ _ _ _ _ (cC K) (Y3 (pv 1) (Y8 bY (pv 3) ai)) ai (fun _ _=>rfl))) ai)))) (Y' (Y0 (2) cx.nd (Y8 bY (pv 2) (Y8 m6 (Y9 ai) (Y8 bY (Y8 bY (pv 5) (@aB _ _ _ _ _ _ _ (cC K) (Y3 (pv 1) (Y8 bY (pv 3) ai)) ai (fun _ _=>rfl))) ai)))))) aP)))))) (by intro _;rfl)) (Y' (Zm (pv 2))))),?_⟩;refine⟨_,rfl,w,_,rfl, .inl (.of hw),(ws.length:Int),rfl,Zx,Zx,?_⟩;refine dI (fun i σ H'=>(∃(u1 u2 u3 u4:Option V),σ=[some (.ref a),some (.ref w),some (.int (if i=0 then 0 else dF c ps (i-1))),u1,u2,u3,u4])∧H'=H) ⟨⟨_,_,_,_,rfl⟩,rfl⟩ ?_ ?_
  ·rintro i σ H' hi ⟨⟨u1,u2,u3,u4,rfl⟩,e0⟩;subst e0;have hi:i<ps.length:=Zx;obtain⟨tt,xZ,uw⟩:=P1.Kn hi;obtain⟨wo,Qx⟩:=GX (GI i hi);obtain⟨b1,b2⟩:=c.pw_in Qx;obtain⟨x,k8,yb⟩:=vG b1.1 b1.2;obtain⟨y,zB,yW⟩:=vG b2.1 b2.2;have ep:c.pw (pr ps i)=dD c.same c.fs x y:=Case.pw_of k8 zB;refine⟨_,rfl,_,rfl,w,_,_,_,rfl,rfl, .of hw,IC xZ,tt,_,rfl, .of uw,rfl,_,_,rfl,_,_,rfl,rfl,?_⟩;refine⟨_,rfl,a,_,0,_,rfl,rfl, .of kM,av (j:=0) rfl,_,rfl,x1,_,_,_,rfl,rfl, .of C1.fi,yb,_,rfl,a,_,1,_,rfl,rfl, .of kM,av (j:=1) rfl,_,rfl,x2,_,_,_,rfl,rfl, .of C1.se,yW,_,rfl,a,_,2,_,rfl,rfl, .of kM,av (j:=2) rfl,m,_,0,_,rfl,rfl, .of zD,av (j:=0) rfl,_,rfl,a,_,3,_,rfl,rfl, .of kM,av (j:=3) rfl,x,y,c.same,l,us,c.fs,rfl,C1.ne,C1.tr,?_⟩;rw[←ep,Qx];refine⟨_,rfl,_,rfl,?_⟩;refine a8 (fun hh=>absurd hh (by simp[bB])) (fun _=>?_);refine⟨_,rfl,_,rfl,_,_,rfl,rfl,?_⟩;refine⟨_,rfl,_,_,rfl,rfl,_,rfl,?_⟩;refine a8 (fun h2=>?_) (fun h2=>?_)
   ·have h2:0<i:=by
     have:(0:Int)<0+(i:Int):=by simpa using h2
     omega
    obtain⟨j,rfl⟩:∃j,i=j+1:=⟨i-1,Zx⟩
    have e1:((0+((j+1:Nat):Int))-1)=((j:Nat):Int):=Zx;obtain⟨t2,Ov,Fq⟩:=P1.Kn (show j<ps.length by omega);have zC:rg ws ((0+((j+1:Nat):Int))-1)=some (.ref t2):=by rw[e1];exact av Ov
    refine⟨_,rfl,_,rfl,a,_,2,_,rfl,rfl, .of kM,av (j:=2) rfl,m,_,1,_,rfl,rfl, .of zD,av (j:=1) rfl,_,rfl,_,rfl,_,rfl,_,_,rfl,rfl,w,_,_,_,rfl,rfl, .of hw,zC,t2,_,0,_,rfl,rfl, .of Fq,av (j:=0) rfl,_,_,rfl,rfl,_,_,rfl,rfl,_,_,rfl,rfl, .inl ⟨Zx,Zx⟩,_,_,rfl,rfl,?_⟩;refine⟨_,rfl,_,rfl,a,_,2,_,rfl,rfl, .of kM,av (j:=2) rfl,m,_,2,_,rfl,rfl, .of zD,av (j:=2) rfl,_,rfl,_,rfl,_,rfl,_,_,rfl,rfl,w,_,_,_,rfl,rfl, .of hw,zC,t2,_,1,_,rfl,rfl, .of Fq,av (j:=1) rfl,_,_,rfl,rfl,_,_,rfl,rfl,_,_,rfl,rfl, .inl ⟨Zx,Zx⟩,_,_,rfl,rfl,⟨some (.int (0+((j+1:Nat):Int))),some (.int (pr ps (j+1)).1),some (.int (pr ps (j+1)).2),some (.int wo),?_⟩,rfl⟩;have:dF c ps (j+1)=dF c ps j+wo-c.out*((pr ps (j+1)).1-(pr ps j).1-1)-c.into*((pr ps (j+1)).2-(pr ps j).2-1):=by
     simp only[dF,Qx,Case.gap,Option.getD_some];omega
    simp only[Nat.add_sub_cancel,Nat.succ_ne_zero,if_false,this];rfl
   ·have h2:i=0:=by
     have:¬(0:Int)<0+(i:Int):=by simpa using h2
     omega
    subst h2;refine⟨⟨some (.int (0+((0:Nat):Int))),some (.int (pr ps 0).1),some (.int (pr ps 0).2),some (.int wo),?_⟩,rfl⟩;have:dF c ps 0=0+wo:=by simp[dF,Qx]
    simp only[Nat.zero_add,Nat.sub_self,Nat.one_ne_zero,if_false,this];rfl
  ·rintro σ H' ⟨⟨u1,u2,u3,u4,rfl⟩,rfl⟩;have e:((ws.length:Nat):Int).toNat=ps.length:=Zx;rw[e,if_neg Zt];exact⟨_,rfl,q⟩
variable(bG:bK P w K mg base true 1 "_law_whole" ["_law_found"] sT)
theorem mT:aM ["_law_found","_law_pair_here"] ["_law_found"] (ar kG):=⟨rfl,rfl,rfl,by decide+kernel,rfl,by decide+kernel,by decide+kernel⟩
include T bG in
theorem uP{f:Addr}{fd:FuncData}(F:jh K "_law_pairs" "_law_pairs" kG f fd):a7 P w K mg base (cW P w) true 2 f fd ["_law_found"] ql:=by
 refine F.gI mT Zs (fun bT A outer s H vs Q E hr h hX=>?_)
 ·obtain⟨a,us,ps,rfl,_⟩:=h;rfl
 ·obtain⟨a,us,ps,rfl,ha,P1,q⟩:=h;refine⟨_,(Za (Zc (@bR _ _ _ _ (@bE _ _ _ (Zg (eD K) (by exact rfl) T.cn PyProof.Rows.Boot.«isinstance» (Y4 Zw (Y1 (@iC _ _ (.ty "list") _ _ (by exact rfl) T.ko PyProof.Rows.Boot.«list» Zv (Zy) (Zy))))) (by intro _;rfl))) aP) (Za (@bj _ _ _ _ _ _ _ _ hX.own Zv (@bg _ K _ _ _ (pv 0) (Zz)) (Y2 (1) mT.nd) (Za (Zc (@PW.pt _ _ _ (@pw_or _ _ _ _ _ _ _ (@bR _ _ _ _ (@bE _ _ _ (Zg (eD K) (by exact rfl) T.cn PyProof.Rows.Boot.«isinstance» (Y4 (pv 1) (Y1 (@iC _ _ (.ty "tuple") _ _ (by exact rfl) T.GK PyProof.Rows.Boot.«tuple» Zv (Zy) (Zy))))) (by intro _;rfl))) (@pw_or1 _ _ _ _ (Zj qZ (Y5 (aG K) (by exact rfl) T.cD (Y1 (pv 1))) ai (aV _))))) aP) (Y' (Zc (@PW.pt _ _ _ (@pw_or _ _ _ _ _ _ _ (@bR _ _ _ _ (@bE _ _ _ (YZ bG aQ (Y1 (@aB _ _ _ _ _ _ _ (cC K) (pv 1) ai (fun _ _=>rfl)))) (by intro _;rfl))) (@pw_or1 _ _ _ _ (@bR _ _ _ _ (@bE _ _ _ (YZ bG aQ (Y1 (@aB _ _ _ _ _ _ _ (cC K) (pv 1) ai (fun _ _=>rfl)))) (by intro _;rfl)))))) aP))) (by intro _;rfl)) (Y' (Zm cB)))),?_⟩;refine⟨_,rfl,_,_,_,true,_,rfl,rfl, .lst ha,rfl,_,rfl,?_⟩;refine eU ?_;refine⟨_,rfl,a,rfl,⟨_, .of ha⟩,?_⟩;refine bJ (xs:=us) (fun i σ H'=>(∃u,σ=[some (.ref a),u])∧H'=H) ⟨⟨_,rfl⟩,rfl⟩ ?_ ?_ ?_
  ·rintro i σ H' _ ⟨_,rfl⟩;exact .of ha
  ·rintro i v σ H' hv ⟨⟨u,rfl⟩,rfl⟩;have hi:i<ps.length:=by rw[←P1.1];exact(Y7 hv).1
   obtain⟨t,xZ,uw⟩:=P1.Kn hi;rw[hv]at xZ;cases xZ;refine⟨_,rfl,_,_,_,true,_,rfl,rfl, .tup uw,rfl,_,rfl,?_⟩;refine eU ?_;refine⟨_,rfl,t,_,rfl, .inr (.of uw),rfl,_,rfl,?_⟩;refine a8 (fun hh=>absurd hh Zr) (fun _=>?_);refine⟨_,rfl,t,_,0,_,rfl,rfl, .of uw,av (j:=0) rfl,_,rfl,_,rfl,?_⟩;refine eU ?_;refine⟨_,rfl,t,_,1,_,rfl,rfl, .of uw,av (j:=1) rfl,_,rfl,_,rfl,?_⟩;refine eU ?_;exact⟨⟨_,rfl⟩,rfl⟩
  ·rintro σ H' ⟨⟨u,rfl⟩,rfl⟩;exact q
variable(o_:mO P w K mg base true 5 "Terms" aT ["self","same","out","into","least","part","near"] [] (si aT d6 cX))
theorem mU:aM ["_law_case_here","_law_n"] ["_law_case_here"] (ar kH):=⟨rfl,rfl,rfl,by decide+kernel,rfl,by decide+kernel,by decide+kernel⟩
include T o_ in
theorem uQ{f:Addr}{fd:FuncData}(F:jh K "_law_terms" "_law_terms" kH f fd):a7 P w K mg base (cW P w) true 7 f fd ["_law_case_here"] (qk aT):=by
 refine F.gI mU Zs (fun bT A outer s H vs Q E hr h hX=>?_)
 ·obtain⟨a,c,f,g,m,l,us,most,rfl,_⟩:=h;rfl
 ·obtain⟨a,c,x1,x2,m,l,us,most,rfl,C1,ok,q⟩:=h;refine⟨_,(Za (Y0 (1) mU.nd (Y3 Zw ai)) (Y' (Zm (@sg _ _ _ _ _ _ _ _ _ _ _ _ _ _ o_ (hr.mono (Zy)) hX.pass (Y4 (Y3 (pv 1) ai) (Y4 (Y3 (pv 1) ai) (Y4 (Y3 (pv 1) ai) (Y4 (Y3 (pv 1) ai) (Y4 ai (Y1 (@gO _ _ _ _ _ _ _ _ _ (gW K) (by exact rfl) T.ko PyProof.Rows.Boot.«list» (Y1 (Y3 Zw ai)) (Zy) (Zy) (Zz) (Zz)))))))) (Zz) (Zy) (Zz) (Zz))))),?_⟩;have zD:=C1.nu;have kM:=C1.ca;refine⟨_,rfl,a,_,2,_,rfl,rfl, .of kM,av (j:=2) rfl,?_⟩;refine⟨_,rfl,m,_,0,_,rfl,rfl, .of zD,av (j:=0) rfl,_,rfl,m,_,1,_,rfl,rfl, .of zD,av (j:=1) rfl,_,rfl,m,_,2,_,rfl,rfl, .of zD,av (j:=2) rfl,_,rfl,m,_,3,_,rfl,rfl, .of zD,av (j:=3) rfl,_,rfl,a,_,3,_,rfl,rfl, .of kM,av (j:=3) rfl,l,us,rfl, .inl (.of C1.ne),fun h hh=>fun x dx hx EA eV=>?_⟩;have s5:ax (upd H h (.lst us)) (upd (upd (upd H h (.lst us)) dx (.own x)) x (.ins aT dx [])):=(ax.upd EA).eZ hx;have s4:ax H (upd H h (.lst us)):=ax.upd hh;refine⟨x,dx,⟨c.same,c.out,c.into,c.least,50⟩, .ref h,us,c.fs,rfl,ae,by rw[ao eV];exact ae, .inr ⟨h,rfl,s5 _ _ ae,C1.tr.same (s4.trans s5)⟩,z9 ok.good,?_⟩;have Yc:i4 ⟨c.same,c.out,c.into,c.least,50⟩=true:=by
   have:=ok.same;have:=ok.out;have:=ok.into;have:=ok.least;simp[i4,inR];omega
  rw[Zk Yc,Zk ok.good];intro H6 l2 d sb T6 Vv YU;exact⟨rfl,q H6 x (s4.trans (SameBut.ZI hx EA sb)) ⟨_,dx,l2,d,us,T6,rfl,rfl,rfl,rfl⟩⟩
theorem mV:aM ["_law_found","_law_due","_law_k"] ["_law_found","_law_due"] (ar kI):=⟨rfl,rfl,rfl,by decide+kernel,rfl,by decide+kernel,by decide+kernel⟩
include T in
theorem uR{f:Addr}{fd:FuncData}(F:jh K "_law_texts" "_law_texts" kI f fd):a7 P w K mg base (cW P w) true 1 f fd ["_law_found","_law_due"] sW:=by
 refine F.gI mV Zs (fun bT A outer s H vs Q E hr h hX=>?_)
 ·obtain⟨a,b,ws,rfl,_⟩:=h;rfl
 ·obtain⟨a,b,ws,rfl,ha,hb,hlen,q⟩:=h;have el:(ws.map V.str).length=ws.length:=List.length_map ..;refine⟨_,(Za (Zl (Y' (Zm cB)) aP) (Za (Zn hX.own Zv (Y2 (2) mV.nd) (Y' (Zc (@PW.pt _ _ _ (@pw_or _ _ _ _ _ _ _ (@bR _ _ _ _ (@bE _ _ _ (Zg (eD K) (by exact rfl) T.cn PyProof.Rows.Boot.«isinstance» (Y4 (Y3 Zw (pv 2)) (Y1 (@iC _ _ (.ty "str") _ _ (by exact rfl) T.NJ PyProof.Rows.Boot.«str» Zv (Zy) (Zy))))) (by intro _;rfl))) (@pw_or1 _ _ _ _ (Zj qZ (Y3 Zw (pv 2)) (Y3 (pv 1) (pv 2)) (aV _))))) aP)) (by intro _;rfl)) (Y' (Zm cB)))),?_⟩;refine⟨_,rfl,_,_,_,true,_,rfl,rfl, .lst ha,rfl,_,rfl,?_⟩;refine eU ?_;refine⟨_,rfl,a,_,rfl, .inl (.of ha),_,rfl,b,_,rfl, .inl (.of hb),rfl,_,rfl,?_⟩;refine a8 (fun hh=>absurd hh Zr) (fun _=>?_);refine⟨_,rfl,b,_,rfl, .inl (.of hb),((ws.map V.str).length:Int),rfl,Zx,Zx,?_⟩;refine dI (fun i σ H'=>(∃u,σ=[some (.ref a),some (.ref b),u])∧H'=H) ⟨⟨_,rfl⟩,rfl⟩ ?_ ?_
  ·rintro i σ H' hi ⟨⟨u,rfl⟩,rfl⟩;have hi:i<ws.length:=Zx;have hx:(ws.map V.str)[i]?=some (.str ws[i]):=by simp[hi]
   generalize ws[i]=v at hx;refine⟨_,rfl,_,rfl,a,_,_,_,rfl,rfl, .of ha,IC hx,_,_,_,true,_,rfl,rfl, .str v,rfl,_,rfl,?_⟩;refine eU ?_;refine⟨_,rfl,_,rfl,a,_,_,_,rfl,rfl, .of ha,IC hx,_,rfl,_,rfl,b,_,_,_,rfl,rfl, .of hb,IC hx,rfl,_,rfl,?_⟩;refine a8 (fun hh=>absurd hh Zr) (fun _=>?_);exact⟨⟨_,rfl⟩,rfl⟩
  ·rintro σ H' ⟨⟨u,rfl⟩,rfl⟩;exact q
theorem rA:aM ["_law_found","_law_due","_law_k"] ["_law_found","_law_due"] (ar nC):=⟨rfl,rfl,rfl,by decide+kernel,rfl,by decide+kernel,by decide+kernel⟩
include T bG in
theorem y6{f:Addr}{fd:FuncData}(F:jh K "_law_row" "_law_row" nC f fd):a7 P w K mg base (cW P w) true 2 f fd ["_law_found","_law_due"] Aa:=by
 refine F.gI rA Zs (fun bT A outer s H vs Q E hr h hX=>?_)
 ·obtain⟨a,b,is,rfl,_⟩:=h;rfl
 ·obtain⟨a,b,is,rfl,ha,hb,hlen,q⟩:=h;have el:(is.map V.int).length=is.length:=List.length_map ..;refine⟨_,(Za (Zl (Y' (Zm cB)) aP) (Za (Zn hX.own Zv (Y2 (2) rA.nd) (Y' (Zc (@PW.pt _ _ _ (@pw_or _ _ _ _ _ _ _ (@bR _ _ _ _ (@bE _ _ _ (YZ bG aQ (Y1 (Y3 Zw (pv 2)))) (by intro _;rfl))) (@pw_or1 _ _ _ _ (Zj qZ (Y3 Zw (pv 2)) (Y3 (pv 1) (pv 2)) (aV _))))) aP)) (by intro _;rfl)) (Y' (Zm cB)))),?_⟩;refine⟨_,rfl,_,_,_,true,_,rfl,rfl, .lst ha,rfl,_,rfl,?_⟩;refine eU ?_;refine⟨_,rfl,a,_,rfl, .inl (.of ha),_,rfl,b,_,rfl, .inl (.of hb),rfl,_,rfl,?_⟩;refine a8 (fun hh=>absurd hh Zr) (fun _=>?_);refine⟨_,rfl,b,_,rfl, .inl (.of hb),((is.map V.int).length:Int),rfl,Zx,Zx,?_⟩;refine dI (fun i σ H'=>(∃u,σ=[some (.ref a),some (.ref b),u])∧H'=H) ⟨⟨_,rfl⟩,rfl⟩ ?_ ?_
  ·rintro i σ H' hi ⟨⟨u,rfl⟩,rfl⟩;have hi:i<is.length:=Zx;have hx:(is.map V.int)[i]?=some (.int is[i]):=by simp[hi]
   generalize is[i]=v at hx;refine⟨_,rfl,_,rfl,a,_,_,_,rfl,rfl, .of ha,IC hx,v,rfl,_,rfl,?_⟩;refine eU ?_;refine⟨_,rfl,_,rfl,a,_,_,_,rfl,rfl, .of ha,IC hx,_,rfl,_,rfl,b,_,_,_,rfl,rfl, .of hb,IC hx,rfl,_,rfl,?_⟩;refine a8 (fun hh=>absurd hh Zr) (fun _=>?_);exact⟨⟨_,rfl⟩,rfl⟩
  ·rintro σ H' ⟨⟨u,rfl⟩,rfl⟩;exact q
theorem dA:aM ["_law_case_here","_law_many","_law_x","_law_y","_law_each","_law_same","_law_least"] ["_law_case_here"] (ar lN):=⟨rfl,rfl,rfl,by decide+kernel,rfl,by decide+kernel,by decide+kernel⟩
include T bL in
theorem xp{f:Addr}{fd:FuncData}(F:jh K "_law_calm" "_law_calm" lN f fd):a7 P w K mg base (cW P w) true 2 f fd ["_law_case_here"] xh:=by
 refine F.gI dA Zs (fun bT A outer s H vs Q E hr h hX=>?_)
 ·obtain⟨a,c,f,g,m,l,us,rfl,_⟩:=h;rfl
 ·obtain⟨a,c,x1,x2,m,l,us,rfl,C1,ok,q⟩:=h;refine⟨_,(Zf (Y0 (1) dA.nd ai) (Zf (@bj _ _ _ _ _ _ _ _ hX.own Zv (@bg _ K _ _ _ (Y3 Zw ai) (Zz)) (Y2 (2) dA.nd) (Y' (@bj _ _ _ _ _ _ _ _ hX.own Zv (@bg _ K _ _ _ (Y3 Zw ai) (Zz)) (Y2 (3) dA.nd) (Y' (Y0 (1) dA.nd (Y8 bx (pv 1) (@gO _ _ _ _ _ _ _ _ _ qc Zv T.Bk PyProof.Rows.Boot.«int» (Y1 (@zE _ _ _ _ _ _ (@oa _ _ _ _ _ (YZ bL aQ (Y4 (pv 2) (Y4 (pv 3) (Y4 (Y9 ai) (Y1 (Y3 Zw ai))))))) (by first|exact bh _ (Zy) (Zy)|rfl))) (Zy) (Zy) (Zz) (Zz))))) (by intro _;rfl))) (by intro _;rfl)) (Zf (Y0 (4) dA.nd (Y8 bx (Y8 dU (pv 1) ai) ai)) (Zf (Y0 (5) dA.nd (Zg (qb rfl) (by exact rfl) T.Ei PyProof.Rows.Boot.«min» (Y4 (Y9 ai) (Y1 (Y8 dU ai (pv 4)))))) (Zf (Y0 (6) dA.nd (Zg (B_ rfl) (by exact rfl) T.IB PyProof.Rows.Boot.«max» (Y4 (Y9 ai) (Y1 (Y8 bx (Y8 m6 (Y8 bY (pv 4) ai) (pv 5)) ai))))) (Y' (Zm (@bM _ _ _ _ (Y4 (Y3 Zw ai) (Y4 (Y3 Zw ai) (Y4 (@bM _ _ _ _ (Y4 (pv 5) (Y4 (Y9 ai) (Y4 (Y9 ai) (Y1 (pv 6)))))) (Y1 (Y3 Zw ai))))))))))))),?_⟩;have kM:=C1.ca;have zD:=C1.nu;have lx:(c.xs.map V.str).length=c.xs.length:=List.length_map ..;have ly:(c.ys.map V.str).length=c.ys.length:=List.length_map ..;refine⟨fun σ H1=>H1=H∧σ=[some (.ref a),some (.int 0),none,none,none,none,none],⟨rfl,rfl⟩,?_⟩;rintro σ H1 ⟨rfl,rfl⟩;refine⟨fun σ H2=>H2=H1∧∃u v,σ=[some (.ref a),some (.int (manyN c c.xs.length:Nat)),u,v,none,none,none],?_,?_⟩
  ·refine⟨_,rfl,a,_,0,_,rfl,rfl, .of kM,av (j:=0) rfl,x1,rfl,⟨_, .of C1.fi⟩,?_⟩;refine bJ (xs:=c.xs.map V.str) (fun i σ H2=>H2=H1∧∃u v,σ=[some (.ref a),some (.int (manyN c i:Nat)),u,v,none,none,none]) ⟨rfl,_,_,rfl⟩ ?_ ?_ ?_
   ·rintro i σ H2 _ ⟨rfl,_⟩;exact .of C1.fi
   ·rintro i v σ H2 hv ⟨rfl,u1,u2,rfl⟩;obtain⟨wx,Qs,rfl⟩:=l' hv;refine⟨_,rfl,a,_,1,_,rfl,rfl, .of kM,av (j:=1) rfl,x2,rfl,⟨_, .of C1.se⟩,?_⟩;refine bJ (xs:=c.ys.map V.str) (fun j σ H3=>H3=H2∧∃v,σ=[some (.ref a),some (.int (manyN c i+Fx c i j:Nat)),some (.str wx),v,none,none,none]) ⟨rfl,_,rfl⟩ ?_ ?_ ?_
    ·rintro j σ H3 _ ⟨rfl,_⟩;exact .of C1.se
    ·rintro j v σ H3 Qv ⟨rfl,u3,rfl⟩;obtain⟨wy,DC,rfl⟩:=l' Qv;have SI:c.pw (aR (i,j))=dD c.same c.fs wx wy:=Case.pw_of (by rw[show(aR (i,j)).1=(i:Int)from rfl,sX];exact Qs) (by rw[show(aR (i,j)).2=(j:Int)from rfl,sX];exact DC);refine⟨_,rfl,_,rfl,_,rfl,_,rfl,a,_,2,_,rfl,rfl, .of kM,av (j:=2) rfl,m,_,0,_,rfl,rfl, .of zD,av (j:=0) rfl,_,rfl,a,_,3,_,rfl,rfl, .of kM,av (j:=3) rfl,wx,wy,c.same,l,us,c.fs,rfl,C1.ne,C1.tr, .inr ⟨_,rfl,_,_,rfl,rfl,rfl,some (.str wy),?_⟩⟩;rw[CY,SI];cases dD c.same c.fs wx wy<;>simp[bB,List.set]<;>omega
    ·rintro σ H3 ⟨rfl,u3,rfl⟩;rw[ly];exact⟨rfl,_,_,rfl⟩
   ·rintro σ H2 ⟨rfl,u1,u2,rfl⟩;rw[lx];exact⟨rfl,_,_,rfl⟩
  rintro σ H1 ⟨rfl,u,v,rfl⟩;have Vx:manyN c c.xs.length≤3600:=by
   have:=BS c c.xs.length;have h2:=Nat.mul_le_mul ok.x ok.y;omega
  have ee:((manyN c c.xs.length:Nat):Int)/21+1=(bV c:Int):=by unfold bV;omega
  have he:(1:Int)≤bV c∧(bV c:Int)≤172:=by unfold bV;omega
  refine⟨fun σ H2=>H2=H1∧σ=[some (.ref a),some (.int (manyN c c.xs.length:Nat)),u,v,some (.int (bV c)),none,none],⟨_,rfl,_,_,rfl,rfl,⟨Zy,Zy⟩,_,_,rfl,rfl,rfl,by rw[ee];rfl⟩,?_⟩;rintro σ H1 ⟨rfl,rfl⟩;have es:(if 999999/(bV c:Int)<c.same then 999999/(bV c:Int)else c.same)=eK c:=by unfold eK;split<;>omega
  refine⟨fun σ H2=>H2=H1∧σ=[some (.ref a),some (.int (manyN c c.xs.length:Nat)),u,v,some (.int (bV c)),some (.int (eK c)),none],⟨_,rfl,a,_,2,_,rfl,rfl, .of kM,av (j:=2) rfl,m,_,0,_,rfl,rfl, .of zD,av (j:=0) rfl,_,rfl,_,_,rfl,rfl,⟨Zx,Zx⟩,_,_,rfl,rfl,by rw[es];rfl⟩,?_⟩;rintro σ H1 ⟨rfl,rfl⟩;have s1:1≤eK c∧eK c≤999999:=by
   have:=(BU ok Zt).same;exact this
  have el:(if ((bV c:Int)-1)*eK c+1>c.least then((bV c:Int)-1)*eK c+1 else c.least)=(f_ c).least:=by show _=max c.least _;split<;>omega
  refine⟨fun σ H2=>H2=H1∧σ=[some (.ref a),some (.int (manyN c c.xs.length:Nat)),u,v,some (.int (bV c)),some (.int (eK c)),some (.int (f_ c).least)],⟨_,rfl,a,_,2,_,rfl,rfl, .of kM,av (j:=2) rfl,m,_,3,_,rfl,rfl, .of zD,av (j:=3) rfl,_,rfl,_,_,rfl,rfl,_,rfl,_,_,rfl,rfl, .inl ⟨Zx,Zx⟩,_,_,rfl,rfl,_,_,rfl,rfl,by rw[el];rfl⟩,?_⟩;rintro σ H1 ⟨rfl,rfl⟩;refine⟨_,rfl,a,_,0,_,rfl,rfl, .of kM,av (j:=0) rfl,_,rfl,a,_,1,_,rfl,rfl, .of kM,av (j:=1) rfl,_,rfl,_,rfl,a,_,2,_,rfl,rfl, .of kM,av (j:=2) rfl,m,_,1,_,rfl,rfl, .of zD,av (j:=1) rfl,_,rfl,a,_,2,_,rfl,rfl, .of kM,av (j:=2) rfl,m,_,2,_,rfl,rfl, .of zD,av (j:=2) rfl,_,rfl,aF Zr,fun m' Iw=>?_⟩;have sm:=ax.upd (o:= .lst [.int (eK c), .int c.out, .int c.into, .int (f_ c).least]) Iw;have Tj:=sm _ _ kM;refine⟨_,rfl,a,_,3,_,rfl,rfl, .of Tj,av (j:=3) rfl,aF Zr,fun b hb=>?_⟩;have sb:=ax.upd (o:= .lst [.ref x1, .ref x2, .ref m', .ref l]) hb;have sA:=sm.trans sb;exact q _ b m' sA (sm.free hb) ae ⟨ae,sA _ _ C1.fi,sA _ _ C1.se,sb _ _ ae,sA _ _ C1.ne,C1.tr.same sA⟩
variable(gy:bK P w K mg base true 2 "_law_pairs" ["_law_found"] ql)
theorem kX:aM ["_law_found","_law_told"] ["_law_found"] (ar gj):=⟨rfl,rfl,rfl,by decide+kernel,rfl,by decide+kernel,by decide+kernel⟩
include T Fc bG gy in
theorem rV{f:Addr}{fd:FuncData}(F:jh K "_law_finding" "_law_finding" gj f fd):a7 P w K mg base (cW P w) true 3 f fd ["_law_found"] (tR ay):=by
 refine F.gI kX Zs (fun bT A outer s H vs Q E hr h hX=>?_)
 ·obtain⟨y,P,d,dy,wy,rw,pr,jt,gY,rfl,_⟩:=h;rfl
 ·obtain⟨y,P,d,dy,wy,fY,pr,jt,gY,rfl,F,hl,eV,q⟩:=h;have hu:=hr.units;have Lz:(A.deeper (PyProof.Rows.envOfC "_law_finding" (ar gj) s.heap.objs.size f bT)).units<cLine:=Zx;refine⟨_,(Za (Zc (@PW.pt _ _ _ (@pw_or _ _ _ _ _ _ _ (@bR _ _ _ _ (@bE _ _ _ (YZ bG aQ (Y1 (Y6 K Zw))) (by intro _;rfl))) (@pw_or _ _ _ _ _ _ _ (@bR _ _ _ _ (@bE _ _ _ (YZ gy aQ (Y1 (Y6 K Zw))) (by intro _;rfl))) (@pw_or1 _ _ _ _ (@bR _ _ _ _ (@bE _ _ _ (YZ gy aQ (Y1 (Y6 K Zw))) (by intro _;rfl))))))) aP) (Za (Zc (@PW.pt _ _ _ (@pw_or _ _ _ _ _ _ _ (@bR _ _ _ _ (@bE _ _ _ (Zg (eD K) (by exact rfl) T.cn PyProof.Rows.Boot.«isinstance» (Y4 (Y6 K Zw) (Y1 (@iC _ _ (.ty "list") _ _ (by exact rfl) T.ko PyProof.Rows.Boot.«list» Zv (Zy) (Zy))))) (by intro _;rfl))) (@pw_or _ _ _ _ _ _ _ (Zj qZ (Y5 (aG K) (by exact rfl) T.cD (Y1 (Y6 K Zw))) (Y5 (aG K) (by exact rfl) T.cD (Y1 (Y6 K Zw))) (aV _)) (@pw_or1 _ _ _ _ (Zj (yA K Lz) (Y6 K Zw) (@bM _ _ _ _ af) (aV _)))))) aP) (Za (@bj _ _ _ _ _ _ _ _ hX.own Zv (@bg _ K _ _ _ (Y6 K Zw) (Zz)) (Y2 (1) kX.nd) (Y' (Zc (@bR _ _ _ _ (@bE _ _ _ (YZ bG aQ (Y1 (pv 1))) (by intro _;rfl))) aP)) (by intro _;rfl)) (Y' (Zm cB))))),?_⟩;have h1:jt≠[]:=fun z=>eV (List.length_eq_zero_iff.mp (by rw[←F.pw.1,z];rfl))
  refine⟨_,rfl,y,ay,dy,_,_,rfl,F.ob,Fc.cl,Fc.worth,oP d.worth wy fY pr,_,rfl,_,rfl,?_⟩;refine eU ?_;refine⟨_,rfl,y,ay,dy,_,_,rfl,F.ob,Fc.cl,Fc.way,ky d.worth wy fY pr,wy,jt,d.way,rfl,F.hw,F.pw,_,rfl,?_⟩;refine eU ?_;refine⟨_,rfl,y,ay,dy,_,_,rfl,F.ob,Fc.cl,Fc.pairs,fF d.worth wy fY pr,pr,gY,d.pairs,rfl,F.hp,F.pp,_,rfl,?_⟩;refine eU ?_;refine⟨_,rfl,y,ay,dy,_,_,rfl,F.ob,Fc.cl,Fc.row,tD d.worth wy fY pr,_,_,_,true,_,rfl,rfl, .lst F.hr,rfl,_,rfl,?_⟩;refine eU ?_;refine⟨_,rfl,y,ay,dy,_,_,rfl,F.ob,Fc.cl,Fc.row,tD d.worth wy fY pr,fY,_,rfl, .inl (.of F.hr),_,rfl,y,ay,dy,_,_,rfl,F.ob,Fc.cl,Fc.way,ky d.worth wy fY pr,wy,_,rfl, .inl (.of F.hw),rfl,_,rfl,?_⟩;have h2:(d.row.map V.int).length=jt.length:=by rw[List.length_map,hl,F.pw.1]
  rw[h2];refine a8 (fun hh=>absurd hh Zr) (fun _=>?_);refine⟨_,rfl,y,ay,dy,_,_,rfl,F.ob,Fc.cl,Fc.way,ky d.worth wy fY pr,aF Zr,fun e he=>⟨wy,e,jt,[],fun _=>true,rfl,rfl, .of (ax.upd he _ _ F.hw), .of ae,(fun j x y _ h=>by simp at h),_,rfl,?_⟩⟩;refine a8 (fun hh=>absurd hh (by simpa using h1)) (fun _=>?_);have s1:=ax.upd (o:= .lst []) he;generalize upd H e (.lst [])=H1 at s1;refine⟨_,rfl,y,ay,dy,_,_,rfl,s1 _ _ F.ob,Fc.cl,Fc.row,tD d.worth wy fY pr,fY,rfl,⟨_, .of (s1 _ _ F.hr)⟩,?_⟩;refine bJ (xs:=d.row.map V.int) (fun i σ H'=>(∃u,σ=[some (.ref y),u])∧H'=H1) ⟨⟨_,rfl⟩,rfl⟩ ?_ ?_ ?_
  ·rintro i σ H' _ ⟨_,rfl⟩;exact .of (s1 _ _ F.hr)
  ·rintro i v σ H' hv ⟨⟨u,rfl⟩,rfl⟩;rw[List.getElem?_map]at hv;obtain⟨z,_,rfl⟩:=Option.map_eq_some_iff.mp hv;refine⟨_,rfl,_,rfl,_,rfl,?_⟩;refine eU ?_;exact⟨⟨_,rfl⟩,rfl⟩
  ·rintro σ H' ⟨⟨u,rfl⟩,rfl⟩;exact q _ s1
theorem gz:aM ["_law_case_here","_law_way","_law_k","_law_i","_law_j"] ["_law_case_here","_law_way"] (ar g8):=⟨rfl,rfl,rfl,by decide+kernel,rfl,by decide+kernel,by decide+kernel⟩
include T bL in
theorem t6{f:Addr}{fd:FuncData}(F:jh K "_law_is_way" "_law_is_way" g8 f fd):a7 P w K mg base (cW P w) true 2 f fd ["_law_case_here","_law_way"] sZ:=by
 refine F.gI gz Zs (fun bT A outer s H vs Q E hr h hX=>?_)
 ·obtain⟨a,w,c,f,g,m,l,us,ws,ps,rfl,_⟩:=h;rfl
 ·obtain⟨a,w,c,x1,x2,m,l,us,ws,ps,rfl,C1,hw,P1,hlen,q⟩:=h;have hu:=hr.units;have Lz:(A.deeper (PyProof.Rows.envOfC "_law_is_way" (ar g8) s.heap.objs.size f bT)).units<cLine:=Zx;have HF:=P1.1;have kM:=C1.ca;have zD:=C1.nu;have lx:(c.xs.map V.str).length=c.xs.length:=List.length_map ..;have ly:(c.ys.map V.str).length=c.ys.length:=List.length_map ..;refine⟨_,(Za (Zn hX.own Zv (Y2 (2) gz.nd) (Za (@zF _ _ _ _ _ _ (Y3 (pv 1) (pv 2)) (@f6 _ K _ _ _ (2) _ (by exact rfl) (@bf _ _ _ _ _ (Y2 (3) gz.nd) (@bf _ _ _ _ _ (Y2 (4) gz.nd) fX (Zz)) (Zz)) (Zz) (Zz) (Zz)) (Zz) (Zz) (Zz)) (Za (Zc (@PW.pt _ _ _ (@pw_or _ _ _ _ _ _ _ (Zj mM (pv 3) ai (aV _)) (@pw_or _ _ _ _ _ _ _ (Zj mM (pv 4) ai (aV _)) (@pw_or _ _ _ _ _ _ _ (Zj A8 (pv 3) (Y5 (aG K) (by exact rfl) T.cD (Y1 (Y3 Zw ai))) (aV _)) (@pw_or1 _ _ _ _ (Zj A8 (pv 4) (Y5 (aG K) (by exact rfl) T.cD (Y1 (Y3 Zw ai))) (aV _))))))) aP) (Za (Zc (Zb (@ll _ _ _ _ _ (YZ bL aQ (Y4 (Y9 (pv 3)) (Y4 (Y9 (pv 4)) (Y4 (Y9 ai) (Y1 (Y3 Zw ai)))))))) aP) (Y' (Zc (@PW.pt _ _ _ (@pw_and _ _ _ _ _ _ _ (Zj oh (pv 2) ai (aV _)) (@pw_and1 _ _ _ _ (@PW.pt _ _ _ (@pw_or _ _ _ _ _ _ _ (Zj A7 (pv 3) (@aB _ _ _ _ _ _ _ (cC K) (Y3 (pv 1) (Y8 bY (pv 2) ai)) ai (fun _ _=>rfl)) (aV _)) (@pw_or1 _ _ _ _ (Zj A7 (pv 4) (@aB _ _ _ _ _ _ _ (cC K) (Y3 (pv 1) (Y8 bY (pv 2) ai)) ai (fun _ _=>rfl)) (aV _)))))))) aP))))) (by intro _;rfl)) (Y' (Zm (@iD _ _ _ _ _ _ _ _ (sU K Lz) (pv 1) (@bM _ _ _ _ af) (aV _))))),?_⟩;refine⟨_,rfl,w,_,rfl, .inl (.of hw),(ws.length:Int),rfl,Zx,Zx,?_⟩;refine dI (fun i σ H'=>(∃(u1 u2 u3:Option V),σ=[some (.ref a),some (.ref w),u1,u2,u3])∧H'=H∧lB c ps i) ⟨⟨_,_,_,rfl⟩,rfl,fun k hk=>Zx⟩ ?_ ?_
  ·rintro i σ H' hi ⟨⟨u1,u2,u3,rfl⟩,e0,GI⟩;subst e0;have hi:i<ps.length:=Zx;obtain⟨tt,xZ,uw⟩:=P1.Kn hi;have bad:cT c ps i=false→Q (.bl false) H':=fun e=>by
    have:=q H' (.refl _);rw[EC hi e]at this;exact this
   have FP:c.pw (pr ps i)=none→Q (.bl false) H':=fun e=>bad (by simp[cT,e])
   refine⟨_,rfl,_,rfl,w,_,_,_,rfl,rfl, .of hw,IC xZ,tt,_,rfl, .of uw,rfl,_,_,rfl,_,_,rfl,rfl,?_⟩;refine⟨_,rfl,_,_,rfl,rfl,_,rfl,?_⟩;refine a8 (fun h1=>?_) (fun h1=>?_)
   ·have h1:(pr ps i).1<0:=by simpa using h1
    refine jK ?_;exact FP (Case.pw_out Zt)
   have h1:¬(pr ps i).1<0:=by simpa using h1
   refine⟨_,rfl,_,_,rfl,rfl,_,rfl,?_⟩;refine a8 (fun h2=>?_) (fun h2=>?_)
   ·have h2:(pr ps i).2<0:=by simpa using h2
    refine jK ?_;exact FP (Case.pw_out Zt)
   have h2:¬(pr ps i).2<0:=by simpa using h2
   refine⟨_,rfl,_,rfl,a,_,0,_,rfl,rfl, .of kM,av (j:=0) rfl,x1,_,rfl, .inl (.of C1.fi),_,_,rfl,rfl,_,rfl,?_⟩;rw[lx];refine a8 (fun h3=>?_) (fun h3=>?_)
   ·have h3:(c.xs.length:Int)≤(pr ps i).1:=by simpa using h3
    refine jK ?_;exact FP (Case.pw_out Zt)
   have h3:¬(c.xs.length:Int)≤(pr ps i).1:=by simpa using h3
   refine⟨_,rfl,_,rfl,a,_,1,_,rfl,rfl, .of kM,av (j:=1) rfl,x2,_,rfl, .inl (.of C1.se),_,_,rfl,rfl,_,rfl,?_⟩;rw[ly];refine a8 (fun h4=>?_) (fun h4=>?_)
   ·have h4:(c.ys.length:Int)≤(pr ps i).2:=by simpa using h4
    exact FP (Case.pw_out Zt)
   have h4:¬(c.ys.length:Int)≤(pr ps i).2:=by simpa using h4
   obtain⟨x,k8,yb⟩:=vG (xs:=c.xs) (i:=(pr ps i).1) (Zx) (Zx);obtain⟨y,zB,yW⟩:=vG (xs:=c.ys) (i:=(pr ps i).2) (Zx) (Zx);have ep:c.pw (pr ps i)=dD c.same c.fs x y:=Case.pw_of k8 zB;refine⟨_,rfl,a,_,0,_,rfl,rfl, .of kM,av (j:=0) rfl,_,rfl,x1,_,_,_,rfl,rfl, .of C1.fi,yb,_,rfl,a,_,1,_,rfl,rfl, .of kM,av (j:=1) rfl,_,rfl,x2,_,_,_,rfl,rfl, .of C1.se,yW,_,rfl,a,_,2,_,rfl,rfl, .of kM,av (j:=2) rfl,m,_,0,_,rfl,rfl, .of zD,av (j:=0) rfl,_,rfl,a,_,3,_,rfl,rfl, .of kM,av (j:=3) rfl,x,y,c.same,l,us,c.fs,rfl,C1.ne,C1.tr,_,rfl,?_⟩;rw[←ep];refine a8 (fun h5=>?_) (fun h5=>?_)
   ·refine FP ?_;cases e:c.pw (pr ps i)with
    |none=>rfl
    |some v=>rw[e]at h5;simp[bB]at h5
   have h5:(c.pw (pr ps i)).isSome=true:=by
    cases e:c.pw (pr ps i)with
    |none=>rw[e]at h5;simp[bB]at h5
    |some v=>rfl
   refine⟨_,rfl,_,_,rfl,rfl,_,rfl,?_⟩;refine a8 (fun h6=>?_) (fun h6=>?_)
   rotate_left
   ·have h6:i=0:=by
     have:¬(0:Int)<0+(i:Int):=by simpa using h6
     omega
    refine eU ?_;exact⟨⟨_,_,_,rfl⟩,rfl,GI.next (by simp[cT,h5,h6]at h5⊢;exact h5)⟩
   have h6:0<i:=by
    have:(0:Int)<0+(i:Int):=by simpa using h6
    omega
   obtain⟨j,rfl⟩:∃j,i=j+1:=⟨i-1,Zx⟩
   have e1:((0+((j+1:Nat):Int))-1)=((j:Nat):Int):=Zx;obtain⟨t2,Ov,Fq⟩:=P1.Kn (show j<ps.length by omega);have zC:rg ws ((0+((j+1:Nat):Int))-1)=some (.ref t2):=by rw[e1];exact av Ov
   refine⟨_,rfl,_,rfl,_,rfl,_,_,rfl,rfl,w,_,_,_,rfl,rfl, .of hw,zC,t2,_,0,_,rfl,rfl, .of Fq,av (j:=0) rfl,_,_,rfl,rfl,_,rfl,?_⟩;refine a8 (fun h7=>?_) (fun h7=>?_)
   ·have h7:(pr ps (j+1)).1≤(pr ps j).1:=by simpa using h7
    refine jK ?_;refine bad ?_;have:stepOk (pr ps j) (pr ps (j+1))=false:=by simp[stepOk];omega
    simp[cT,this]
   have h7:¬(pr ps (j+1)).1≤(pr ps j).1:=by simpa using h7
   refine⟨_,rfl,_,rfl,_,rfl,_,_,rfl,rfl,w,_,_,_,rfl,rfl, .of hw,zC,t2,_,1,_,rfl,rfl, .of Fq,av (j:=1) rfl,_,_,rfl,rfl,_,rfl,?_⟩;refine a8 (fun h8=>?_) (fun h8=>?_)
   ·have h8:(pr ps (j+1)).2≤(pr ps j).2:=by simpa using h8
    refine bad ?_;have:stepOk (pr ps j) (pr ps (j+1))=false:=by simp[stepOk];omega
    simp[cT,this]
   have h8:¬(pr ps (j+1)).2≤(pr ps j).2:=by simpa using h8
   refine⟨⟨_,_,_,rfl⟩,rfl,GI.next ?_⟩;have:stepOk (pr ps j) (pr ps (j+1))=true:=by simp[stepOk];omega
   simp[cT,h5,this]
  ·rintro σ H' ⟨⟨u1,u2,u3,rfl⟩,e0,GI⟩;subst e0;have e:((ws.length:Nat):Int).toNat=ps.length:=Zx;rw[e]at GI;refine⟨_,rfl,aF Zr,fun pn Mp=>⟨w,pn,_,rfl,rfl, .of (ax.upd Mp _ _ hw), .of ae,?_⟩⟩;have hq:=q _ (ax.upd (o:= .lst []) Mp);by_cases hz:ps=[]
   ·subst hz;have:ws=[]:=List.length_eq_zero_iff.mp HF;subst this;exact hq
   ·rw[j5 hz GI]at hq;have:ws≠[]:=fun z=>hz (by subst z;exact List.length_eq_zero_iff.mp HF.symm)
    have:(!ws.isEmpty)=true:=by simpa using this
    rw[this];exact hq
theorem fI:aM ["_law_case_here","_law_shut","_law_found","_law_i","_law_j","_law_gain"] ["_law_case_here","_law_shut"] (ar iK):=⟨rfl,rfl,rfl,by decide+kernel,rfl,by decide+kernel,by decide+kernel⟩
include T bL in
theorem uS{f:Addr}{fd:FuncData}(F:jh K "_law_spots" "_law_spots" iK f fd):a7 P w K mg base (cW P w) true 2 f fd ["_law_case_here","_law_shut"] tQ:=by
 refine F.gI fI Zs (fun bT A outer s H vs Q E hr h hX=>?_)
 ·obtain⟨a,s0,c,f,g,m,l,us,ws,sh,rfl,_⟩:=h;rfl
 ·obtain⟨a,s0,c,x1,x2,m,l,us,ws,sh,rfl,C1,hs,P1,hx,hy,q⟩:=h;have hu:=hr.units;have hu:(A.deeper (PyProof.Rows.envOfC "_law_spots" (ar iK) s.heap.objs.size f bT)).units+1<cLine:=Zx;have lx:(c.xs.map V.str).length=c.xs.length:=List.length_map ..;have ly:(c.ys.map V.str).length=c.ys.length:=List.length_map ..;refine⟨_,(Za (Y0 (2) fI.nd (@bM _ _ _ _ af)) (Za (@bj _ _ _ _ _ _ _ _ hX.own Zv (@cL _ _ _ _ _ _ (by exact rfl) T.dX (Y1 (Y5 (aG K) (by exact rfl) T.cD (Y1 (Y3 Zw ai)))) (Zz)) (Y2 (3) fI.nd) (Y' (@bj _ _ _ _ _ _ _ _ hX.own Zv (@cL _ _ _ _ _ _ (by exact rfl) T.dX (Y1 (Y5 (aG K) (by exact rfl) T.cD (Y1 (Y3 Zw ai)))) (Zz)) (Y2 (4) fI.nd) (Za (Y0 (5) fI.nd (YZ bL aQ (Y4 (Y9 (pv 3)) (Y4 (Y9 (pv 4)) (Y4 (Y9 ai) (Y1 (Y3 Zw ai))))))) (Y' (@aX _ _ _ _ _ _ _ _ (@PW.pt _ _ _ (@pw_and _ _ _ _ _ _ _ (Zb (@oa _ _ _ _ _ (pv 5))) (@pw_and1 _ _ _ _ (Zj (mS K hu) (@eX _ _ _ _ _ (Y4 (pv 3) (Y1 (pv 4)))) (pv 1) (by with_unfolding_all rfl))))) (Y' (Zq (Y_ K PySem.F.plainAttrs_list PySem.F.slot_list_append PySem.F.type_list_append bC (pv 2) (Y1 (@eX _ _ _ _ _ (Y4 (pv 3) (Y4 (pv 4) (Y1 (pv 5))))))))) aP))) (by intro _;rfl))) (by intro _;rfl)) (Y' (Zm (pv 2))))),?_⟩;refine⟨aF Zr,fun b hb=>?_⟩;have C2:=C1.keep (ax.upd (o:= .lst []) hb);refine⟨_,rfl,a,_,0,_,rfl,rfl, .of C2.ca,av (j:=0) rfl,x1,_,rfl, .inl (.of C2.fi),((c.xs.map V.str).length:Int),rfl,Zx,Zx,?_⟩;refine dI (fun i σ H'=>(∃u1 u2 u3,σ=[some (.ref a),some (.ref s0),some (.ref b),u1,u2,u3])∧ax H H'∧∃xs,H' b=some (.lst xs)∧DA H' xs (j8 c sh i)) ⟨⟨_,_,_,rfl⟩,ax.upd hb,[],ae, .nil⟩ ?_ ?_
  ·rintro i σ H' hi ⟨⟨u1,u2,u3,rfl⟩,s1,xs,jP,S1⟩;have hi:i<c.xs.length:=by rw[lx]at hi;omega
   have C3:=C1.keep s1;refine⟨_,rfl,a,_,1,_,rfl,rfl, .of C3.ca,av (j:=1) rfl,x2,_,rfl, .inl (.of C3.se),((c.ys.map V.str).length:Int),rfl,Zx,Zx,?_⟩;refine dI (fun j σ H'=>(∃u2 u3,σ=[some (.ref a),some (.ref s0),some (.ref b),some (.int (0+(i:Int))),u2,u3])∧ax H H'∧∃xs,H' b=some (.lst xs)∧DA H' xs (j8 c sh i++lG c sh i j)) ⟨⟨_,_,rfl⟩,s1,xs,jP,by rw[lG,List.append_nil];exact S1⟩ ?_ ?_
   ·clear s1 jP S1 xs u1 u2 u3 C3 H';rintro j σ H' hj ⟨⟨u2,u3,rfl⟩,s1,xs,jP,S1⟩;have hj:j<c.ys.length:=by rw[ly]at hj;omega
    have C3:=C1.keep s1;obtain⟨x,k8,yb⟩:=vG (xs:=c.xs) (i:=0+(i:Int)) (Zx) (Zx);obtain⟨y,zB,yW⟩:=vG (xs:=c.ys) (i:=0+(j:Int)) (Zx) (Zx);have ez:(0+(i:Int),0+(j:Int))=aR (i,j):=Prod.ext (by simp[aR]) (by simp[aR]);have ep:c.pw (aR (i,j))=dD c.same c.fs x y:=by rw[←ez];exact Case.pw_of k8 zB
    have sl:=S1.1;have l1:=vO c sh i;have l2:=qB c sh i j;have l3:i*c.ys.length≤50*50:=Nat.mul_le_mul Zt hy;rw[List.length_append]at sl;refine⟨_,rfl,a,_,0,_,rfl,rfl, .of C3.ca,av (j:=0) rfl,_,rfl,x1,_,_,_,rfl,rfl, .of C3.fi,yb,_,rfl,a,_,1,_,rfl,rfl, .of C3.ca,av (j:=1) rfl,_,rfl,x2,_,_,_,rfl,rfl, .of C3.se,yW,_,rfl,a,_,2,_,rfl,rfl, .of C3.ca,av (j:=2) rfl,m,_,0,_,rfl,rfl, .of C3.nu,av (j:=0) rfl,_,rfl,a,_,3,_,rfl,rfl, .of C3.ca,av (j:=3) rfl,x,y,c.same,l,us,c.fs,rfl,C3.ne,C3.tr,?_⟩;rw[←ep];refine⟨_,rfl,_,rfl,?_⟩;cases e:c.pw (aR (i,j))with
    |none=>
     refine a8 (fun hh=>absurd hh (by simp[bB])) (fun _=>?_);refine eU ?_;refine⟨⟨_,_,rfl⟩,s1,xs,jP,?_⟩;have:n8 c sh (aR (i,j))=none:=by unfold n8;split;rfl;exact e
     rw[lG,this,List.append_nil];exact S1
    |some w=>
     refine a8 (fun _=>?_) (fun hh=>absurd (by simp[bB]) hh);refine⟨_,rfl,_,rfl,aF Zr,fun p hp=>?_⟩;have s2:=s1.trans (ax.upd (o:= .tup [.int (0+(i:Int)), .int (0+(j:Int))]) hp);have xf:=ax.upd (o:= .tup [.int (0+(i:Int)), .int (0+(j:Int))]) hp _ _ jP;have S2:=S1.cI (e6.same (ax.upd (o:= .tup [.int (0+(i:Int)), .int (0+(j:Int))]) hp));refine⟨_,rfl,p,s0,(0+(i:Int),0+(j:Int)),ws,sh,rfl,rfl,ae, .of (s2 _ _ hs),P1.same s2,_,rfl,?_⟩;generalize upd H' p (.tup [.int (0+(i:Int)), .int (0+(j:Int))])=H2 at s2 xf S2;rw[ez];refine a8 (fun h1=>?_) (fun h1=>?_)
     ·have h1:aR (i,j)∉sh:=by simpa using h1
      refine⟨_,rfl, .inl ⟨rfl,_, .of xf⟩,_,rfl,_,rfl,_,rfl,aF Zr,fun t ht=>⟨b,xs,_,rfl,rfl,ax.upd ht _ _ xf,ba Zt,⟨_,_,rfl⟩,(s2.trans (ax.upd ht)).eZ hb,_,ae,?_⟩⟩;have e2:n8 c sh (aR (i,j))=some w:=by unfold n8;rw[Zh h1];exact e
      rw[lG,e2,←List.append_assoc];have S3:DA (upd H2 t (.tup [.int (0+(i:Int)), .int (0+(j:Int)), .int w])) (xs++[.ref t]) ((j8 c sh i++lG c sh i j)++[(aR (i,j),w)]):=(S2.cI (e6.same (ax.upd ht))).snoc (by rw[←ez];exact ae);exact S3.cI (e6.lst (ax.upd ht _ _ xf))
     ·have h1:aR (i,j)∈sh:=by simpa using h1
      refine⟨⟨_,_,rfl⟩,s2,xs,xf,?_⟩;have:n8 c sh (aR (i,j))=none:=by unfold n8;rw[Zk h1]
      rw[lG,this,List.append_nil];exact S2
   ·rintro σ H2 ⟨⟨u2,u3,rfl⟩,s2,FO,xf,S2⟩;rw[ly,Int.toNat_natCast]at S2;exact⟨⟨_,_,_,rfl⟩,s2,FO,xf,S2⟩
  ·rintro σ H2 ⟨⟨u1,u2,u3,rfl⟩,s2,FO,xf,S2⟩;rw[lx,Int.toNat_natCast]at S2;exact⟨_,rfl,q _ b _ s2 hb xf S2⟩
variable(gA:bK P w K mg base true 3 "_law_finding" ["_law_found"] (tR ay))
variable(dC:bK P w K mg base true 2 "_law_is_way" ["_law_case_here","_law_way"] sZ)
variable(ed:bK P w K mg base true 2 "_law_worth" ["_law_case_here","_law_way"] qm)
variable(iR:bK P w K mg base true 2 "_law_spots" ["_law_case_here","_law_shut"] tQ)
theorem cA:aM ["_law_case_here","_law_told","_law_held","_law_one","_law_pair_here","_law_i","_law_j","_law_gain"] ["_law_case_here","_law_told"] (ar g9):=⟨rfl,rfl,rfl,by decide+kernel,rfl,by decide+kernel,by decide+kernel⟩
include T Fc gA dC ed iR in
theorem t8{f:Addr}{fd:FuncData}(F:jh K "_law_anchor" "_law_anchor" g9 f fd):a7 P w K mg base (cW P w) true 4 f fd ["_law_case_here","_law_told"] (qC ay):=by
 refine F.gI cA Zs (fun bT A outer s H vs Q E hr h hX=>?_)
 ·obtain⟨a,t,c,f,g,m,l,us,ws,es,rfl,_⟩:=h;rfl
 ·obtain⟨b,t,c,x1,x2,m,l,us,vs,es,rfl,C3,ok,ht,FL,TD,q⟩:=h;have hu:=hr.units;have hu:(A.deeper (PyProof.Rows.envOfC "_law_anchor" (ar g9) s.heap.objs.size f bT)).units+1<cLine:=Zx;have Yd:=ok.x;have Ye:=ok.y;have Mq:=FL.1;refine⟨_,(Zf (Y0 (2) cA.nd jW) (Zf (@bj _ _ _ _ _ _ _ _ hX.own Zv (@bg _ K _ _ _ (pv 1) (Zz)) (Y2 (3) cA.nd) (Zf (Zc (@PW.pt _ _ _ (@pw_or _ _ _ _ _ _ _ (@bR _ _ _ _ (@bE _ _ _ (YZ gA aQ (Y1 (pv 3))) (by intro _;rfl))) (@pw_or _ _ _ _ _ _ _ (@bR _ _ _ _ (@bE _ _ _ (YZ dC aQ (Y4 Zw (Y1 (Y6 K (pv 3))))) (by intro _;rfl))) (@pw_or1 _ _ _ _ (Zj mM (Y6 K (pv 3)) (Y9 ai) (aV _)))))) aP) (Zf (Zc (Zj qZ (YZ ed aQ (Y4 Zw (Y1 (Y6 K (pv 3))))) (Y6 K (pv 3)) (aV _)) aP) (Zf (@bj _ _ _ _ _ _ _ _ hX.own Zv (@bg _ K _ _ _ (Y6 K (pv 3)) (Zz)) (Y2 (4) cA.nd) (Zf (Zc (Zb (@qf _ _ _ _ _ hu (pv 4) (pv 2))) aP) (Y' (@kn _ _ _ _ _ _ _ _ _ hu (pv 2) (pv 4) cB Zv))) (by intro _;rfl)) (Y' (@bj _ _ _ _ _ _ _ _ hX.own Zv (@bg _ K _ _ _ (Y6 K (pv 3)) (Zz)) (Y2 (4) cA.nd) (Y' (Zc (Zj (mS K hu) (pv 4) (Y6 K (pv 3)) (by with_unfolding_all rfl)) aP)) (by intro _;rfl)))))) (by intro _;rfl)) (Zf (@bj _ _ _ _ _ _ _ _ hX.own Zv (@bg _ K _ _ _ (YZ iR aQ (Y4 Zw (Y1 (@bM _ _ _ _ af)))) (Zz)) (@f6 _ K _ _ _ (3) _ (by exact rfl) (@bf _ _ _ _ _ (Y2 (5) cA.nd) (@bf _ _ _ _ _ (Y2 (6) cA.nd) (@bf _ _ _ _ _ (Y2 (7) cA.nd) fX (Zz)) (Zz)) (Zz)) (Zz) (Zz) (Zz)) (Y' (Zc (@PW.pt _ _ _ (@pw_and _ _ _ _ _ _ _ (Zj A8 (pv 7) (Y9 ai) (aV _)) (@pw_and1 _ _ _ _ (Zb (@vw _ _ _ _ _ hu (@eX _ _ _ _ _ (Y4 (pv 5) (Y1 (pv 6)))) (pv 2)))))) aP)) (by intro _;rfl)) (Y' (Zm cB))))),?_⟩;refine⟨fun σ H4=>∃d,σ=[some (.ref b),some (.ref t),some (.ref d),none,none,none,none,none]∧ax H H4∧H d=none∧H4 d=some (.dT []),fun d hd=>⟨d,rfl,ax.upd hd,hd,ae⟩,?_⟩;rintro σ H4 ⟨D,rfl,s4,Mc,hD⟩;refine⟨fun σ H5=>(∃u1 u2,σ=[some (.ref b),some (.ref t),some (.ref D),u1,u2,none,none,none])∧ax H H5∧∃kvs,H5 D=some (.dT kvs)∧mR kvs (lH es es.length),?_,?_⟩
  ·refine⟨_,rfl,t,rfl,⟨_, .of (s4 _ _ ht)⟩,?_⟩;refine bJ (xs:=vs) (fun k σ H5=>(∃u1 u2,σ=[some (.ref b),some (.ref t),some (.ref D),u1,u2,none,none,none])∧ax H H5∧∃kvs,H5 D=some (.dT kvs)∧kvs.length≤(lH es k).length∧mR kvs (lH es k)) ⟨⟨_,_,rfl⟩,s4,[],hD,Nat.zero_le _,fun p=>by simp[sI,lH]⟩ ?_ ?_ ?_
   ·rintro k σ H5 _ ⟨_,s5,_⟩;exact .of (s5 _ _ ht)
   ·rintro k v σ H5 hv ⟨⟨u1,u2,rfl⟩,s5,kvs,F9,R_,Mr⟩;have hk:k<es.length:=by rw[←Mq];exact(Y7 hv).1
    have ek:es[k]?=some es[k]:=by simp[hk]
    generalize es[k]=d at ek;obtain⟨y,dy,wy,fY,pr,jt,gY,e1,F3⟩:=FL.2 k d ek;rw[hv]at e1;cases e1;have fe:=TD.fe d (Ze ek);have FF:∀{H'},ax H H'→rp (fun _=>True) H' ay y d dy wy fY pr jt gY:=fun{H'} s'=>F3.keep (fun b o _ e=>s' b o e) (e6.same s') fun _ h=>h
    have iw:=tS fe.way;have nd:=qA fe.sq;have pl:=TD.AD ok (k+1);rw[oV ek,List.length_append]at pl;have wl:d.way.length≤2500:=by
     have h6:=len_sub d.way d.pairs (fe.way.up.imp fun{a b} h e=>by
      rw[e]at h;have:=h.1;omega) fe.sub
     omega
    refine⟨fun σ H6=>σ=[some (.ref b),some (.ref t),some (.ref D),some (.ref y),u2,none,none,none]∧ax H5 H6,?_,?_⟩
    ·have F:=FF s5;refine⟨_,rfl,y,_,d,dy,wy,fY,pr,jt,gY,rfl,F,by rw[fe.row,xi],fe.way.ne,fun H6 s6=>⟨_,rfl,?_⟩⟩;refine eU ?_;have F:=FF (s5.trans s6);refine⟨_,rfl,_,rfl,y,ay,dy,_,_,rfl,F.ob,Fc.cl,Fc.way,ky d.worth wy fY pr,b,wy,c,x1,x2,m,l,us,jt,d.way,rfl,C3.keep (s5.trans s6),F.hw,F.pw,Zx,fun H7 s7=>⟨_,rfl,?_⟩⟩;rw[iw];refine eU ?_;have Tn:=s6.trans s7;have F:=FF (s5.trans Tn);have C7:=C3.keep (s5.trans Tn);have kM:=C7.ca;refine⟨_,rfl,y,ay,dy,_,_,rfl,F.ob,Fc.cl,Fc.worth,oP d.worth wy fY pr,_,rfl,b,_,2,_,rfl,rfl, .of kM,av (j:=2) rfl,m,_,3,_,rfl,rfl, .of C7.nu,av (j:=3) rfl,_,_,rfl,rfl,_,rfl,?_⟩;have:=fe.least;exact a8 (fun hh=>absurd hh (by simp;omega)) (fun _=>⟨rfl,Tn⟩)
    rintro σ H6 ⟨rfl,s6⟩;have s7:=s5.trans s6;have Mn:=s6 _ _ F9;have F:=FF s7;refine⟨fun σ H7=>σ=[some (.ref b),some (.ref t),some (.ref D),some (.ref y),u2,none,none,none]∧H7=H6,?_,?_⟩
    ·refine⟨_,rfl,_,rfl,y,ay,dy,_,_,rfl,F.ob,Fc.cl,Fc.way,ky d.worth wy fY pr,b,wy,c,x1,x2,m,l,us,jt,d.way,rfl,C3.keep s7,ok.num,F.hw,F.pw,Zx,iw,_,rfl,y,ay,dy,_,_,rfl,F.ob,Fc.cl,Fc.worth,oP d.worth wy fY pr,rfl,_,rfl,?_⟩;rw[(BV iw).2,fe.worth];exact a8 (fun hh=>absurd hh Zr) (fun _=>⟨rfl,rfl⟩)
    rintro σ H7 ⟨rfl,rfl⟩;refine⟨fun σ H8=>(∃u3,σ=[some (.ref b),some (.ref t),some (.ref D),some (.ref y),u3,none,none,none])∧ax H H8∧∃kvs,H8 D=some (.dT kvs)∧kvs.length≤(lH es (k+1)).length∧mR kvs (lH es (k+1)),?_,?_⟩
    ·refine⟨_,rfl,y,ay,dy,_,_,rfl,F.ob,Fc.cl,Fc.pairs,fF d.worth wy fY pr,pr,rfl,⟨_, .of F.hp⟩,?_⟩;refine bJ (xs:=gY) (fun i σ H8=>(∃u3,σ=[some (.ref b),some (.ref t),some (.ref D),some (.ref y),u3,none,none,none])∧ax H H8∧∃kvs,H8 D=some (.dT kvs)∧kvs.length≤(lH es k).length+i∧mR kvs (lH es k++d.pairs.take i)) ⟨⟨_,rfl⟩,s7,kvs,Mn,Zx,by simpa using Mr⟩ ?_ ?_ ?_
     ·rintro i σ H8 _ ⟨_,s8,_⟩;exact .of (FF s8).hp
     ·rintro i v σ H8 hv ⟨⟨u,rfl⟩,s8,HR,Ms,O3,LJ⟩;have hi:i<d.pairs.length:=by rw[←F3.pp.1];exact(Y7 hv).1
      have ei:d.pairs[i]?=some d.pairs[i]:=by simp[hi]
      generalize d.pairs[i]=g at ei;obtain⟨tt,g1,g2⟩:=F3.pp.2 i g ei;rw[hv]at g1;cases g1;have hn:g∉lH es k++d.pairs.take i:=fun z=>(List.mem_append.mp z).elim (TD.Hv ek (Ze ei)) (Hw nd ei)
      refine⟨fun σ H9=>σ=[some (.ref b),some (.ref t),some (.ref D),some (.ref y),some (.ref tt),none,none,none]∧H9=H8,?_,?_⟩
      ·refine⟨_,rfl,_,rfl,D,_,rfl, .t (k:=a9 g) Ms (s8 _ _ g2),_,rfl,?_⟩;rw[LJ];exact a8 (fun hh=>absurd (by simpa using hh) hn) (fun _=>⟨rfl,rfl⟩)
      rintro σ H9 ⟨rfl,rfl⟩;refine⟨_,rfl,_,rfl,D,_,rfl, .t (k:=a9 g) Ms (s8 _ _ g2) (ba Zt),⟨_,rfl⟩,s8.eZ Mc,_,ae,Nat.le_trans (eY _ _ _) (Zx),?_⟩;have:=FG LJ g (.bl true);rw[List.append_assoc]at this;rw[List.take_succ,ei];exact this
     ·rintro σ H8 ⟨To,s8,HR,Ms,O3,LJ⟩;rw[F3.pp.1]at O3;rw[F3.pp.1,List.take_length]at LJ;rw[oV ek];exact⟨To,s8,HR,Ms,by rw[List.length_append];exact O3,LJ⟩
    rintro σ H8 ⟨⟨u4,rfl⟩,s8,HR,Ms,O3,LJ⟩;have F:=FF s8;refine⟨_,rfl,y,ay,dy,_,_,rfl,F.ob,Fc.cl,Fc.way,ky d.worth wy fY pr,wy,rfl,⟨_, .of F.hw⟩,?_⟩;refine bJ (xs:=jt) (fun i σ H9=>(∃u3,σ=[some (.ref b),some (.ref t),some (.ref D),some (.ref y),u3,none,none,none])∧H9=H8) ⟨⟨_,rfl⟩,rfl⟩ ?_ ?_ ?_
    ·rintro i σ H9 _ ⟨_,rfl⟩;exact .of F.hw
    ·rintro i v σ H9 hv ⟨⟨u,rfl⟩,rfl⟩;have hi:i<d.way.length:=by rw[←F.pw.1];exact(Y7 hv).1
     have ei:d.way[i]?=some d.way[i]:=by simp[hi]
     generalize d.way[i]=g at ei;obtain⟨tt,g1,g2⟩:=F.pw.2 i g ei;rw[hv]at g1;cases g1;refine⟨_,rfl,_,rfl,y,ay,dy,_,_,rfl,F.ob,Fc.cl,Fc.pairs,fF d.worth wy fY pr,tt,pr,g,gY,d.pairs,rfl,rfl,g2, .of F.hp,F.pp,_,rfl,?_⟩;have:=fe.sub g (Ze ei);exact a8 (fun hh=>absurd hh (by simp[this])) (fun _=>⟨⟨_,rfl⟩,rfl⟩)
    ·rintro σ H9 ⟨⟨u,rfl⟩,rfl⟩;exact⟨⟨_,_,rfl⟩,s8,HR,Ms,O3,LJ⟩
   ·rintro σ H5 ⟨To,s5,kvs,F9,_,Mr⟩;rw[Mq]at Mr;exact⟨To,s5,kvs,F9,Mr⟩
  rintro σ H5 ⟨⟨u1,u2,rfl⟩,s5,kvs,F9,Mr⟩;refine⟨fun σ H4=>ax H H4,?_,fun σ H4 s4=>q _ s4⟩;refine⟨_,rfl,aF Zr,fun e he=>?_⟩;have s6:=s5.trans (ax.upd (o:= .lst []) he);refine⟨b,e,c,x1,x2,m,l,us,[],[],rfl,C3.keep s6,ae, .nil,Zx,Zx,fun H7 r ws s7 rq h7 S7=>⟨r,rfl,⟨_, .of h7⟩,?_⟩⟩;have Vy:=s6.trans s7;have Mn:=s7 _ _ (ax.upd (o:= .lst []) he _ _ F9);refine bJ (xs:=ws) (fun k σ H8=>(∃v1 v2 v3,σ=[some (.ref b),some (.ref t),some (.ref D),u1,u2,v1,v2,v3])∧ax H7 H8) ⟨⟨_,_,_,rfl⟩, .refl _⟩ ?_ ?_ (fun _ _ ⟨_,s8⟩=>Vy.trans s8)
  ·rintro k σ H8 _ ⟨_,s8⟩;exact .of (s8 _ _ h7)
  ·rintro k v σ H8 hv ⟨⟨v1,v2,v3,rfl⟩,s8⟩;have hk:k<(j8 c [] c.xs.length).length:=by rw[←S7.1];exact(Y7 hv).1
   have ek:(j8 c [] c.xs.length)[k]?=some (j8 c [] c.xs.length)[k]:=by simp[hk]
   generalize (j8 c [] c.xs.length)[k]=x at ek;obtain⟨tt,k1,k2⟩:=S7.2 k x ek;rw[hv]at k1;cases k1;have Yg:=vQ (Ze ek);have C8:=C3.keep (Vy.trans s8);have kM:=C8.ca;refine⟨tt,_,rfl, .of (s8 _ _ k2),rfl,_,_,rfl,_,_,rfl,_,_,rfl,rfl,?_⟩;refine⟨_,rfl,_,rfl,b,_,2,_,rfl,rfl, .of kM,av (j:=2) rfl,m,_,3,_,rfl,rfl, .of C8.nu,av (j:=3) rfl,_,_,rfl,rfl,_,rfl,?_⟩;refine a8 (fun h1=>?_) (fun _=>?_)
   ·have h1:c.least≤x.2:=by simpa using h1
    refine⟨_,rfl,_,rfl,aF Zr,fun p hp=>⟨_,rfl,D,_,rfl, .t (k:=a9 x.1) (ax.upd hp _ _ (s8 _ _ Mn)) ae,_,rfl,?_⟩⟩;rw[Mr];obtain⟨d,hd,hq⟩:=TD.pair Yg h1;refine a8 (fun hh=>absurd hh (by simp;exact Lw hd hq)) (fun _=>?_);exact⟨⟨_,_,_,rfl⟩,s8.trans (ax.upd hp)⟩
   ·refine eU ?_;exact⟨⟨_,_,_,rfl⟩,s8⟩
variable(hZ:bK P w K mg base true 4 "_law_anchor" ["_law_case_here","_law_told"] (qC ay))
variable(kN:bK P w K mg base true 2 "_law_row" ["_law_found","_law_due"] Aa)
variable(mz:mg "Finding"=some (.ref ay))
variable(HS:W.findIn K (.ref ay) "__class__"=some (some (.builtin "object.__class__")))
variable(HU:W.specialIn K (.builtin "object.__class__") "__get__"=some (some (.builtin "getset_descriptor.__get__")))
variable(HV:W.takesIn K (.builtin "object.__class__")=some true)
variable(HW:W.mroIn K ay (.type "object")=some true)
variable(HX:W.kitOne K (.ref ay) (.ref ay)=some true)
theorem jS:aM ["_law_case_here","_law_told","_law_one","_law_k"] ["_law_case_here","_law_told"] (ar gk):=⟨rfl,rfl,rfl,by decide+kernel,rfl,by decide+kernel,by decide+kernel⟩
include T Fc dC ed hZ kN mz HS HU HV HW HX in
theorem uT{f:Addr}{fd:FuncData}(F:jh K "_law_right" "_law_right" gk f fd):a7 P w K mg base (cW P w) true 5 f fd ["_law_case_here","_law_told"] (qD ay):=by
 refine F.gI jS Zs (fun bT A outer s H vs Q E hr h hX=>?_)
 ·obtain⟨a,t,c,f,g,m,l,us,ws,es,rfl,_⟩:=h;rfl
 ·obtain⟨b,t,c,x1,x2,m,l,us,vs,es,rfl,C1,ok,ht,FL,TD,q⟩:=h;have hu:=hr.units;have hu:(A.deeper (PyProof.Rows.envOfC "_law_right" (ar gk) s.heap.objs.size f bT)).units+1<cLine:=Zx;have Mq:=FL.1;refine⟨_,(Zf (Zc (@PW.pt _ _ _ (@pw_or _ _ _ _ _ _ _ (@bR _ _ _ _ (@bE _ _ _ (Zg (eD K) (by exact rfl) T.cn PyProof.Rows.Boot.«isinstance» (Y4 (pv 1) (Y1 (@iC _ _ (.ty "list") _ _ (by exact rfl) T.ko PyProof.Rows.Boot.«list» Zv (Zy) (Zy))))) (by intro _;rfl))) (@pw_or1 _ _ _ _ (@bR _ _ _ _ (@bE _ _ _ (YZ hZ aQ (Y4 Zw (Y1 (pv 1)))) (by intro _;rfl)))))) aP) (Zf (@bj _ _ _ _ _ _ _ _ hX.own Zv (@bg _ K _ _ _ (pv 1) (Zz)) (@aL _ _ (2) _ jS.nd Zv (Or.inr rfl) (by first|exact .inl rfl|exact .inr rfl|assumption)) (Zf (Zc (@bR _ _ _ _ (@bE _ _ _ (Zg (eD K) (by exact rfl) T.cn PyProof.Rows.Boot.«isinstance» (Y4 (pv 2) (Y1 (@vY _ _ (.ref _) _ _ (by exact rfl) mz Zv (Zy))))) (by intro _;rfl))) aP) (Zf (Zc (@bR _ _ _ _ (@bE _ _ _ (YZ kN aQ (Y4 (Y6 K (pv 2)) (Y1 (@l8 _ _ _ _ _ _ _ _ _ _ _ _ _ _ (by exact rfl) (show bD ["_law_case_here","_law_told","_law_one","_law_k"] (ar gk) _ ["_law_k"] [0,2] ["_law_case_here","_law_one"]from⟨rfl,by decide+kernel,by decide+kernel,by decide+kernel,rfl,rfl,by decide+kernel,by decide+kernel,by decide+kernel⟩) (@cL _ _ _ _ _ _ (by exact rfl) T.dX (Y1 (Y5 (aG K) (by exact rfl) T.cD (Y1 (Y6 K (pv 2))))) (Zz)) (fun _ _ _ _ _=>(Y2 (0) (show(["_law_k","_law_case_here","_law_one"]:List Str).Nodup by decide+kernel))) (fun _ _ _ _ _=>iF) (fun _ _ _ _ _=>(YZ ed aQ (Y4 (pv 1) (Y1 (@lr _ _ _ _ _ _ _ _ _ _ (yx K) (Y6 K (pv 2)) sf (@l6 _ _ _ (Y8 bx Zw ai))))))) (by intro _;rfl))))) (by intro _;rfl))) aP) (Y' (@bj _ _ _ _ _ _ _ _ hX.own Zv (@cL _ _ _ _ _ _ (by exact rfl) T.dX (Y1 (Y5 (aG K) (by exact rfl) T.cD (Y1 (Y6 K (pv 2))))) (Zz)) (Y2 (3) jS.nd) (Zf (Zc (@bR _ _ _ _ (@bE _ _ _ (YZ dC aQ (Y4 Zw (Y1 (@bM _ _ _ _ (Y1 (Y3 (Y6 K (pv 2)) (pv 3))))))) (by intro _;rfl))) aP) (Y' (Zc (@PW.pt _ _ _ (@pw_and _ _ _ _ _ _ _ (Zj oh (pv 3) ai (aV _)) (@pw_and1 _ _ _ _ (Zj (C_ K (Nat.lt_of_succ_lt hu)) (Y3 (Y6 K (pv 2)) (Y8 bY (pv 3) ai)) (Y3 (Y6 K (pv 2)) (pv 3)) (aV _))))) aP))) (by intro _;rfl))))) (by intro _;rfl)) (Y' (Zm cB)))),?_⟩;refine⟨fun σ H1=>σ=[some (.ref b),some (.ref t),none,none]∧ax H H1,?_,?_⟩
  ·refine⟨_,rfl,_,_,_,true,_,rfl,rfl, .lst ht,rfl,_,rfl,?_⟩;refine eU ?_;refine⟨_,rfl,_,rfl,b,t,c,x1,x2,m,l,us,vs,es,rfl,C1,ok,ht,FL,TD,fun H3 s3=>⟨_,rfl,?_⟩⟩;refine eU ?_;exact⟨rfl,s3⟩
  rintro σ H1 ⟨rfl,s1⟩;refine⟨fun σ H2=>ax H H2,?_,fun σ H2 s2=>q _ s2⟩;refine⟨_,rfl,t,rfl,⟨_, .of (s1 _ _ ht)⟩,?_⟩;refine bJ (xs:=vs) (fun k σ H2=>(∃u v,σ=[some (.ref b),some (.ref t),u,v])∧ax H H2) ⟨⟨_,_,rfl⟩,s1⟩ ?_ ?_ (fun _ _ h=>h.2)
  ·rintro k σ H2 _ ⟨_,s2⟩;exact .of (s2 _ _ ht)
  rintro k v σ H2 hv ⟨⟨u1,u2,rfl⟩,s2⟩;have hk:k<es.length:=by rw[←Mq];exact(Y7 hv).1
  have ek:es[k]?=some es[k]:=by simp[hk]
  generalize es[k]=d at ek;obtain⟨y,dy,wy,fY,pr,jt,gY,e1,F3⟩:=FL.2 k d ek;rw[hv]at e1;cases e1;have fe:=TD.fe d (Ze ek);have FF:∀{H'},ax H H'→rp (fun _=>True) H' ay y d dy wy fY pr jt gY:=fun{H'} s'=>F3.keep (fun b o _ e=>s' b o e) (e6.same s') fun _ h=>h
  have iw:=tS fe.way;have pl:=TD.AD ok (k+1);rw[oV ek,List.length_append]at pl;have wl:d.way.length≤2500:=by
   have h6:=len_sub d.way d.pairs (fe.way.up.imp fun{a b} h e=>by
    rw[e]at h;have:=h.1;omega) fe.sub
   omega
  have ul:=F3.pw.1;have YV:=F3.pp.1;have O4:d.row=(List.range d.way.length).map fun i=>vl (lf (i7 c [])) c.out c.into (d.way.take (i+1)):=fe.row
  refine⟨fun σ H3=>σ=[some (.ref b),some (.ref t),some (.ref y),u2]∧H3=H2,?_,?_⟩
  ·refine⟨_,rfl,_,_,_,true,_,rfl,rfl, .ins (FF s2).ob Fc.cl HS HU HV HW,HX,_,rfl,?_⟩;refine eU ?_;exact⟨rfl,rfl⟩
  rintro σ H2 ⟨rfl,rfl⟩;refine⟨fun σ H3=>σ=[some (.ref b),some (.ref t),some (.ref y),u2]∧ax H2 H3,?_,?_⟩
  ·have F:=FF s2;refine⟨_,rfl,y,ay,dy,_,_,rfl,F.ob,Fc.cl,Fc.row,tD d.worth wy fY pr,_,rfl,y,ay,dy,_,_,rfl,F.ob,Fc.cl,Fc.way,ky d.worth wy fY pr,wy,_,rfl, .inl (.of F.hw),_,rfl,Zx,Zx,fun D hD=>?_⟩;refine sP (fun i ys bH H3=>(∃u,bH=[u,some (.ref b),some (.ref y)])∧ys=((List.range i).map fun i=>vl (lf (i7 c [])) c.out c.into (d.way.take (i+1))).map V.int∧H3 D=some (.lst ys)∧ax H2 H3) ⟨⟨_,rfl⟩,rfl,ae,ax.upd hD⟩ ?_ ?_
   ·rintro i ys bH H3 hi ⟨⟨u,rfl⟩,rfl,x_,s3⟩;have hi:i<d.way.length:=by have:i<((jt.length:Nat):Int).toNat:=hi;omega
    refine qh ?_;have F:=FF (s2.trans s3);refine⟨_,rfl,_,rfl,y,ay,dy,_,_,rfl,F.ob,Fc.cl,Fc.way,ky d.worth wy fY pr,_,rfl,_,_,rfl,rfl,_,rfl,wy,jt,rfl, .of F.hw,fun z hz=>?_⟩;rw[Ko Zt (Zx),show(0+(i:Int)+1).toNat=i+1 by omega];have sz:=ax.upd (o:= .lst (jt.take (i+1))) hz;have Vz:=Ab iw (n:=i+1) (Zx);refine⟨b,z,c,x1,x2,m,l,us,_,_,rfl,C1.keep ((s2.trans s3).trans sz),ok.num,ae,(F.pw.take (i+1)).same sz,by rw[List.length_take];omega,Vz,sz _ _ x_,ba (by simp;omega),⟨_,rfl⟩,?_,ae,(s3.trans sz).eZ hD⟩;rw[(BV Vz).2,List.range_succ,List.map_append,List.map_append];rfl
   ·rintro ys bH H3 ⟨_,rfl,x_,s3⟩;rw[show((jt.length:Nat):Int).toNat=d.way.length by omega,←O4]at x_;have F:=FF (s2.trans s3);refine⟨fY,D,d.row,rfl,F.hr,x_,by rw[O4];simp;omega,_,rfl,?_⟩;refine eU ?_;exact⟨rfl,s3⟩
  rintro σ H3 ⟨rfl,s3⟩;have Mm:=s2.trans s3;have F:=FF Mm;refine⟨_,rfl,y,ay,dy,_,_,rfl,F.ob,Fc.cl,Fc.pairs,fF d.worth wy fY pr,pr,_,rfl, .inl (.of F.hp),_,rfl,Zx,Zx,?_⟩;refine dI (fun i σ H4=>(∃v,σ=[some (.ref b),some (.ref t),some (.ref y),v])∧ax H H4) ⟨⟨_,rfl⟩,Mm⟩ ?_ (fun σ H4 ⟨⟨v,e⟩,s4⟩=>⟨⟨_,_,e⟩,s4⟩);rintro i σ H4 hi ⟨⟨v,rfl⟩,s4⟩;have hi:i<d.pairs.length:=by have:i<((gY.length:Nat):Int).toNat:=hi;omega
  have F:=FF s4;have ei:d.pairs[i]?=some d.pairs[i]:=by simp[hi]
  obtain⟨g,hg⟩:∃g,d.pairs[i]=g:=⟨_,rfl⟩
  rw[hg]at ei;obtain⟨tt,g1,g2⟩:=F.pp.2 i g ei;have zC:rg gY (0+(i:Int))=some (.ref tt):=by rw[Int.zero_add];exact av g1
  refine⟨fun σ H5=>σ=[some (.ref b),some (.ref t),some (.ref y),some (.int (0+(i:Int)))]∧ax H4 H5,?_,?_⟩
  ·refine⟨_,rfl,_,rfl,y,ay,dy,_,_,rfl,F.ob,Fc.cl,Fc.pairs,fF d.worth wy fY pr,_,rfl,pr,_,_,_,rfl,rfl, .of F.hp,zC,aF Zr,fun z hz=>?_⟩;have sz:=ax.upd (o:= .lst [.ref tt]) hz;refine⟨b,z,c,x1,x2,m,l,us,_,[g],rfl,C1.keep (s4.trans sz),ae, .one (sz _ _ g2),ZA,fun H5 s5=>⟨_,rfl,?_⟩⟩;rw[Hx (fe.op g (Ze ei))];refine eU ?_;exact⟨rfl,sz.trans s5⟩
  rintro σ H5 ⟨rfl,s5⟩;have Tp:=s4.trans s5;have F:=FF Tp;refine⟨_,rfl,_,_,rfl,rfl,_,rfl,?_⟩;refine a8 (fun h1=>?_) (fun _=>eU ⟨⟨_,rfl⟩,Tp⟩);have h1:0<i:=by
   have:(0:Int)<0+(i:Int):=by simpa using h1
   omega
  obtain⟨j,rfl⟩:∃j,i=j+1:=⟨i-1,Zx⟩
  have hj:j<d.pairs.length:=Zx;have ej:d.pairs[j]?=some d.pairs[j]:=by simp[hj]
  obtain⟨tq,q1,q2⟩:=F.pp.2 j _ ej;have Tq:rg gY (0+((j+1:Nat):Int)-1)=some (.ref tq):=by rw[show 0+((j+1:Nat):Int)-1=(j:Int) by omega];exact av q1
  refine⟨_,rfl,y,ay,dy,_,_,rfl,F.ob,Fc.cl,Fc.pairs,fF d.worth wy fY pr,_,rfl,_,_,rfl,rfl,pr,_,_,_,rfl,rfl, .of F.hp,Tq,_,rfl,y,ay,dy,_,_,rfl,F.ob,Fc.cl,Fc.pairs,fF d.worth wy fY pr,_,rfl,pr,_,_,_,rfl,rfl, .of F.hp,zC,tq,tt,_,g,rfl,rfl,q2,s5 _ _ g2,_,rfl,?_⟩;rw[←hg,List.pairwise_iff_getElem.mp fe.sq j (j+1) hj hi Zt];exact eU ⟨⟨_,rfl⟩,Tp⟩
variable(jA:bK P w K mg base true 3 "_law_case" ["_law_script","_law_most"] (wN K))
variable(jB:bK P w K mg base true 2 "_law_calm" ["_law_case_here"] xh)
variable(iS:bK P w K mg base true 7 "_law_terms" ["_law_case_here"] (qk aT))
variable(kf:bK P w K mg base true 8 "compare" ["first","second","terms"] (xg aT ay j9))
variable(gB:bK P w K mg base true 1 "_law_texts" ["_law_found","_law_due"] sW)
variable(gC:bK P w K mg base true 5 "_law_right" ["_law_case_here","_law_told"] (qD ay))
theorem nP:aM ["_law_script","_law_case_here","_law_first","_law_second","_law_terms_here","_law_told","_law_one"] ["_law_script"] (ar tT):=⟨rfl,rfl,rfl,by decide+kernel,rfl,by decide+kernel,by decide+kernel⟩
include T Fc a_ jA jB iS kf gB gC in
theorem LK{f:Addr}{fd:FuncData}(F:jh K "law" "law" tT f fd):a7 P w K mg base (cW P w) true 10 f fd ["_law_script"] (Bl K):=by
 refine F.gI nP Zs (fun bT A outer s H vs Q E hr h hX=>?_)
 ·obtain⟨a,ns,rfl,_⟩:=h;rfl
 ·obtain⟨a,ns,rfl,hS,hlen,q⟩:=h;refine⟨_,(Zf (Y0 (1) nP.nd (YZ jB aQ (Y1 (YZ jA aQ (Y4 Zw (Y1 (Y3 (@bM _ _ _ _ (Y4 ai (Y4 ai (Y4 ai (Y1 ai))))) (Y8 bS (YZ a_ aQ (Y4 Zw (Y1 ai))) ai)))))))) (Zf (Y0 (2) nP.nd (@gO _ _ _ _ _ _ _ _ _ (gW K) (by exact rfl) T.ko PyProof.Rows.Boot.«list» (Y1 (Y3 (pv 1) ai)) (Zy) (Zy) (Zz) (Zz))) (Zf (Y0 (3) nP.nd (@gO _ _ _ _ _ _ _ _ _ (gW K) (by exact rfl) T.ko PyProof.Rows.Boot.«list» (Y1 (Y3 (pv 1) ai)) (Zy) (Zy) (Zz) (Zz))) (Zf (Y0 (4) nP.nd (YZ iS aQ (Y1 (pv 1)))) (Zf (Y0 (5) nP.nd (YZ kf aQ (Y4 (pv 2) (Y4 (pv 3) (Y1 (pv 4)))))) (Zf (Zc (@PW.pt _ _ _ (@pw_or _ _ _ _ _ _ _ (@bR _ _ _ _ (@bE _ _ _ (YZ gB aQ (Y4 (pv 2) (Y1 (Y3 (pv 1) ai)))) (by intro _;rfl))) (@pw_or1 _ _ _ _ (@bR _ _ _ _ (@bE _ _ _ (YZ gB aQ (Y4 (pv 3) (Y1 (Y3 (pv 1) ai)))) (by intro _;rfl)))))) aP) (Zf (Zc (@bR _ _ _ _ (@bE _ _ _ (YZ gC aQ (Y4 (pv 1) (Y1 (pv 5)))) (by intro _;rfl))) aP) (Zf (@bj _ _ _ _ _ _ _ _ hX.own Zv (@bg _ K _ _ _ (pv 5) (Zz)) (Y2 (6) nP.nd) (Zf (Zq (@Bp _ K _ _ _ _ _ _ _ _ PySem.F.plainAttrs_list PySem.F.slot_list_clear PySem.F.type_list_clear D8 (Y6 K (pv 6)) (Zz) (Zz) (Zz))) (Zf (Zq (Y_ K PySem.F.plainAttrs_list PySem.F.slot_list_append PySem.F.type_list_append bC (Y6 K (pv 6)) (Y1 (@eX _ _ _ _ _ (Y4 ai (Y1 ai)))))) (Y' (Zq (Y_ K PySem.F.plainAttrs_list PySem.F.slot_list_append PySem.F.type_list_append bC (Y6 K (pv 6)) (Y1 ai)))))) (by intro _;rfl)) (Y' (Zm (YZ gC aQ (Y4 (pv 1) (Y1 (YZ kf aQ (Y4 (pv 2) (Y4 (pv 3) (Y1 (pv 4)))))))))))))))))),?_⟩;refine⟨fun σ H1=>∃(b:Addr)(c:Case)(x1 x2 m l:Addr)(us:List V),σ=[some (.ref a),some (.ref b),none,none,none,none,none]∧j4 H1 b c x1 x2 m l us∧e7 40 c∧UE c,?_,?_⟩
  ·obtain⟨mo,BY,hm⟩:=int_at [12,12,12,40] (i:=cell ns 12%4) (Zx) (show cell ns 12%4<(4:Int) by omega);have F8:mo=12∨mo=40:=by simp at BY;omega
   refine⟨_,rfl,aF Zr,fun p hp=>⟨_,rfl,a,ns,12,rfl,(ax.upd hp).seq hS,Zy,_,_,rfl,rfl,(show(0:Int)<4 by decide),p,_,_,_,rfl,rfl, .of ae,by simpa using hm,a,ns,mo,rfl,(ax.upd hp).seq hS,Zx,Zx,fun H1 b c x1 x2 m l us s1 hb C1 ok=>?_⟩⟩;have hx:=ok.x;have hy:=ok.y;have Tr:e7 60 c:=⟨Zx,Zx,ok.good,ok.same,ok.out,ok.into,ok.least⟩
   have Ts:e7 40 c:=⟨Zx,Zx,ok.good,ok.same,ok.out,ok.into,ok.least⟩
   have VA:=BU Ts Zt;exact⟨b,c,x1,x2,m,l,us,rfl,C1,Tr,fun H2 b2 m2 s2 xf vz C2=>⟨b2,f_ c,x1,x2,m2,l,us,rfl,C2,VA,FH VA⟩⟩
  rintro σ H1 ⟨b,c,x1,x2,m,l,us,rfl,C1,ok,vx⟩;have Yd:=ok.x;have Ye:=ok.y;have LL:e7 50 c:=⟨Zx,Zx,ok.good,ok.same,ok.out,ok.into,ok.least⟩
  have kM:=C1.ca;refine⟨fun σ H2=>∃y1,σ=[some (.ref a),some (.ref b),some (.ref y1),none,none,none,none]∧ax H1 H2∧H2 y1=some (.lst (c.xs.map V.str)),⟨_,rfl,b,_,0,_,rfl,rfl, .of kM,av (j:=0) rfl,x1,_,rfl, .inl (.of C1.fi),fun y1 zB=>⟨y1,rfl,ax.upd zB,ae⟩⟩,?_⟩;rintro σ H2 ⟨y1,rfl,s2,zB⟩;have kM:=s2 _ _ C1.ca;refine⟨fun σ H3=>∃y2,σ=[some (.ref a),some (.ref b),some (.ref y1),some (.ref y2),none,none,none]∧ax H2 H3∧H3 y2=some (.lst (c.ys.map V.str)),⟨_,rfl,b,_,1,_,rfl,rfl, .of kM,av (j:=1) rfl,x2,_,rfl, .inl (.of (s2 _ _ C1.se)),fun y2 yW=>⟨y2,rfl,ax.upd yW,ae⟩⟩,?_⟩;rintro σ H3 ⟨y2,rfl,s3,yW⟩;have C3:=(C1.keep s2).keep s3;refine⟨fun σ H4=>∃t0,σ=[some (.ref a),some (.ref b),some (.ref y1),some (.ref y2),some (.ref t0),none,none]∧ax H3 H4∧wM H4 aT t0 c,⟨_,rfl,b,c,x1,x2,m,l,us,40,rfl,C3,ok,fun H4 t0 s4 TF=>⟨t0,rfl,s4,TF⟩⟩,?_⟩;rintro σ H5 ⟨t0,rfl,s4,TF⟩;have C5:=C3.keep s4;have zB:=s4 _ _ (s3 _ _ zB);have yW:=s4 _ _ yW;refine⟨fun σ H6=>∃t vs es,σ=[some (.ref a),some (.ref b),some (.ref y1),some (.ref y2),some (.ref t0),some (.ref t),none]∧ax H5 H6∧H5 t=none∧H6 t=some (.lst vs)∧cG (fun b=>H5 b=none) H6 ay vs es∧dM (i7 c []) c.out c.into c.least es,?_,?_⟩
  ·refine⟨_,rfl,_,rfl,_,rfl,y1,y2,t0,c,rfl,zB,yW,TF,Zx,Zx,fun es TD H6 r vs s6 hr h6 FL=>⟨r,vs,es,rfl,s6,hr,h6,FL,TD⟩,fun ds f2 RC hl H6 s6=>?_⟩;have:=vx _ _ RC;omega
  rintro σ H6 ⟨t,vs,es,rfl,s6,t5,ht,FL,TD⟩;have C6:=C5.keep s6;have kM:=C6.ca;have Mq:=FL.1;refine⟨fun σ H7=>σ=[some (.ref a),some (.ref b),some (.ref y1),some (.ref y2),some (.ref t0),some (.ref t),none]∧H7=H6,?_,?_⟩
  ·refine⟨_,rfl,_,rfl,b,_,0,_,rfl,rfl, .of kM,av (j:=0) rfl,y1,x1,c.xs,rfl,s6 _ _ zB,C6.fi,Zx,_,rfl,?_⟩;refine eU ?_;refine⟨_,rfl,_,rfl,b,_,1,_,rfl,rfl, .of kM,av (j:=1) rfl,y2,x2,c.ys,rfl,s6 _ _ yW,C6.se,Zx,_,rfl,?_⟩;refine eU ?_;exact⟨rfl,rfl⟩
  rintro σ H6 ⟨rfl,rfl⟩;refine⟨fun σ H7=>σ=[some (.ref a),some (.ref b),some (.ref y1),some (.ref y2),some (.ref t0),some (.ref t),none]∧ax H6 H7,?_,?_⟩
  ·refine⟨_,rfl,_,rfl,b,t,c,x1,x2,m,l,us,vs,es,rfl,C6,LL,ht,FL.keep (fun _ _ _ h=>h) (fun _ _ h=>h) (fun _ _=>trivial),TD,fun H7 s7=>⟨_,rfl,?_⟩⟩;refine eU ?_;exact⟨rfl,s7⟩
  rintro σ H7 ⟨rfl,s7⟩;refine⟨fun σ H8=>(∃u,σ=[some (.ref a),some (.ref b),some (.ref y1),some (.ref y2),some (.ref t0),some (.ref t),u])∧ax H5 H8,?_,?_⟩
  ·refine⟨_,rfl,t,rfl,⟨_, .of (s7 _ _ ht)⟩,?_⟩;refine bJ (xs:=vs) (fun k σ H8=>(∃u,σ=[some (.ref a),some (.ref b),some (.ref y1),some (.ref y2),some (.ref t0),some (.ref t),u])∧Lk H5 H6 t vs (3*k) H8) ⟨⟨_,rfl⟩,(Lk.start s6 ht).same s7⟩ ?_ ?_ (fun _ _ h=>⟨h.1,h.2.old⟩)
   ·rintro k σ H8 _ ⟨_,L8⟩;exact .of L8.top
   rintro k v σ H8 hv ⟨⟨u,rfl⟩,L8⟩;have hk:k<es.length:=by rw[←Mq];exact(Y7 hv).1
   have YW:=TD.vx;have ek:es[k]?=some es[k]:=by simp[hk]
   generalize es[k]=d at ek;have e0:es[0]?=some es[0]:=by simp[show 0<es.length by omega]
   obtain⟨z,dz,wz,rz,pz,YX,YY,ez,FZ⟩:=FL.2 0 _ e0;obtain⟨y,dy,wy,fY,pr,jt,gY,e1,F⟩:=FL.2 k d ek;rw[hv]at e1;cases e1;have hd:=Ze ek;have fe:=TD.fe d hd;have Yh:d.row≠[]:=fun e=>fe.way.ne (List.length_eq_zero_iff.mp (by rw[←xi (lf (i7 c [])) c.out c.into,←fe.row,e];rfl))
   obtain⟨n1,n2,n3⟩:=FJ F ht ez ⟨_,_,_,FZ.ob⟩ fe.way.ne (TD.ne d hd) Yh;have pl:=TD.AD LL (k+1);rw[oV ek,List.length_append]at pl;have wl:d.way.length≤2500:=by
    have h6:=len_sub d.way d.pairs (fe.way.up.imp fun{a b} h e=>by
     rw[e]at h;have:=h.1;omega) fe.sub
    omega
   have ul:=F.pw.1;have rl:(d.row.map V.int).length≤2500:=by rw[List.length_map,fe.row,xi];exact wl
   have ob:∀{n H'},Lk H5 H6 t vs n H'→H' y=some (.ins ay dy (lE d.worth wy fY pr)):=fun L=>L.obj _ _ F.ob (fun xs h=>by cases h)
   refine⟨fun σ H9=>σ=[some (.ref a),some (.ref b),some (.ref y1),some (.ref y2),some (.ref t0),some (.ref t),some (.ref y)]∧Lk H5 H6 t vs (3*k+1) H9,?_,?_⟩
   ·obtain⟨ys,g1,g2⟩:=L8.lst pr _ F.hp;exact⟨_,rfl,y,ay,dy,_,_,rfl,ob L8,Fc.cl,Fc.pairs,fF d.worth wy fY pr, .inl ⟨rfl,_, .of g1⟩,pr,ys,rfl,rfl,g1,rfl,L8.put F.fp n3 F.hp g1 (ZA)⟩
   rintro σ H9 ⟨rfl,L9⟩;refine⟨fun σ Pt=>σ=[some (.ref a),some (.ref b),some (.ref y1),some (.ref y2),some (.ref t0),some (.ref t),some (.ref y)]∧Lk H5 H6 t vs (3*k+2) Pt,?_,?_⟩
   ·obtain⟨ys,g1,g2⟩:=L9.lst wy _ F.hw;refine⟨_,rfl,y,ay,dy,_,_,rfl,ob L9,Fc.cl,Fc.way,ky d.worth wy fY pr, .inl ⟨rfl,_, .of g1⟩,aF Zr,fun p hp=>?_⟩;have sp:=ax.upd (o:= .tup [.int 0, .int 0]) hp;exact⟨wy,ys,_,rfl,rfl,sp _ _ g1,ba Zt,rfl,(L9.same sp).put F.fw n1 F.hw (sp _ _ g1) (ZA)⟩
   rintro σ Pt ⟨rfl,Tt⟩;obtain⟨ys,g1,g2⟩:=Tt.lst fY _ F.hr;exact⟨_,rfl,y,ay,dy,_,_,rfl,ob Tt,Fc.cl,Fc.row,tD d.worth wy fY pr, .inl ⟨rfl,_, .of g1⟩,fY,ys,_,rfl,rfl,g1,ba Zt,⟨_,rfl⟩,Tt.put F.fr n2 F.hr g1 (ZA)⟩
  rintro σ H8 ⟨⟨u,rfl⟩,s8⟩;refine⟨_,rfl,_,rfl,_,rfl,_,rfl,y1,y2,t0,c,rfl,s8 _ _ zB,s8 _ _ yW,TF.keep s8,Zx,Zx,fun es TD H9 r vs s9 hr h9 FL=>?_,fun ds f2 RC hl H6 s6=>?_⟩
  ·exact⟨b,r,c,x1,x2,m,l,us,vs,es,rfl,(C5.keep s8).keep s9,LL,h9,FL.keep (fun _ _ _ h=>h) (fun _ _ h=>h) (fun _ _=>trivial),TD,fun H7 s7=>q _⟩
  ·have:=vx _ _ RC;omega
end
theorem all_mk{l:W.OpenLaw}{w:World}{K:W.Frag}{h:Heap}{mg:Str→Option Value}{fa:Addr}(X:K.In h)(G:h.Ns mainGlobals mg)(Yi:mg "law"=some (.ref fa))
  {pd jC:Option Addr} {pe:Array (Option Value)} {ph jD jE jF gD jG:Value}
  {gE:Addr} {pj:Value} {px:Option Addr} {pA:Nat} {pB:Array (Option Value)} {pC:Tok}
  {aT:Addr} (xq:Oz K "Terms" aT)
  {aA:Addr} (t9:Oz K "Trails" aA)
  {ay:Addr} (mB:Oz K "Finding" ay)
  {aI:Addr} (t_:Oz K "Groups" aI)
  {az:Addr} (lQ:Oz K "Gathering" az)
  {jH:Addr} (pD:W.nsIn K mainGlobals "is_small_letter"=some (some (.ref jH)))
  (pE:fG K "is_small_letter" "is_small_letter" f' jH)
  {vR:Addr} (De:W.nsIn K mainGlobals "is_word"=some (some (.ref vR)))
  (Df:fG K "is_word" "is_word" mj vR)
  {pF:Addr} (xr:W.nsIn K mainGlobals "is_between"=some (some (.ref pF)))
  (xt:fG K "is_between" "is_between" kz pF)
  {lR:Addr} (ua:W.nsIn K mainGlobals "check_number"=some (some (.ref lR)))
  (ub:fG K "check_number" "check_number" ja lR)
  {jI:Addr} (pG:W.nsIn K mainGlobals "check_near_form"=some (some (.ref jI)))
  (pH:fG K "check_near_form" "check_near_form" gc jI)
  {mW:Addr} (uU:W.nsIn K mainGlobals "near_prices"=some (some (.ref mW)))
  (uV:fG K "near_prices" "near_prices" gZ mW)
  {fC:Addr} (qH:W.findIn K (.ref aT) "__init__"=some (some (.ref fC))) (qI:W.isFn K (.ref fC)=true)
  (qJ:K.lookup fC=some ⟨ph,pd, .func (W.fnOf "__init__" "Terms.__init__" (fv br) (eJ br) (ar br) (.ref gE) jD jE jF jC gD jG),pe⟩)
  (qK:W.codeIn K gD "Terms.__init__"=true) (qL:W.keepIn K (.ref fC)=true)
  (pI:K.lookup gE=some ⟨pj,px, .seq #[.int 50 pC, .none] pA,pB⟩)
  {fR:Addr} (nQ:W.findIn K (.ref aT) "pair_worth"=some (some (.ref fR))) (nS:W.isFn K (.ref fR)=true)
  (nU:fG K "pair_worth" "Terms.pair_worth" dZ fR)
  {uc:Addr} (AO:W.nsIn K mainGlobals "greatest"=some (some (.ref uc)))
  (AQ:fG K "greatest" "greatest" kC uc)
  {FQ:Addr} (LM:W.nsIn K mainGlobals "less"=some (some (.ref FQ)))
  (LN:fG K "less" "less" AF FQ)
  {jf:Addr} (nV:W.nsIn K mainGlobals "begun_or_gone_on"=some (some (.ref jf)))
  (nW:fG K "begun_or_gone_on" "begun_or_gone_on" fN jf)
  {dP:Addr} (kg:W.findIn K (.ref aA) "brought_behind"=some (some (.ref dP))) (kh:W.isFn K (.ref dP)=true)
  (ki:fG K "brought_behind" "Trails.brought_behind" dN dP)
  {gF:Addr} (pJ:W.findIn K (.ref aA) "__init__"=some (some (.ref gF))) (pK:W.isFn K (.ref gF)=true)
  (pL:fG K "__init__" "Trails.__init__" eL gF)
  {gS:Addr} (qM:W.findIn K (.ref aA) "goes_on"=some (some (.ref gS))) (qN:W.isFn K (.ref gS)=true)
  (qO:fG K "goes_on" "Trails.goes_on" gR gS)
  {eh:Addr} (kO:W.findIn K (.ref aA) "is_brought_by"=some (some (.ref eh))) (kP:W.isFn K (.ref eh)=true)
  (kQ:fG K "is_brought_by" "Trails.is_brought_by" d0 eh)
  {cV:Addr} (jj:W.findIn K (.ref aA) "crossings_before"=some (some (.ref cV))) (jk:W.isFn K (.ref cV)=true)
  (jl:fG K "crossings_before" "Trails.crossings_before" cU cV)
  {ft:Addr} (lS:W.findIn K (.ref aA) "pair_before"=some (some (.ref ft))) (lT:W.isFn K (.ref ft)=true)
  (lU:fG K "pair_before" "Trails.pair_before" ff ft)
  {iz:Addr} (rW:W.findIn K (.ref aA) "way_to"=some (some (.ref iz))) (rX:W.isFn K (.ref iz)=true)
  (rY:fG K "way_to" "Trails.way_to" iy iz)
  {fS:Addr} (nX:W.findIn K (.ref ay) "__init__"=some (some (.ref fS))) (nY:W.isFn K (.ref fS)=true)
  (nZ:fG K "__init__" "Finding.__init__" fO fS)
  {ud:Addr} (AR:W.nsIn K mainGlobals "order_of"=some (some (.ref ud)))
  (AS:fG K "order_of" "order_of" nB ud)
  {lV:Addr} (ue:W.nsIn K mainGlobals "make_finding"=some (some (.ref lV)))
  (uf:fG K "make_finding" "make_finding" fg lV)
  {gG:Addr} (pM:W.findIn K (.ref aI) "__init__"=some (some (.ref gG))) (pN:W.isFn K (.ref gG)=true)
  (pO:fG K "__init__" "Groups.__init__" gf gG)
  {kR:Addr} (xu:W.findIn K (.ref aI) "has"=some (some (.ref kR))) (xv:W.isFn K (.ref kR)=true)
  (xw:fG K "has" "Groups.has" iI kR)
  {gT:Addr} (qQ:W.findIn K (.ref aI) "take_in"=some (some (.ref gT))) (qR:W.isFn K (.ref gT)=true)
  (qS:fG K "take_in" "Groups.take_in" fA gT)
  {jg:Addr} (ug:W.findIn K (.ref aI) "unite"=some (some (.ref jg))) (uh:W.isFn K (.ref jg)=true)
  (ui:fG K "unite" "Groups.unite" fh jg)
  {jT:Addr} (uW:W.findIn K (.ref aI) "told"=some (some (.ref jT))) (uX:W.isFn K (.ref jT)=true)
  (uY:fG K "told" "Groups.told" g7 jT)
  {fu:Addr} (lW:W.findIn K (.ref az) "__init__"=some (some (.ref fu))) (lX:W.isFn K (.ref fu)=true)
  (lY:fG K "__init__" "Gathering.__init__" fj fu)
  {gU:Addr} (qT:W.findIn K (.ref az) "mark"=some (some (.ref gU))) (qU:W.isFn K (.ref gU)=true)
  (qV:fG K "mark" "Gathering.mark" fB gU)
  {fE:Addr} (mI:W.findIn K (.ref az) "go_over"=some (some (.ref fE))) (mJ:W.isFn K (.ref fE)=true)
  (mK:fG K "go_over" "Gathering.go_over" dG fE)
  {gH:Addr} (pQ:W.findIn K (.ref az) "visit"=some (some (.ref gH))) (pR:W.isFn K (.ref gH)=true)
  (pS:fG K "visit" "Gathering.visit" eM gH)
  {mY:Addr} (uZ:W.nsIn K mainGlobals "best_groups"=some (some (.ref mY)))
  (u0:fG K "best_groups" "best_groups" jO mY)
  {vS:Addr} (Dg:W.nsIn K mainGlobals "shut_by"=some (some (.ref vS)))
  (Dh:fG K "shut_by" "shut_by" mn vS)
  {mZ:Addr} (u7:W.nsIn K mainGlobals "open_worths"=some (some (.ref mZ)))
  (u9:fG K "open_worths" "open_worths" fH mZ)
  {pT:Addr} (xx:W.nsIn K mainGlobals "make_round"=some (some (.ref pT)))
  (xy:fG K "make_round" "make_round" gh pT)
  {pU:Addr} (xA:W.nsIn K mainGlobals "shut_pairs"=some (some (.ref pU)))
  (xB:fG K "shut_pairs" "shut_pairs" kD pU)
  {vT:Addr} (Di:W.nsIn K mainGlobals "compare"=some (some (.ref vT)))
  (Dj:fG K "compare" "compare" qE vT)
  {vU:Addr} (Dk:W.nsIn K mainGlobals "_law_at"=some (some (.ref vU)))
  (Dm:fG K "_law_at" "_law_at" qF vU)
  {pV:Addr} (xC:W.nsIn K mainGlobals "_law_whole"=some (some (.ref pV)))
  (xD:fG K "_law_whole" "_law_whole" kE pV)
  {rB:Addr} (y8:W.nsIn K mainGlobals "_law_bank"=some (some (.ref rB)))
  (y9:fG K "_law_bank" "_law_bank" lI rB)
  {rC:Addr} (y_:W.nsIn K mainGlobals "_law_book"=some (some (.ref rC)))
  (ZX:fG K "_law_book" "_law_book" lJ rC)
  {pW:Addr} (xE:W.nsIn K mainGlobals "_law_quote"=some (some (.ref pW)))
  (xF:fG K "_law_quote" "_law_quote" iJ pW)
  {lZ:Addr} (uj:W.nsIn K mainGlobals "_law_numbers"=some (some (.ref lZ)))
  (uk:fG K "_law_numbers" "_law_numbers" gi lZ)
  {rD:Addr} (ZN:W.nsIn K mainGlobals "_law_near"=some (some (.ref rD)))
  (ZJ:fG K "_law_near" "_law_near" lK rD)
  {rE:Addr} (ZU:W.nsIn K mainGlobals "_law_case"=some (some (.ref rE)))
  (ZW:fG K "_law_case" "_law_case" lL rE)
  {rF:Addr} (ZK:W.nsIn K mainGlobals "_law_pair"=some (some (.ref rF)))
  (ZY:fG K "_law_pair" "_law_pair" lM rF)
  {pX:Addr} (xG:W.nsIn K mainGlobals "_law_worth"=some (some (.ref pX)))
  (xH:fG K "_law_worth" "_law_worth" kF pX)
  {pY:Addr} (xI:W.nsIn K mainGlobals "_law_pairs"=some (some (.ref pY)))
  (xJ:fG K "_law_pairs" "_law_pairs" kG pY)
  {pZ:Addr} (xK:W.nsIn K mainGlobals "_law_terms"=some (some (.ref pZ)))
  (xM:fG K "_law_terms" "_law_terms" kH pZ)
  {p4:Addr} (xN:W.nsIn K mainGlobals "_law_texts"=some (some (.ref p4)))
  (xO:fG K "_law_texts" "_law_texts" kI p4)
  {um:Addr} (AU:W.nsIn K mainGlobals "_law_row"=some (some (.ref um)))
  (AV:fG K "_law_row" "_law_row" nC um)
  {rG:Addr} (ZT:W.nsIn K mainGlobals "_law_calm"=some (some (.ref rG)))
  (ZR:fG K "_law_calm" "_law_calm" lN rG)
  {l0:Addr} (uo:W.nsIn K mainGlobals "_law_finding"=some (some (.ref l0)))
  (uq:fG K "_law_finding" "_law_finding" gj l0)
  {m3:Addr} (u_:W.nsIn K mainGlobals "_law_is_way"=some (some (.ref m3)))
  (va:fG K "_law_is_way" "_law_is_way" g8 m3)
  {p5:Addr} (xP:W.nsIn K mainGlobals "_law_spots"=some (some (.ref p5)))
  (xQ:fG K "_law_spots" "_law_spots" iK p5)
  {m4:Addr} (vc:W.nsIn K mainGlobals "_law_anchor"=some (some (.ref m4)))
  (ve:fG K "_law_anchor" "_law_anchor" g9 m4)
  {p6:Addr} (xR:W.nsIn K mainGlobals "_law_right"=some (some (.ref p6)))
  (xS:fG K "_law_right" "_law_right" gk p6)
  {Jn:Addr} (O5:W.nsIn K mainGlobals "law"=some (some (.ref Jn)))
  (O6:fG K "law" "law" tT Jn)
  (Tc:El K aT)
  (Rc:Bt K aA)
  (Fc:IW K ay)
  (Gc:Og K aI)
  (Hc:I0 K az)
  (zz:TZ K)
  {ZM:Tok} (ZZ:W.nsIn K mainGlobals "WORD_MOST"=some (some (.int 12 ZM)))
  {xT:Tok} (xU:W.nsIn K mainGlobals "WORTH_MOST"=some (some (.int 999999 xT)))
  {ZO:Tok} (ZS:W.nsIn K mainGlobals "NEAR_MOST"=some (some (.int 60 ZO)))
  {Z_:Tok} (ZQ:W.nsIn K mainGlobals "PART_MOST"=some (some (.int 100 Z_)))
  {rZ:Tok} (r6:W.nsIn K mainGlobals "FINDINGS_MOST"=some (some (.int 20 rZ)))
  {d6:Addr} (AW:Oy K "BadTerms" d6)
  {cX:Addr} (Dn:Oy K "BadNear" cX)
  {j9:Addr} (Dp:Oy K "TooMany" j9)
  (AX:W.nsIn K mainGlobals "reversed"=some none)
  (FR:W.nsIn K mainGlobals "sorted"=some none)
  (HS:W.findIn K (.ref ay) "__class__"=some (some (.builtin "object.__class__")))
  (HU:W.specialIn K (.builtin "object.__class__") "__get__"=some (some (.builtin "getset_descriptor.__get__")))
  (HV:W.takesIn K (.builtin "object.__class__")=some true)
  (HW:W.mroIn K ay (.type "object")=some true)
  (HX:W.kitOne K (.ref ay) (.ref ay)=some true)
  :∃fd:FuncData,(∀(s:Shared)(v:Value),BindsTo s fd ⟨[v],[]⟩ [("_law_script",v)])∧∀base:Heap,K.In base→base.Ns mainGlobals mg→a7 l.prog w K mg base (cW l.prog w) true 10 fa fd ["_law_script"] (Bl K):=by
 have e:=Yi.symm.trans (W.mg_of X G O5);cases e;have T:=zz.tb X G;have ju:DO mg "WORD_MOST" (.int 12):=⟨_,W.mg_of X G ZZ,_,rfl⟩
 have bQ:DO mg "WORTH_MOST" (.int 999999):=⟨_,W.mg_of X G xU,_,rfl⟩
 have ip:DO mg "NEAR_MOST" (.int 60):=⟨_,W.mg_of X G ZS,_,rfl⟩
 have jv:DO mg "PART_MOST" (.int 100):=⟨_,W.mg_of X G ZQ,_,rfl⟩
 have eA:DO mg "FINDINGS_MOST" (.int 20):=⟨_,W.mg_of X G r6,_,rfl⟩
 have jb:=AW.er X G;have b_:=Dn.er X G;have ke:=Dp.er X G;have LO:mg "reversed"=none:=W.mg_none_of X G AX;have jd:mg "sorted"=none:=W.mg_none_of X G FR;have mz:mg "Finding"=some (.ref ay):=W.mg_of X G mB.a;obtain @⟨_,k1,k2,k3,k4,k5,_,k6,_,l9,c9,k9⟩:=O6;refine⟨W.fnOf "law" "law" (fv tT) (eJ tT) (ar tT) .none k1 k2 k3 k6 k4 k5,fun s v=> .of_eq rfl,fun base _ _=>?_⟩;have eO:=pE.df X G pD (fun _ F=>nF (P:=l.prog) (w:=w) (base:=base) T F) (C9 fun _ _ _ _ _ _ _=>rfl);have j_:=Df.df X G De (fun _ F=>AH (P:=l.prog) (w:=w) (base:=base) T ju eO F) (C9 fun _ _ _ _ _ _ _=>rfl);have d7:=xt.df X G xr (fun _ F=>uG (P:=l.prog) (w:=w) (base:=base) T F) (AB fun _ _ _ _ _ _ _ _ _=>rfl);have cz:=ub.df X G ua (fun _ F=>rO (P:=l.prog) (w:=w) (base:=base) T d7 jb F) (Sh fun _ _ _ _ _ _ _ _ _ _=>rfl);have eP:=pH.df X G pG (fun _ F=>nH (P:=l.prog) (w:=w) (base:=base) T d7 bQ j_ b_ F) (AB fun _ _ _ _ _ _ _ _ _=>rfl);have g_:=uV.df X G uU (fun _ F=>tU (P:=l.prog) (w:=w) (base:=base) T b_ ip eP F) (C9 fun _ _ _ _ _ _ _=>rfl);have qW:=Bi (st:=br) qJ qK qL;have qX:=oX (P:=l.prog) (w:=w) (base:=base) T bQ jv cz g_ Tc qW;have AY:Binds K (W.fnOf "__init__" "Terms.__init__" (fv br) (eJ br) (ar br) (.ref gE) jD jE jF jC gD jG) ["self","same","out","into","least","part","near"] []:=fun s us hK hl=>by
  obtain⟨_,_,_,_,_,_,_,rfl⟩:=QF.Rx us (by simpa using hl);exact BindsTo.of_defaults rfl (hK _ _ pI) rfl rfl rfl
 have o_:mO l.prog w K mg base true 5 "Terms" aT ["self","same","out","into","least","part","near"] [] (si aT d6 cX):=yw qX ⟨xq.b,qH,qI,xq.c⟩ (W.mg_of X G xq.a) AY (.nil);have d_:=nU.mt Tc.cl nQ nS (fun _ F=>mD (P:=l.prog) (w:=w) (base:=base) T Tc F) (AB fun _ _ _ _ _ _ _ _ _=>rfl);have fo:=AQ.df X G AO (fun _ F=>yY (P:=l.prog) (w:=w) (base:=base) T F) (C9 fun _ _ _ _ _ _ _=>rfl);have kJ:=LN.df X G LM (fun _ F=>Hz (P:=l.prog) (w:=w) (base:=base) T F) (uE fun _ _ _ _ _ _ _ _=>rfl);have d8:=nW.df X G nV (fun _ F=>mF (P:=l.prog) (w:=w) (base:=base) T F) (uE fun _ _ _ _ _ _ _ _=>rfl);have cF:=ki.mt Rc.cl kg kh (fun _ F=>jQ (P:=l.prog) (w:=w) (base:=base) T fo kJ Rc F) (AB fun _ _ _ _ _ _ _ _ _=>rfl);have my:=pL.nw (W.mg_of X G t9.a) t9.b t9.c pJ pK (fun _ F=>nJ (P:=l.prog) (w:=w) (base:=base) T Tc Rc d8 cF F) (AB fun _ _ _ _ _ _ _ _ _=>rfl);have cb:=qO.mt Rc.cl qM qN (fun _ F=>oY (P:=l.prog) (w:=w) (base:=base) T Rc F) (uE fun _ _ _ _ _ _ _ _=>rfl);have bb:=kQ.mt Rc.cl kO kP (fun _ F=>kb (P:=l.prog) (w:=w) (base:=base) T Rc F) (AB fun _ _ _ _ _ _ _ _ _=>rfl);have aZ:=jl.mt Rc.cl jj jk (fun _ F=>jc (P:=l.prog) (w:=w) (base:=base) T kJ Rc F) (uE fun _ _ _ _ _ _ _ _=>rfl);have dq:=lU.mt Rc.cl lS lT (fun _ F=>k_ (P:=l.prog) (w:=w) (base:=base) T Rc bb aZ F) (uE fun _ _ _ _ _ _ _ _=>rfl);have fK:=rY.mt Rc.cl rW rX (fun _ F=>qG (P:=l.prog) (w:=w) (base:=base) T Rc cb dq F) (uE fun _ _ _ _ _ _ _ _=>rfl);have kK:=nZ.nw (W.mg_of X G mB.a) mB.b mB.c nX nY (fun _ F=>mH (P:=l.prog) (w:=w) (base:=base) T Fc F) (UD fun _ _ _ _ _ _ _ _ _ _ _=>rfl);have kL:=AS.df X G AR (fun _ F=>y4 (P:=l.prog) (w:=w) (base:=base) T Fc F) (C9 fun _ _ _ _ _ _ _=>rfl);have gq:=uf.df X G ue (fun _ F=>rR (P:=l.prog) (w:=w) (base:=base) T Rc fK kK F) (AB fun _ _ _ _ _ _ _ _ _=>rfl);have mq:=pO.nw (W.mg_of X G t_.a) t_.b t_.c pM pN (fun _ F=>nL (P:=l.prog) (w:=w) (base:=base) T Gc F) (C9 fun _ _ _ _ _ _ _=>rfl);have iL:=xw.mt Gc.cl xu xv (fun _ F=>uI (P:=l.prog) (w:=w) (base:=base) T Gc F) (uE fun _ _ _ _ _ _ _ _=>rfl);have cc:=qS.mt Gc.cl qQ qR (fun _ F=>o6 (P:=l.prog) (w:=w) (base:=base) T Gc F) (uE fun _ _ _ _ _ _ _ _=>rfl);have cQ:=ui.mt Gc.cl ug uh (fun _ F=>rS (P:=l.prog) (w:=w) (base:=base) T Gc F) (AB fun _ _ _ _ _ _ _ _ _=>rfl);have hG:=uY.mt Gc.cl uW uX (fun _ F=>tW (P:=l.prog) (w:=w) (base:=base) T Gc jd F) (C9 fun _ _ _ _ _ _ _=>rfl);have iM:=lY.nw (W.mg_of X G lQ.a) lQ.b lQ.c lW lX (fun _ F=>lb (P:=l.prog) (w:=w) (base:=base) T mq Hc F) (AB fun _ _ _ _ _ _ _ _ _=>rfl);have cf:=qV.mt Hc.cl qT qU (fun _ F=>o8 (P:=l.prog) (w:=w) (base:=base) T Hc cQ F) (AB fun _ _ _ _ _ _ _ _ _=>rfl);have dH:=mK.mt Hc.cl mI mJ (fun _ F=>lP (P:=l.prog) (w:=w) (base:=base) T bb aZ Hc cQ cc cf F) (AB fun _ _ _ _ _ _ _ _ _=>rfl);have eQ:=pS.mt Hc.cl pQ pR (fun _ F=>nM (P:=l.prog) (w:=w) (base:=base) T Rc cb Hc cc cf iL dH F) (AB fun _ _ _ _ _ _ _ _ _=>rfl);have hJ:=u0.df X G uZ (fun _ F=>tX (P:=l.prog) (w:=w) (base:=base) T Rc Hc iM eQ hG F) (uE fun _ _ _ _ _ _ _ _=>rfl);have mw:=Dh.df X G Dg (fun _ F=>AK (P:=l.prog) (w:=w) (base:=base) T F) (C9 fun _ _ _ _ _ _ _=>rfl);have hV:=u9.df X G u7 (fun _ F=>tY (P:=l.prog) (w:=w) (base:=base) T Tc mw d_ F) (Sh fun _ _ _ _ _ _ _ _ _ _=>rfl);have gu:=xy.df X G xx (fun _ F=>uJ (P:=l.prog) (w:=w) (base:=base) T Tc fo Rc my hJ gq F) (uE fun _ _ _ _ _ _ _ _=>rfl);have iO:=xB.df X G xA (fun _ F=>uK (P:=l.prog) (w:=w) (base:=base) T Fc F) (uE fun _ _ _ _ _ _ _ _=>rfl);have kf:=Dj.df X G Di (fun _ F=>AL (P:=l.prog) (w:=w) (base:=base) T jd eA hV gu iO kL ke F) (AB fun _ _ _ _ _ _ _ _ _=>rfl);have a_:=Dm.df X G Dk (fun _ F=>AN (P:=l.prog) (w:=w) (base:=base) T F) (uE fun _ _ _ _ _ _ _ _=>rfl);have bG:=xD.df X G xC (fun _ F=>uM (P:=l.prog) (w:=w) (base:=base) T F) (C9 fun _ _ _ _ _ _ _=>rfl);have jx:=y9.df X G y8 (fun _ F=>xk (P:=l.prog) (w:=w) (base:=base) T F) (AB fun _ _ _ _ _ _ _ _ _=>rfl);have jy:=ZX.df X G y_ (fun _ F=>xl (P:=l.prog) (w:=w) (base:=base) T a_ F) (UD fun _ _ _ _ _ _ _ _ _ _ _=>rfl);have iP:=xF.df X G xE (fun _ F=>uN (P:=l.prog) (w:=w) (base:=base) T a_ F) (W0 fun _ _ _ _ _ _ _ _ _ _ _ _=>rfl);have gw:=uk.df X G uj (fun _ F=>rT (P:=l.prog) (w:=w) (base:=base) T a_ F) (uE fun _ _ _ _ _ _ _ _=>rfl);have jz:=ZJ.df X G ZN (fun _ F=>xm (P:=l.prog) (w:=w) (base:=base) T F) (AB fun _ _ _ _ _ _ _ _ _=>rfl);have jA:=ZW.df X G ZU (fun _ F=>xn (P:=l.prog) (w:=w) (base:=base) T a_ jx jy iP gw jz F) (uE fun _ _ _ _ _ _ _ _=>rfl);have bL:=ZY.df X G ZK (fun _ F=>xo (P:=l.prog) (w:=w) (base:=base) T F) (Sh fun _ _ _ _ _ _ _ _ _ _=>rfl);have ed:=xH.df X G xG (fun _ F=>uO (P:=l.prog) (w:=w) (base:=base) T bL F) (uE fun _ _ _ _ _ _ _ _=>rfl);have gy:=xJ.df X G xI (fun _ F=>uP (P:=l.prog) (w:=w) (base:=base) T bG F) (C9 fun _ _ _ _ _ _ _=>rfl);have iS:=xM.df X G xK (fun _ F=>uQ (P:=l.prog) (w:=w) (base:=base) T o_ F) (C9 fun _ _ _ _ _ _ _=>rfl);have gB:=xO.df X G xN (fun _ F=>uR (P:=l.prog) (w:=w) (base:=base) T F) (uE fun _ _ _ _ _ _ _ _=>rfl);have kN:=AV.df X G AU (fun _ F=>y6 (P:=l.prog) (w:=w) (base:=base) T bG F) (uE fun _ _ _ _ _ _ _ _=>rfl);have jB:=ZR.df X G ZT (fun _ F=>xp (P:=l.prog) (w:=w) (base:=base) T bL F) (C9 fun _ _ _ _ _ _ _=>rfl);have gA:=uq.df X G uo (fun _ F=>rV (P:=l.prog) (w:=w) (base:=base) T Fc bG gy F) (C9 fun _ _ _ _ _ _ _=>rfl);have dC:=va.df X G u_ (fun _ F=>t6 (P:=l.prog) (w:=w) (base:=base) T bL F) (uE fun _ _ _ _ _ _ _ _=>rfl);have iR:=xQ.df X G xP (fun _ F=>uS (P:=l.prog) (w:=w) (base:=base) T bL F) (uE fun _ _ _ _ _ _ _ _=>rfl);have hZ:=ve.df X G vc (fun _ F=>t8 (P:=l.prog) (w:=w) (base:=base) T Fc gA dC ed iR F) (uE fun _ _ _ _ _ _ _ _=>rfl);have gC:=xS.df X G xR (fun _ F=>uT (P:=l.prog) (w:=w) (base:=base) T Fc dC ed hZ kN mz HS HU HV HW HX F) (uE fun _ _ _ _ _ _ _ _=>rfl);exact LK T Fc a_ jA jB iS kf gB gC (D_ (st:=tT) l9 c9 k9)
theorem walk{l:W.OpenLaw}{q:Program}{loose:List Str}{XP:(Str→Option Value)→Heap→Prop}{YP:World→Heap→Prop}{d:DefRec}{K:Params→W.Frag}(hn:l.most=some 63)(Nr:d.params.defaults=[])
  (hY:∀(w:World)(h:Heap),YP w h→(K w.params).In h)
  (F:∀(w:World)(mg:Str→Option Value)(fa:Addr)(h:Heap),(K w.params).In h→h.Ns mainGlobals mg→mg d.name=some (.ref fa)→
   ∃fd:FuncData,(∀(s:Shared)(u:Value),BindsTo s fd ⟨[u],[]⟩ [("_law_script",u)])∧∀base:Heap,(K w.params).In base→base.Ns mainGlobals mg→a7 l.prog w (K w.params) mg base (cW l.prog w) true 10 fa fd ["_law_script"] (Bl (K w.params))):
  W.WalkO q loose XP YP l.row.toRowW d [] (fun f vs=>PySem.call f vs):=
 L2.GD (n:=63) (k:=10) (x:="_law_script") (CX:=fun w=>cW l.prog w) (sp:=fun w=>Bl (K w.params)) hn (Zy) Nr ⟨(fun _=>rfl),Zy,Zy⟩ hY F (fun _ _ a ns hl _ hS=>⟨a,ns,rfl,hS,hl,fun _=>rfl⟩) fun _ _ _ _ _ z=>by obtain⟨_,_,_,_,_,_,_,_,_,_,_,_,_,z⟩:=z;exact z
end Si
open PySem PySem.W PyProof.Rows
set_option maxRecDepth 100000 in
set_option maxHeartbeats 0 in
theorem PySem.Challenge.cw_quotefind_k15_findings_walked_holds : PySem.Challenge.rw_quotefind_k15_findings_walked.Holds := by
 w_on;refine holds_law HD.ws fun said=>?_;k_head
 (case hw=>w_witness2)
 refine Si.walk (l:=PySem.Challenge.rw_quotefind_k15_findings_walked) rfl rfl (fun w h Y=>PySem.W.kIn_of Y) ?F
 case F=>
  intro w mg fa h KX G Nt
  refine' Si.all_mk KX G Nt ?_ ?_ ?_ ?_ ?_ ?_ ?_ ?_ ?_ ?_ ?_ ?_ ?_ ?_ ?_ ?_ ?_ ?_ ?_ ?_ ?_ ?_ ?_ ?_ ?_ ?_ ?_ ?_ ?_ ?_ ?_ ?_ ?_ ?_ ?_ ?_ ?_ ?_ ?_ ?_ ?_ ?_ ?_ ?_ ?_ ?_ ?_ ?_ ?_ ?_ ?_ ?_ ?_ ?_ ?_ ?_ ?_ ?_ ?_ ?_ ?_ ?_ ?_ ?_ ?_ ?_ ?_ ?_ ?_ ?_ ?_ ?_ ?_ ?_ ?_ ?_ ?_ ?_ ?_ ?_ ?_ ?_ ?_ ?_ ?_ ?_ ?_ ?_ ?_ ?_ ?_ ?_ ?_ ?_ ?_ ?_ ?_ ?_ ?_ ?_ ?_ ?_ ?_ ?_ ?_ ?_ ?_ ?_ ?_ ?_ ?_ ?_ ?_ ?_ ?_ ?_ ?_ ?_ ?_ ?_ ?_ ?_ ?_ ?_ ?_ ?_ ?_ ?_ ?_ ?_ ?_ ?_ ?_ ?_ ?_ ?_ ?_ ?_ ?_ ?_ ?_ ?_ ?_ ?_ ?_ ?_ ?_ ?_ ?_ ?_ ?_ ?_ ?_ ?_ ?_ ?_ ?_ ?_ ?_ ?_ ?_ ?_
  all_goals first|k_is|(show(_:Prop);constructor<;>first|(show _=_;k_is)|k_exc|(constructor<;>(show _=_;k_is)))|skip
#print axioms PySem.Challenge.cw_quotefind_k15_findings_walked_holds
