import PyProof.Rows.All
import Wide.All
import OpenK.AllK
import Wide.FinOn
import Lean
import PyProof.EqAt
import PyProof.EqKinds
import PyProof.TupleCall
import PySem.Challenge.RW_quotefind_k26_many_times
set_option Elab.async false
set_option linter.all false
set_option maxRecDepth 100000
set_option hygiene false in
local macro_rules
|`(tactic|o_head $H)=>`(tactic|refine holds_open (q:=HD.q HD.pw) (loose:=HD.loose) (Xt:=HD.Xt HD.pw []) (XP:=XL (HD.q HD.pw) []) (Yf:=Hook.obs $H) (Ya:=Hook.val $H) (YP:=Hook.says $H) (d:=HD.d) (kwd:=[]) (N:=HD.JS) (HD.left HD.pw HD.We $H fun w os=>by kernel_rfl) (Hook.of $H) (Hook.keeps $H) (fun s e=>xl_of s (Bool.and_eq_true_iff.mp e).1) XL.keeps (by kernel_rfl) (by kernel_rfl) (by kernel_rfl) (fun s e=>recFacts_of (Bool.and_eq_true_iff.mp e).2) (by rfl) (by assumption) (by decide+kernel) ⟨rfl,rfl,rfl,rfl,rfl,by decide+kernel⟩ ?hw ?hc)
|`(ZH $a $b $c)=>`(@aH _ _ $a _ _ _ _ $b (by exact rfl) (Or.inl rfl) $c (by rfl) (by exact .inl rfl))
|`(ZI $a $b)=>`(@aJ _ _ $a _ $b (by exact rfl) (Or.inl rfl) (by first|exact .inl rfl|exact .inr rfl|assumption))
|`(ZJ $a)=>`(@ak _ _ _ _ _ $a ai (by rfl))
|`(ZK $a $b $c)=>`(@aN _ _ _ _ _ _ _ _ _ _ _ _ $a (hr.mono (by decide)) $b $c (by rfl) (by decide) (by rfl) (by rfl))
|`(ZL $a $b)=>`(@aB _ _ _ _ _ _ _ (aq K) $a $b (fun _ _=>rfl))
|`(ZM $a $b $c)=>`(@aO _ _ _ _ _ _ _ _ _ $a (by exact rfl) $b PyProof.Rows.Boot.«len» $c (by decide) (by decide) (by rfl) (by rfl))
|`(ZN $a $b)=>`(@ak _ _ _ _ _ $a $b (by rfl))
|`(ZO $a)=>`(List.getElem?_eq_some_iff.mp $a)
|`(ZP $a)=>`(@aD _ $a _ _ _ _ (pv 0) (by rfl) (by rfl))
|`(ZQ $a $b $c)=>`(@aG _ _ _ _ _ _ _ _ $a $b $c)
|`(ZR $a $b $c $d $e $f)=>`(@e6 _ $a _ _ _ _ _ _ _ _ _ _ _ PySem.F.plainAttrs_list $b $c $d $e $f (by rfl) (by rfl) (by rfl) (by rfl) (by rfl) (by rfl))
|`(ZS $a $b)=>`(@aN _ _ _ _ _ _ _ _ _ _ _ _ $a (hr.mono (by decide)) $b (@ak _ _ _ _ _ (pv 0) (@ak _ _ _ _ _ af ai (by rfl)) (by rfl)) (by rfl) (by decide) (by rfl) (by rfl))
|`(ZT $a $b $c $d)=>`(@bO _ _ _ _ _ _ _ _ _ _ _ _ _ _ _ _ $a $b (hr.mono (by decide)) $c $d (by rfl) (by rfl) (by rfl))
|`(ZU $a $b $c $d)=>`(@bJ _ _ _ _ _ _ _ _ $a (by exact rfl) $b $c $d (by intro _;rfl))
|`(ZV $a $b)=>`(@av _ _ _ _ _ $a $b)
|`(ZW $a)=>`(@eG _ _ _ _ _ _ $a (by first|exact br _ (by decide) (by decide)|rfl))
|`(ZX $a)=>`(@ao _ _ _ $a)
|`(ZY $a $b $c $d)=>`(@aO _ _ _ _ _ _ _ _ _ $a (by exact rfl) $b $c $d (by decide) (by decide) (by rfl) (by rfl))
|`(ZZ $a $b)=>`(@aG _ _ _ _ _ _ _ _ $a (@aB _ _ _ _ _ _ _ (aq K) (pv 2) af (fun _ _=>rfl)) $b)
|`(Z0 $a)=>`(List.mem_of_getElem? $a)
|`(Z1 $a $b)=>`(@aC _ _ _ _ _ $a $b)
|`(Z2 $a $b)=>`(@a_ _ _ _ _ _ _ _ _ $a (@ao _ _ _ (@aM _ _ _ _ dW)) $b)
|`(Z5 $a)=>`(if_neg $a)
|`(Z6 $a)=>`(Heap.get?_push_of_some _ $a)
|`(Z7 $a)=>`(if_pos $a)
|`(Z9 $a $b $c $d)=>`(@aS _ _ _ _ _ _ _ _ $a $b $c $d)
|`(Z_ $a $b $c)=>`(@cq _ $a _ _ _ _ _ _ _ $b $c (by rfl) (by rfl))
|`(Z' $a)=>`(Option.some.inj $a)
|`(δ $a $b $c)=>`(@aB _ _ _ _ _ _ _ $a $b $c (fun _ _=>rfl))
|`(υ $a)=>`(@ak _ _ _ _ _ $a (@ak _ _ _ _ _ af ai (by rfl)) (by rfl))
|`(Θ $a)=>`(@aM _ _ _ _ $a)
|`(Χ $a)=>`(@bZ _ _ _ $a (by intro _;rfl))
|`(Υ $a)=>`(List.getElem?_append_left $a)
|`(ξ $a)=>`(@ak _ _ _ _ _ $a (@ak _ _ _ _ _ (pv 3) ai (by rfl)) (by rfl))
|`(Τ $a $b)=>`(@aX _ _ _ _ _ $a $b (by rfl))
|`(ν $a)=>`(s.heap.update $a (Obj.mapSeq fun _=>(#[]:Array Value)))
|`(Ο $a)=>`(@a9 _ _ _ _ $a (by rfl))
|`(Ω $a)=>`(List.getElem?_append_right $a)
|`(Ξ $a $b $c)=>`(@a_ _ _ _ _ _ _ _ _ $a $b $c)
|`(θ $a $b)=>`(@aD _ $a _ _ _ _ $b (by rfl) (by rfl))
|`(WU $a)=>`(arrOf $a)
|`(χ $a $b $c)=>`(@bJ _ _ _ _ _ _ _ _ $a (by exact rfl) (@dN _ _ _ _ _ _ (by exact rfl) T.fC (@ak _ _ _ _ _ (@aO _ _ _ _ _ _ _ _ _ (aK K) (by exact rfl) T.c_ PyProof.Rows.Boot.«len» (@ak _ _ _ _ _ (pv 1) ai (by rfl)) (by decide) (by decide) (by rfl) (by rfl)) ai (by rfl)) (by rfl)) $b $c (by intro _;rfl))
|`(γ $a)=>`(List.mem_append_right _ $a)
|`(Ε $a)=>`(wpAny_pure $a)
|`(Ψ $a $b)=>`(@ba _ $a _ _ _ $b (by rfl))
|`(Δ $a)=>`(pendingOf $a)
|`(Ζ $a)=>`(wpAny_bind $a)
|`(ε $a)=>`(List.mem_cons_of_mem _ $a)
|`(ρ $a $b $c)=>`(@iH _ _ _ _ _ _ $a (@aD _ K _ _ _ _ (pv 0) (by rfl) (by rfl)) $b $c)
|`(μ $a $b $c $d)=>`(@fB _ $a _ _ _ $b _ $c $d (by rfl) (by rfl) (by rfl))
|`(Κ $a)=>`(Heap.lt_size $a)
|`(ω $a $b)=>`(@dN _ _ _ _ _ _ $a $b (@ak _ _ _ _ _ (@aO _ _ _ _ _ _ _ _ _ (aK K) (by exact rfl) T.c_ PyProof.Rows.Boot.«len» (@ak _ _ _ _ _ (pv 1) ai (by rfl)) (by decide) (by decide) (by rfl) (by rfl)) ai (by rfl)) (by rfl))
|`(ς $a $b $c $d $e)=>`(@fZ _ _ _ _ _ _ _ _ _ $a $b $c $d $e (by decide) (by decide) (by rfl) (by rfl))
|`(ι $a)=>`(List.getElem?_eq_getElem $a)
|`(Zn $a $b)=>`(absurd $a $b)
|`(Zo $a)=>`(au $a rfl)
|`(Ι $a)=>`(List.range $a)
|`(η $a $b)=>`(@pw_or _ _ _ _ _ _ _ $a $b)
|`(ο $a)=>`(@fO _ _ _ _ $a (by rfl) (by decide))
set_option hygiene false in
local macro_rules
|`(UQ)=>`((by lia))
|`(ZA)=>`((by simp))
|`(Η)=>`((fun vs H Q E h=>?_))
|`(τ)=>`((@jq _ _ (.ty "list") _ _ (by exact rfl) T.jT PyProof.Rows.Boot.«list» (by exact rfl) (by decide) (by decide)))
|`(Λ)=>`((Nat.le_refl _))
|`(Γ)=>`((pv 0))
|`(Ρ)=>`((by exact rfl))
|`(Ν)=>`((ZL (pv 0) af))
|`(ζ)=>`((bK I q (by simp)))
|`(Β)=>`((pv 1))
|`(Μ)=>`(by omega)
|`(ZD)=>`(by decide)
|`(Α)=>`(by rfl)
|`(ZF)=>`(by simp)
set_option maxHeartbeats 4000000
namespace HD
open PySem PySem.W PyProof.Rows
noncomputable section
noncomputable abbrev pw:Program:=PySem.Challenge.pw_quotefind_k26_many_times
noncomputable abbrev pq:Program:=pw
theorem We:pw=pq:=rfl
def z0:Str:=⟨⟨[60,109,111,100,117,108,101,62]⟩⟩
def z1:Str:=⟨⟨[95,95,109,97,105,110,95,95]⟩⟩
def Ut:Str:=⟨⟨[47,99,108,97,105,109,47,99,117,116,46,112,121]⟩⟩
noncomputable abbrev y0:String:=PySem.W.SL.s658472552662922059x5
noncomputable abbrev Wf:String:=PySem.W.SL.s5856160107412720595x4
noncomputable abbrev R(a:Addr):Value:= .ref a
noncomputable abbrev I(i:Int):Value:= .int i 0
noncomputable abbrev N:Value:= .none
noncomputable abbrev U(v:Value):Option Value:=some v
noncomputable abbrev B:=BT.node
noncomputable abbrev L:=BT.nil
noncomputable abbrev tu(l:List Value):Obj:=⟨.type "tuple",none, .seq ⟨l⟩ 0,⟨[]⟩⟩
noncomputable abbrev fi(l:List Value):Obj:=⟨.none,none, .fields ⟨l⟩,⟨[]⟩⟩
noncomputable abbrev cd(n:Str)(t:Nat)(l a f:Int)(r8:Addr)(b:Bool)(Wg:Addr)(Wh Wi Wj:Value)(t3:Int)(t4:Nat):Obj:=⟨.type Wf,none, .fields ⟨[.str n t, .str n (t+1), .str Ut (t+2),I l,I a,I 0,I 0,I f,R r8, .bool b,I 181,R Wg,N,Wh,Wi,Wj,I t3,I l, .str Ut t4]⟩,⟨[]⟩⟩
noncomputable def tp(p:Program)(i:Nat):Stmt:=p.main.body.getD i (.Pass ⟨0,0,0,0⟩)
noncomputable def b0(_:Program)(P:Params):Obj:=PySem.W.boot_o_0 P
noncomputable def b1(_:Program)(P:Params):Obj:=PySem.W.boot_o_1 P
noncomputable def b2(_:Program)(P:Params):Obj:=PySem.W.boot_o_2 P
noncomputable def b3(_:Program)(P:Params):Obj:=PySem.W.boot_o_3 P
noncomputable def b4(_:Program)(P:Params):Obj:=PySem.W.boot_o_4 P
noncomputable def b5(_:Program)(P:Params):Obj:=PySem.W.boot_o_5 P
noncomputable def b6(_:Program)(P:Params):Obj:=PySem.W.boot_o_6 P
noncomputable def b7(_:Program)(P:Params):Obj:=PySem.W.boot_o_7 P
noncomputable def b8(_:Program)(P:Params):Obj:=PySem.W.boot_o_8 P
noncomputable def b9(_:Program)(P:Params):Obj:=PySem.W.boot_o_9 P
noncomputable def Uu(_:Program)(P:Params):Obj:=PySem.W.boot_o_10 P
noncomputable def Uv(p:Program)(P:Params):Obj:=tu []
noncomputable def Uw(p:Program)(P:Params):Obj:=fi []
noncomputable def Ux(p:Program)(P:Params):Obj:=cd z0 182 1 0 0 11 false 12 N N N 185 186
noncomputable def Uy(p:Program)(P:Params):Obj:=⟨(.type y0),none,.plain,⟨[U (R 13),U (R 3),U (R 3),none,U (.str z1 164),none,U (R 0)]⟩⟩
noncomputable def La(p:Program)(P:Params):List Obj:=[b0 p P,b1 p P,b2 p P,b3 p P,b4 p P,b5 p P,b6 p P,b7 p P,b8 p P,b9 p P,Uu p P,Uv p P,Uw p P,Ux p P,Uy p P]
noncomputable def Ta(p:Program)(P:Params):BT:=(B (b0 p P) (B (b1 p P) (B (b3 p P) (B (b7 p P) L L) (B (Uv p P) L L)) (B (b5 p P) (B (b9 p P) L L) (B (Ux p P) L L))) (B (b2 p P) (B (b4 p P) (B (b8 p P) L L) (B (Uw p P) L L)) (B (b6 p P) (B (Uu p P) L L) (B (Uy p P) L L))))
noncomputable def keep:List Nat:=[0,2,3,4,5,7,8,9,11,12,13,14,16,17,19,20,21,22,23,24,25,27,28,29,31,32,33,34,35,36,37,38,40,41,42,43,44,45,46,47,48,49,50,51,52,53,54,55,56,57,58,59]
noncomputable def loose:List Str:=[]
noncomputable def env(p:Program):Env:={scope:=p.main.scope,locals:=mainNs,globals:=mainNs,cells:=[],code:=(R 13),frame:=some 14}
noncomputable def cE(p:Program):Code:= .body (behindTheImports p) (env p)
noncomputable def qP:Pos:=⟨0,0,0,0⟩
noncomputable def pP:Pos:=⟨0,0,0,0⟩
noncomputable def bP:Pos:=⟨0,0,0,0⟩
noncomputable def fP:Pos:=⟨425,0,442,47⟩
noncomputable def an:Option Value:=(some (R 6))
noncomputable abbrev MZ:Nat:=59
noncomputable abbrev m0:Nat:=11
noncomputable abbrev M0:Nat:=12
noncomputable abbrev M4:Nat:=1
noncomputable abbrev JQ:Nat:=3768
noncomputable abbrev JR:Nat:=2
noncomputable abbrev JS:Nat:=8260
noncomputable abbrev nA:Nat:=15
noncomputable abbrev Wl:Nat:=187
noncomputable abbrev Wm:Nat:=187
end
end HD
namespace HD
open PySem PySem.W PyProof.Rows
noncomputable section
abbrev S0(w:World)(os:OsState):Shared:=⟨boot_heap w.params,⟨[]⟩,boot_drawn,boot_toks,os⟩
abbrev Sa(p:Program)(w:World)(os:OsState):Shared:=⟨⟨⟨La p w.params⟩,{}⟩,⟨[]⟩,{},Wl,os⟩
abbrev Sb(p:Program)(w:World)(os:OsState):SharedT:=⟨Ta p w.params,nA,{},⟨[]⟩,{},Wm,os⟩
abbrev q(p:Program):Program:=view p keep
abbrev Xt(p:Program)(R:WRecords):Shared→Bool:=fun s=>xlAt (q p) [] s&&recOk R s
theorem M5(w:World)(os:OsState):topGo treeTable pq w m0 an M0 (S0 w os) (topStub pq)=some (Sa pq w os,⟨denote treeTable (cE pq),cE pq,pP,[topFrame qP]⟩):=by
 rewrite[Fast.te15667345088766844465,Fast.te14364793385576792824,Fast.te11892475500146522536];kernel_rfl
theorem M6(w:World)(os:OsState):segRun treeTable pq w m0 an 1 M4 (Sa pq w os) (blockOf (behindTheImports pq) (env pq) (cE pq) pP [topFrame qP])=some (.next,(Sb pq w os).abs,cE pq,bP):=by
 rewrite[Fast.te14374325043358763698,Fast.te14364793385576792824];kernel_rfl
def Rm(w:World)(os:OsState):=Fast.tw10110043849684766642 Fast.tw14364793385576792824 pq w m0 an 1 JQ (Sb pq w os) (piecesOf (behindTheImports pq) (env pq) (cE pq) bP [topFrame qP])
def Sm(w:World)(os:OsState):SharedT:=match Rm w os with|some (_,s,_,_)=>s|none=>Sb pq w os
theorem M7(w:World)(os:OsState):segRunT treeTable pq w m0 an 1 JQ (Sb pq w os) (piecesOf (behindTheImports pq) (env pq) (cE pq) bP [topFrame qP])=some (.next,Sm w os,cE pq,fP):=by
 rewrite[Fast.te10110043849684766642,Fast.te14364793385576792824];kernel_rfl
def Rf(w:World)(os:OsState):=Fast.tw14082659384304107361 Fast.tw14364793385576792824 pq w m0 an JR (Sm w os).abs ⟨doneF .next,cE pq,fP,[topFrame qP]⟩
def Sf(w:World)(os:OsState):Shared:=match Rf w os with|some s=>s|none=>S0 w os
theorem M8(w:World)(os:OsState):topRun treeTable pq w m0 an JR (Sm w os).abs ⟨doneF .next,cE pq,fP,[topFrame qP]⟩=some (Sf w os):=by
 rewrite[Fast.te14082659384304107361,Fast.te14364793385576792824];kernel_rfl
theorem JT(w:World):((boot_heap w.params).isNs mainGlobals&&(⟨[]⟩:Array GenState).size==0,(boot_heap w.params).objs.size,(boot_heap w.params).nsMap mainGlobals "__annotations__")=(true,m0,an):=by
 rewrite[Fast.te8920871248978507458];kernel_rfl
theorem JU:∀w:World,(fencedOpening treeTable pq w JS).map (fun s=>(s.heap,s.gens,s.drawn,s.toks))=some (boot_heap w.params,⟨[]⟩,boot_drawn,boot_toks):=
 boot_open (by kernel_rfl) (by kernel_rfl) (fun s=>by kernel_rfl)
theorem M9(w:World)(os:OsState):topRun treeTable pq w m0 an (M0+(M4+(JQ+JR))) (S0 w os) (topStub pq)=some (Sf w os):=by
 refine go_top (M5 w os) (piece_block (M6 w os) ?_);have h:=piece_app (rest:=[]) (segRun_of (M7 w os)) (piece_nil (env:=env pq) (M8 w os));rw[List.append_nil]at h;exact h
theorem DW(w:World)(os:OsState):
 (staticsOk (importedModules pq.main.body) (boot_heap w.params) (Sf w os).heap&&namesBound pq (Sf w os).heap&&gensDone (Sf w os)&&laidKept (boot_heap w.params) (Sf w os).heap)=true
 ∧seen ((recsOf (q pq)).map (·.name)) (ownsOf (q pq)) [] {Sf w os with gens:=#[]}=expectedOf (q pq)
 ∧(Sf w os).heap.bltView=bltViewBooted:=by
 refine⟨?_,?_,?_⟩
 ·rewrite[Fast.te5923862056798008813];kernel_rfl
 ·rewrite[Fast.te5160383126252970620,Fast.te3399658132070893891,Fast.te5991557255702980513];kernel_rfl
 ·kernel_rfl
theorem JV(w:World)(os:OsState):
 ((Sf w os).heap.keysOk (looseW (q pq) loose) ((recsOf (q pq)).map (·.name)) ((litsOf (q pq)).map (·.1)) ((clssOf (q pq) (looseW (q pq) loose)).map (·.name))&&(Sf w os).heap.accountedOkI (importedModules pq.main.body)&&(Sf w os).heap.isNs mainGlobals&&(Sf w os).heap.isNs builtinsNs&&tablesOk (q pq) (Sf w os).heap&&Xt pq [] (Sf w os)&&(if true then(Sf w os).gens.size==0 else !leftWithCleanup (Sf w os).gens))=true:=by
 rewrite[Fast.te10880121769531294198,Fast.te821141287760084731,Fast.te3399658132070893891,Fast.te7409074990110511671,Fast.te13664370479719496447,Fast.te14722251495701143533,Fast.te5923862056798008813,Fast.te10994771534591457954];kernel_rfl
theorem JW(w:World)(os:OsState):
 tabsOk (q pq) (Sf w os)=true
 ∧pinSeenD (q pq) (drecsOf (q pq)) (Sf w os)=pinGoodD (drecsOf (q pq))
 ∧plainSeenE (q pq) (looseW (q pq) loose) (Sf w os)=plainGoodE (q pq) (looseW (q pq) loose)
 ∧plainSeenD (q pq) loose (Sf w os)=plainGoodD (q pq) loose
 ∧wideSeen (q pq) (Sf w os)=wideGood (q pq)
 ∧clsSeenW (q pq) loose (Sf w os)=clsGoodW (q pq) loose:=by
 refine⟨?_,?_,?_,?_,?_,?_⟩
 ·rewrite[Fast.te479339242167458305];kernel_rfl
 ·rewrite[Fast.te16090120013241838585,Fast.te3247288618530077131];kernel_rfl
 ·rewrite[Fast.te2386780881361962483,Fast.te821141287760084731];kernel_rfl
 ·rewrite[Fast.te11698064438423848299];kernel_rfl
 ·rewrite[Fast.te7317090234206586261];kernel_rfl
 ·rewrite[Fast.te7369524293546568484];kernel_rfl
theorem lx{p q:Program}{lo:List Str}{Xt:Shared→Bool}{α:Type}{Yf:Shared→α}{a:α}{w:World}{N M n:Nat}{h:Heap}{gs:Array GenState}{dr:Drawn}{k:Nat}{an:Option Value}{g:OsState→Shared}
  (o:(fencedOpening treeTable p w N).map (fun s=>(s.heap,s.gens,s.drawn,s.toks))=some (h,gs,dr,k)) (z:(h.isNs mainGlobals&&gs.size==0,h.objs.size,h.nsMap mainGlobals "__annotations__")=(true,n,an))
  (r:∀os,topRun treeTable p w n an M ⟨h,gs,dr,k,os⟩ (topStub p)=some (g os)) (le:M≤N) (x1:∀os,(staticsOk (importedModules p.main.body) h (g os).heap&&namesBound p (g os).heap&&gensDone (g os)&&laidKept h (g os).heap)=true)
  (x2:∀os,openSeen q lo (importedModules p.main.body) Xt true (g os)=openGood q lo) (x3:∀os,Yf (g os)=a):(openEnds treeTable p w N).map (fun s=>(openSeen q lo (importedModules p.main.body) Xt true s,Yf s))=some (openGood q lo,a):=by
 obtain⟨⟨h,gs,dr,k,os⟩,e1,e2⟩:=Option.map_eq_some_iff.mp o;cases e2;obtain⟨y1,y2⟩:=Prod.mk.inj z;obtain⟨y2,y3⟩:=Prod.mk.inj y2;have t:=topRun_mono (N-M) _ _ _ _ (r os);rw[Nat.add_sub_cancel' le]at t;have f:topFrom treeTable p w N ⟨h,gs,dr,k,os⟩=some (g os):=by
  unfold topFrom;dsimp only;rw[y1,y2,y3,t];show(match staticsOk _ h (g os).heap&&namesBound p (g os).heap&&gensDone (g os)&&laidKept h (g os).heap with|true=>_|false=>_)=_;rw[x1 os]
 unfold openEnds;rw[e1,Option.bind_some,f];exact congrArg some (Prod.ext (x2 os) (x3 os))
theorem left(p:Program)(e:p=pq)(H:Hook)(hk:∀w os,H.obs (Sf w os)=H.val w):LeftO p (q p) loose (Xt p []) H.obs H.val JS:=by
 subst e;intro w;exact lx (g:=Sf w) (JU w) (JT w) (M9 w) (ZD) (fun os=>(DW w os).1) (fun os=>let ⟨_,x2,x3⟩:=DW w os;let ⟨x5,x6,x7,x8,x9,x0⟩:=JW w os;looks_pair x2 (looks_pair x3 (looks_pair (JV w os) (looks_pair x5 (looks_pair x6 (looks_pair x7 (looks_pair x8 (looks_pair x9 x0)))))))) (hk w)
def d:DefRec:=match tp pw MZ with
 | .FunctionDef n a b _ _ _ sc _ _ ps=>⟨n,a,b,sc,ps⟩
 | _=>⟨Str.empty,default,[],default,default⟩
end
end HD
namespace HD
theorem ws:PySem.W.OpenLaw.wellSaid PySem.Challenge.rw_quotefind_k26_many_times=true:=by
 rewrite[PySem.W.Fast.te9446332074065402090];kernel_rfl
end HD
namespace L2
open PySem PySem.Spec PyProof.Rows
abbrev Key:=Sum Int Str
def vi:Key→Value→Bool
 | .inl k,v=>Value.isInt k v
 | .inr x,v=>Value.isStrOf x v
def QW(w:World):Key→Int
 | .inl k=>hashInt k
 | .inr x=>hashStr w x
theorem cY:∀{k:Key}{v:Value},vi k v=true→(∃i t,k=Sum.inl i∧v=Value.int i t)∨(∃x t,k=Sum.inr x∧v=Value.str x t)
 | .inl i,v,h=>by
  obtain⟨t,e⟩:=Value.isInt_shape (k:=i) (v:=v) h;exact .inl ⟨i,t,rfl,e⟩
 | .inr x,v,h=>by
  obtain⟨t,e⟩:=Value.isStrOf_shape (x:=x) (v:=v) h;exact .inr ⟨x,t,rfl,e⟩
theorem B_(i:Int)(t:Tok):vi (.inl i) (.int i t)=true:=by simp[vi,Value.isInt]
theorem Ca(x:Str)(t:Tok):vi (.inr x) (.str x t)=true:=by simp[vi,Value.isStrOf]
theorem JX(a b:Int):decide ((Sum.inl a:Key)=Sum.inl b)=(a==b):=by
 by_cases e:a=b
 ·subst e;simp
 ·have h:¬(Sum.inl a:Key)=Sum.inl b:=fun q=>e (Sum.inl.inj q)
  rw[decide_eq_false h];exact(beq_eq_false_iff_ne.mpr e).symm
theorem JY(a b:Str):decide ((Sum.inr a:Key)=Sum.inr b)=decide (a=b):=by
 by_cases e:a=b
 ·subst e;simp
 ·have h:¬(Sum.inr a:Key)=Sum.inr b:=fun q=>e (Sum.inr.inj q)
  rw[decide_eq_false h,decide_eq_false e]
theorem JZ(a:Int)(b:Str):decide ((Sum.inl a:Key)=Sum.inr b)=false:=decide_eq_false (fun q=>nomatch q)
theorem J0(a:Str)(b:Int):decide ((Sum.inr a:Key)=Sum.inl b)=false:=decide_eq_false (fun q=>nomatch q)
def cZ(prog:Program)(w:World):PySem.KeyKind prog w Key where
 is:=vi
 hash:=QW w
 inj:=fun v a b ha hb=>by
  rcases cY ha with⟨i,t,rfl,rfl⟩|⟨x,t,rfl,rfl⟩
  ·rcases cY hb with⟨j,u,rfl,e⟩|⟨y,u,rfl,e⟩
   ·injection e with e1 _;rw[e1]
   ·exact nomatch e
  ·rcases cY hb with⟨j,u,rfl,e⟩|⟨y,u,rfl,e⟩
   ·exact nomatch e
   ·injection e with e1 _;rw[e1]
 byValue:=fun k v h=>by
  rcases cY h with⟨i,t,rfl,rfl⟩|⟨x,t,rfl,rfl⟩<;>rfl
 pyHash:=fun hv h=>by
  rcases cY hv with⟨i,t,rfl,rfl⟩|⟨x,t,rfl,rfl⟩
  ·exact wpAny_pyHash_int h
  ·exact wpAny_pyHash_str h
 eqBool:=fun hu hv h=>by
  rcases cY hu with⟨i,t,rfl,rfl⟩|⟨x,t,rfl,rfl⟩
  ·rcases cY hv with⟨j,u,rfl,rfl⟩|⟨y,u,rfl,rfl⟩
   ·rw[JX]at h;exact wpAny_eqBool_int h
   ·rw[JZ]at h;exact SeqAt.EqAt.int_str i t y u _ _ _ _ h
  ·rcases cY hv with⟨j,u,rfl,rfl⟩|⟨y,u,rfl,rfl⟩
   ·rw[J0]at h;exact SeqAt.EqAt.str_int x t j u _ _ _ _ h
   ·rw[JY]at h;exact wpAny_eqBool_str h
 «strs»:=fun k x t v h=>by
  rcases cY h with⟨i,u,rfl,e⟩|⟨y,u,rfl,e⟩
  ·exact nomatch e
  ·injection e with e1 _;subst e1;cases v<;>rfl
theorem yl(prog:Program)(w:World)(i:Int)(t:Tok):(cZ prog w).is (.inl i) (.int i t)=true:=B_ i t
theorem ym(prog:Program)(w:World)(x:Str)(t:Tok):(cZ prog w).is (.inr x) (.str x t)=true:=Ca x t
inductive V where
 |cR|bl (b:Bool)|int (i:Int)|str (x:Str)|Cb (b:Array UInt8)|II (b:UInt64)|ref (a:Addr)|ty (n:String)
 deriving DecidableEq
def RelV:V→Value→Prop
 | .cR,u=>u=Value.none
 | .bl b,u=>u=Value.bool b
 | .int i,u=>∃t,u=Value.int i t
 | .str x,u=>∃t,u=Value.str x t
 | .Cb b,u=>∃t,u=Value.bytes b t
 | .II b,u=>∃t,u=Value.float b t
 | .ref a,u=>u=Value.ref a
 | .ty n,u=>u=Value.type n
abbrev Vals:List V→List Value→Prop:=Paired RelV
theorem Vals.length{xs:List V}{us:List Value}(r:Vals xs us):xs.length=us.length:=Paired.length r
theorem Vals.get:∀{xs:List V}{us:List Value}{i:Nat}{x:V},Vals xs us→xs[i]?=some x→∃u,us[i]?=some u∧RelV x u
 | _,_,_,_, .nil,e=>by simp at e
 | _,_,0,_, .cons r _,e=>by simp at e;subst e;exact⟨_,rfl,r⟩
 | _,_,i+1,x, .cons _ t,e=>by
  obtain⟨u,h1,h2⟩:=Vals.get (i:=i) (x:=x) t (by simpa using e);exact⟨u,by simpa using h1,h2⟩
theorem Vals.set{x:V}{u:Value}(r:RelV x u):∀{xs:List V}{us:List Value}(i:Nat),Vals xs us→Vals (xs.set i x) (us.set i u)
 | _,_,_, .nil=> .nil
 | _,_,0, .cons _ t=> .cons r t
 | _,_,i+1, .cons q t=> .cons q (Vals.set r i t)
theorem Vals.append:∀{xs ys:List V}{us ws:List Value},Vals xs us→Vals ys ws→Vals (xs++ys) (us++ws)
 | _,_,_,_, .nil,s=>s
 | _,_,_,_, .cons r t,s=> .cons r (Vals.append t s)
theorem Vals.take:∀{xs:List V}{us:List Value}(n:Nat),Vals xs us→Vals (xs.take n) (us.take n)
 | _,_,0,_=> .nil
 | _,_,_+1, .nil=> .nil
 | _,_,n+1, .cons r t=> .cons r (Vals.take n t)
theorem Vals.drop:∀{xs:List V}{us:List Value}(n:Nat),Vals xs us→Vals (xs.drop n) (us.drop n)
 | _,_,0,r=>r
 | _,_,_+1, .nil=> .nil
 | _,_,n+1, .cons _ t=>Vals.drop n t
def kx:Option V→Option Value→Prop
 |some v,some u=>RelV v u
 |none,none=>True
 | _,_=>False
def KV{κ:Type}:List (κ×V)→List (κ×Value)→Prop:=Paired fun(p:κ×V)(q:κ×Value)=>p.1=q.1∧RelV p.2 q.2
def kV:Key→V
 | .inl i=> .int i
 | .inr x=> .str x
inductive HO where
 |lst (xs:List V)
 |tup (xs:List V)
 |dK (kvs:List (Key×V))|dT (kvs:List (List Key×V))
 |set (S:Int→Bool) (n:Nat)
 |ins (C dx:Addr) (fs:List (Str×V))
 |own (x:Addr)
 |xd (fs:List (Str×V))
 |met (f x:Addr)
 |Px (lo hi:Int)
 |so (o:Obj) (u:HO)
 |GH (ps:Array Value)
 |ext (φ:Heap→Prop)
abbrev Hp:=Addr→Option HO
def upd(H:Hp)(a:Addr)(o:HO):Hp:=fun b=>if b=a then some o else H b
theorem ae{H:Hp}{a:Addr}{o:HO}:upd H a o a=some o:=by unfold upd;rw[if_pos rfl]
theorem aj{H:Hp}{a b:Addr}{o:HO}(h:b≠a):upd H a o b=H b:=by unfold upd;rw[Z5 h]
theorem gf{H:Hp}{a:Addr}{o u:HO}:upd (upd H a o) a u=upd H a u:=by
 funext b;unfold upd;split<;>rfl
theorem iY{H:Hp}{a b:Addr}{o u:HO}(h:H a=some o)(h':H b=some u)(d:o≠u):a≠b:=by
 intro e;subst e;rw[h]at h';exact d (Z' h')
theorem aE{H:Hp}{a b:Addr}{o:HO}(h:H a=some o)(h':H b=none):a≠b:=by
 intro e;subst e;rw[h]at h';cases h'
section
variable(P:Program)(w:World)
def cS(H:Hp)(h:Heap)(a:Addr):HO→Prop
 | .lst xs=>xs.length≤sizeLine∧∃(its:List Value)(n:Nat),Vals xs its∧h.get? a=some {cls:= .type "list",data:= .seq its.toArray n}
 | .tup xs=>xs.length≤sizeLine∧∃its:List Value,Vals xs its∧IsTup h a its.toArray
 | .dK kvs=>kvs.length≤sizeLine∧(a==sysModules)=false∧∃vs,KV kvs vs∧h.DictOf (cZ P w) a vs
 | .dT kvs=>kvs.length≤sizeLine∧(a==sysModules)=false∧∃xs:List (List Key×Addr×Value),
   Paired (fun(p:List Key×V)(q:List Key×Addr×Value)=>p.1=q.1∧H q.2.1=some (.tup (p.1.map kV))∧RelV p.2 q.2.2) kvs xs∧
   ∃o es ep,h.get? a=some o∧o.ExactDict∧o.data= .dict es ep∧es.toList=xs.map (entryOfKey (tupleKind (cZ P w)))∧(xs.map (·.1)).Nodup
 | .set S n=>h.SetOf (intKind P w) a S n
 | .ins C dx fs=>H dx=some (.own a)∧fs.length≤1000∧dx≠a∧h.get? a=some (PySem.W.instObj C dx)∧
   ∃mA,h.Ns1 dx mA∧(∀f,kx (fs.lookup f) (mA f))∧PySem.Within mA (fs.map (·.1))
 | .own _=>∃o,h.get? a=some o
 | .xd fs=>∃mA,h.Ns1 a mA∧∀f,kx (fs.lookup f) (mA f)
 | .Px lo hi=>∃t u v,h.get? a=some {cls:= .type "range",data:= .fields #[.int lo t, .int hi u, .int 1 v]}
 | .so o u=>h.get? a=some o∧cS H h a u
 | .GH ps=>h.get? a=some {cls:= .none,data:= .fields ps}
 | .met f x=>h.get? a=some (PySem.W.methodObj (.ref f) (.ref x))
 | .ext φ=>φ h∧(∃o,h.get? a=some o)∧∀h1 h2:Heap,φ h1→(∀o,h1.get? a=some o→h2.get? a=some o)→φ h2
def lE(H:Hp)(h:Heap):Prop:=∀a o,H a=some o→cS P w H h a o
end
section
variable{P:Program}{w:World}{H H':Hp}{h h':Heap}{a:Addr}{o:HO}
theorem cS.lt(x:cS P w H h a o):a<h.objs.size:=by
 cases o with
 |lst xs=>obtain⟨_,_,_,_,e⟩:=x;exact Κ e
 |tup xs=>obtain⟨_,_,_,p⟩:=x;exact p.lt
 |dK kvs=>obtain⟨_,_,_,_,o,_,_,e,_⟩:=x;exact Κ e
 |dT kvs=>obtain⟨_,_,_,_,o,_,_,e,_⟩:=x;exact Κ e
 |set S n=>obtain⟨o,_,_,_,e,_⟩:=x;exact Κ e
 |ins C dx fs=>obtain⟨_,_,_,e,_⟩:=x;exact Κ e
 |own y=>obtain⟨_,e⟩:=x;exact Κ e
 |xd fs=>obtain⟨_,⟨_,_,_,e,_⟩,_⟩:=x;exact Κ e
 |Px lo hi=>obtain⟨_,_,_,e⟩:=x;exact Κ e
 |so ob u=>obtain⟨e,_⟩:=x;exact Κ e
 |GH ps=>exact Κ (show h.get? a=some _ from x)
 |met f y=>exact Κ (show h.get? a=some _ from x)
 |ext φ=>obtain⟨_,⟨_,e⟩,_⟩:=x;exact Κ e
theorem Paired.J1{α β:Type}{F G:α→β→Prop}:∀{M_:List α}{Na:List β},Paired F M_ Na→(∀a b,F a b→G a b)→Paired G M_ Na
 | _,_, .nil,_=> .nil
 | _,_, .cons r t,f=> .cons (f _ _ r) (Paired.J1 t f)
theorem cS.v7(x:cS P w H h a o)(k:∀b u,(b=a∨H b=some (.own a))→h.get? b=some u→h'.get? b=some u)
  (ho:∀b,H b=some (.own a)→H' b=some (.own a)) (ht:∀b xs,H b=some (.tup xs)→H' b=some (.tup xs)):cS P w H' h' a o:=by
 induction o with
 |lst xs=>obtain⟨z,its,n,r,e⟩:=x;exact⟨z,its,n,r,k _ _ (.inl rfl) e⟩
 |tup xs=>obtain⟨z,its,r,ob,e,c⟩:=x;exact⟨z,its,r,ob,k _ _ (.inl rfl) e,c⟩
 |dK kvs=>obtain⟨z,y,vs,r,ob,es,ep,e,c⟩:=x;exact⟨z,y,vs,r,ob,es,ep,k _ _ (.inl rfl) e,c⟩
 |dT kvs=>
  obtain⟨z,y,xs,r,ob,es,ep,e,c⟩:=x;exact⟨z,y,xs,Paired.J1 r fun p q z=>⟨z.1,ht _ _ z.2.1,z.2.2⟩,ob,es,ep,k _ _ (.inl rfl) e,c⟩
 |set S n=>obtain⟨ob,es,ep,t,e,c⟩:=x;exact⟨ob,es,ep,t,k _ _ (.inl rfl) e,c⟩
 |ins C dx fs=>
  obtain⟨d,z,ne,e,mA,⟨od,es,ep,e2,c⟩,r⟩:=x;exact⟨ho _ d,z,ne,k _ _ (.inl rfl) e,mA,⟨od,es,ep,k _ _ (.inr d) e2,c⟩,r⟩
 |own y=>obtain⟨ob,e⟩:=x;exact⟨ob,k _ _ (.inl rfl) e⟩
 |xd fs=>obtain⟨mA,⟨od,es,ep,e,c⟩,r⟩:=x;exact⟨mA,⟨od,es,ep,k _ _ (.inl rfl) e,c⟩,r⟩
 |Px lo hi=>obtain⟨t,u,v,e⟩:=x;exact⟨t,u,v,k _ _ (.inl rfl) e⟩
 |so ob u ih=>obtain⟨e,q⟩:=x;exact⟨k _ _ (.inl rfl) e,ih q⟩
 |GH ps=>
  have e:h.get? a=some {cls:= .none,data:= .fields ps}:=x;show h'.get? a=some {cls:= .none,data:= .fields ps};exact k a _ (.inl rfl) e
 |met f y=>
  have e:h.get? a=some (PySem.W.methodObj (.ref f) (.ref y)):=x;show h'.get? a=some (PySem.W.methodObj (.ref f) (.ref y));exact k a _ (.inl rfl) e
 |ext φ=>obtain⟨p,⟨o,e⟩,st⟩:=x;exact⟨st _ _ p fun o q=>k _ _ (.inl rfl) q,⟨o,k _ _ (.inl rfl) e⟩,st⟩
theorem lE.lt(x:lE P w H h)(e:H a=some o):a<h.objs.size:=(x a o e).lt
theorem lE.fresh(x:lE P w H h)(e:h.objs.size≤a):H a=none:=by
 cases q:H a with
 |none=>rfl
 |some u=>exact Zn (Nat.lt_of_lt_of_le (x.lt q) e) (Nat.lt_irrefl _)
theorem lE.kept(x:lE P w H h)(k:∀b u,h.get? b=some u→h'.get? b=some u):lE P w H h':=fun a o e=>
 (x a o e).v7 (fun b u _ q=>k b u q) (fun _ q=>q) fun _ _ q=>q
theorem lE.laid(x:lE P w H h)(k:∀b u,h.get? b=some u→h'.get? b=some u)(hp:h.objs.size≤a)(new:cS P w (upd H a o) h' a o):lE P w (upd H a o) h':=fun b u e=>by
 have hn:=x.fresh hp;by_cases hb:b=a
 ·subst hb;rw[ae]at e;cases e;exact new
 ·rw[aj hb]at e;exact(x b u e).v7 (fun c v _ q=>k c v q) (fun c q=>by rw[aj (aE q hn)];exact q) fun c xs q=>by rw[aj (aE q hn)];exact q
end
def Rd(H:Hp)(a:Addr)(u:HO):Prop:=H a=some u∨∃o,H a=some (.so o u)
theorem Rd.of{H:Hp}{a:Addr}{u:HO}(h:H a=some u):Rd H a u:= .inl h
theorem Rd.ok{P:Program}{w:World}{H:Hp}{h:Heap}{a:Addr}{u:HO}(r:Rd H a u)(x:lE P w H h):cS P w H h a u:=by
 rcases r with r|⟨o,r⟩
 ·exact x a u r
 ·obtain⟨_,q⟩:=x a _ r;exact q
def Nb:Option HO→Prop
 |some (.lst _)=>True
 |some (.dK _)=>True
 |some (.dT _)=>True
 |some (.set _ _)=>True
 |some (.ins _ _ _)=>True
 |some (.ext _)=>True
 | _=>False
section
variable{P:Program}{w:World}{H:Hp}{h h':Heap}{x e:Addr}{o':HO}
theorem lE.write(ok:lE P w H h)(mu:Nb (H x))(he:e=x∨H e=some (.own x))(k:∀b u,b≠e→h.get? b=some u→h'.get? b=some u)(Mj:∃u,h'.get? e=some u)
  (new:cS P w (upd H x o') h' x o'):lE P w (upd H x o') h':=fun b u q=>by
 have Nc:∀c y,H c=some (.own y)→c≠x:=fun c y r z=>by subst z;rw[r]at mu;exact mu
 have QX:∀c xs,H c=some (.tup xs)→c≠x:=fun c xs r z=>by subst z;rw[r]at mu;exact mu
 by_cases hb:b=x
 ·subst hb;rw[ae]at q;cases q;exact new
 ·rw[aj hb]at q;by_cases J2:b=e
  ·have q':H b=some (.own x):=by
    rcases he with z|z
    ·exact Zn (J2.trans z) hb
    ·rw[J2];exact z
   rw[q]at q';cases q';obtain⟨v,hv⟩:=Mj;exact⟨v,by rw[J2];exact hv⟩
  ·refine(ok b u q).v7 (fun c v hc r=>k c v ?_ r) (fun c r=>by rw[aj (Nc c b r)];exact r) fun c xs r=>by rw[aj (QX c xs r)];exact r
   rcases hc with rfl|hc
   ·exact J2
   ·rintro rfl;rcases he with z|z
    ·exact Nc c b hc z
    ·rw[hc]at z;cases z;exact hb rfl
end
structure Un(fs ex:List Addr)(H H':Hp)(h h':Heap):Prop where
 keep:∀b o,h.get? b=some o→H b=none→b∉fs→b∉ex→h'.get? b=some o
 slot:∀b o,h.get? b=some o→H b=none→b∈fs→b∉ex→∃sl,h'.get? b=some {o with slots:=sl}
 free:∀b o,h.get? b=some o→H b=none→b∉ex→H' b=none
 there:∀b o,h.get? b=some o→b∉ex→∃o',h'.get? b=some o'
 cz:∀b xs,H b=some (.tup xs)→H' b=some (.tup xs)
 om:∀b o u,H b=some (.so o u)→H' b=some (.so o u)
 rM:∀b ps,H b=some (.GH ps)→∃more,H' b=some (.GH (ps++more))
section
variable{fs Wn ex Y6:List Addr}{H H1 H2:Hp}{h h1 h2 h':Heap}{a x e:Addr}{o:HO}
theorem Un.any(u:Un fs ex H H1 h h1){b:Addr}{ob:Obj}(q:h.get? b=some ob)(n:H b=none)(hx:b∉ex):∃sl,h1.get? b=some {ob with slots:=sl}:=by
 by_cases hb:b∈fs
 ·exact u.slot b ob q n hb hx
 ·exact⟨ob.slots,u.keep b ob q n hb hx⟩
theorem Un.kept(k:∀b u,h.get? b=some u→h'.get? b=some u):Un fs ex H H h h':=
 ⟨fun b ob q _ _ _=>k b ob q,fun b ob q _ _ _=>⟨ob.slots,k b ob q⟩,fun _ _ _ n _=>n,fun b ob q _=>⟨ob,k b ob q⟩,fun _ _ q=>q,fun _ _ _ q=>q,fun _ ps q=>⟨#[],by rw[q];simp⟩⟩
theorem Un.refl:Un fs ex H H h h:=Un.kept fun _ _ q=>q
theorem Un.laid(k:∀b u,h.get? b=some u→h'.get? b=some u)(hp:h.objs.size≤a)(hn:H a=none):Un fs ex H (upd H a o) h h' where
 keep:=fun b u q _ _ _=>k b u q
 slot:=fun b u q _ _ _=>⟨u.slots,k b u q⟩
 free:=fun b u q n _=>by rw[aj (Nat.ne_of_lt (Nat.lt_of_lt_of_le (Κ q) hp))];exact n
 there:=fun b u q _=>⟨u,k b u q⟩
 cz:=fun b xs q=>by rw[aj (aE q hn)];exact q
 om:=fun b u xs q=>by rw[aj (aE q hn)];exact q
 rM:=fun b ps q=>⟨#[],by rw[aj (aE q hn),q];simp⟩
theorem Un.write(mu:Nb (H x))(he:e=x∨H e=some (.own x))(k:∀b u,b≠e→h.get? b=some u→h'.get? b=some u)(Mj:∃u,h'.get? e=some u):Un fs ex H (upd H x o) h h':=by
 have hx:∀b,H b=none→b≠x:=fun b n z=>by subst z;rw[n]at mu;exact mu
 have hb:∀b,H b=none→b≠e:=fun b n z=>by
  subst z;rcases he with r|r
  ·exact hx b n r
  ·rw[n]at r;cases r
 have hm:∀b u,H b=some u→¬Nb (some u)→b≠x:=fun b u q nm z=>by subst z;rw[q]at mu;exact nm mu
 refine⟨fun b u q n _ _=>k b u (hb b n) q,fun b u q n _ _=>⟨u.slots,k b u (hb b n) q⟩,fun b u q n _=>by rw[aj (hx b n)];exact n,fun b u q _=>?_,
  fun b xs q=>by rw[aj (hm b _ q fun z=>z)];exact q,fun b u xs q=>by rw[aj (hm b _ q fun z=>z)];exact q,fun b ps q=>⟨#[],by rw[aj (hm b _ q fun z=>z),q];simp⟩⟩
 by_cases J2:b=e
 ·subst J2;exact Mj
 ·exact⟨u,k b u J2 q⟩
end
def Py(h:Heap)(H:Hp):List Addr:=(Ι h.objs.size).filter fun a=>(H a).isSome
def v8(h:Heap)(H:Hp):Heap:=PySem.W.hideAll h (Py h H)
theorem Cc(h:Heap)(H:Hp):(v8 h H).objs.size=h.objs.size:=PySem.W.hideAll_size _ _
theorem DX{h:Heap}{H:Hp}{b:Addr}{o:Obj}(e:h.get? b=some o)(n:H b=none):(v8 h H).get? b=some o:=
 PySem.W.hideAll_get _ e fun hm=>by
  have q:(H b).isSome=true:=(List.mem_filter.mp hm).2;rw[n]at q;simp at q
theorem GI{h:Heap}{H:Hp}{b:Addr}{o:Obj}(e:(v8 h H).get? b=some o):h.get? b=some o∧H b=none:=by
 have e':h.get? b=some o:=PySem.W.of_hideAll (Py h H) e;refine⟨e',?_⟩;cases q:H b with
 |none=>rfl
 |some x=>
  have hm:b∈Py h H:=List.mem_filter.mpr ⟨List.mem_range.mpr (Κ e'),by simp[q]⟩;have z:(v8 h H).get? b=none:=PySem.W.hideAll_none (Py h H) hm;rw[z]at e;cases e
def GJ(g h:Heap)(L:Addr):List (Addr×Obj):=(Ι h.objs.size).filterMap fun a=>if a=L∨(g.get? a).isSome=true then none else(h.get? a).map fun o=>(a,o)
def rest(g h:Heap)(L d:Addr):List (Addr×Obj):=(GJ g h L).filter fun p=>decide (p.1≠d)
structure Mod(K:PySem.W.Frag)(mg:Str→Option Value)(base:Heap):Prop where
 Ml:K.In base
 glob:base.Ns mainGlobals mg
 blt:∃mb,base.Ns builtinsNs mb∧∀x:Str,x≠"__name__"→mb x=bootBuiltins x
 nolimit:base.NoLimit
structure Cx where
 prog:Program
 w:World
 K:PySem.W.Frag
 mg:Str→Option Value
 base:Heap
 A:Around
 N:List Str
 dF:Shared
 eY:Hp
 env:Env
 outer:List Env
 stack:List Env
 ex:List Addr
 fn:Str→Bool
 calm:Bool
 pn:List (Addr×Obj)
 xe:Value→Shared→Prop
def oh(l:List Env):List Addr:=l.filterMap (·.frame)
abbrev Cx.fs(X:Cx):List Addr:=oh X.outer
def QY(sc:Scope)(x:Str):Prop:=sc.names.lookup x=some .local∨sc.names.lookup x=some .cell∨sc.names.lookup x=some .free
def Loc(sc:Scope)(x:Str):Prop:=sc.names.lookup x=some .local∨sc.names.lookup x=some .cell
def Look(env:Env)(h:Heap)(m:Str→Option Value)(x:Str)(u:Value):Prop:=
 (env.kindOf x=some .local∧m x=some u)∨((env.kindOf x=some .cell∨env.kindOf x=some .free)∧∃c,env.cells.lookup x=some c∧h.IsCell c (some u))
structure Cx.Ok(X:Cx):Prop where
 mod:Mod X.K X.mg X.base
 kind:X.env.scope.kind= .function
 glob:X.env.globals=mainGlobals
 blt:X.env.builtins=builtinsNs
 above:X.dF.heap.objs.size≤X.env.locals
 inj:∀x y c,X.env.cells.lookup x=some c→X.env.cells.lookup y=some c→x=y
 has:∀x,(X.env.kindOf x=some .cell∨X.env.kindOf x=some .free)→∃c,X.env.cells.lookup x=some c
 QZ:∀x c,X.fn x=true→X.env.cells.lookup x=some c→X.dF.heap.objs.size≤c
 hd:X.calm=true→X.A.handled=none
 frames:X.A.frames=some X.stack
 Uz:X.stack=X.outer∨(X.stack=X.env::X.outer∧X.env.frame=some X.env.locals)
 Y7:∀b∈X.ex,b≠X.env.locals∧∀x c,X.env.cells.lookup x=some c→c≠b
 bs:∀b o,X.base.get? b=some o→X.dF.heap.get? b=some o∧X.eY b=none
 J3:X.base.objs.size≤X.dF.heap.objs.size
 J4:∀b o,X.base.get? b=some o→b∉X.ex
 Nd:∀b∈X.ex,b∉X.fs
 uB:X.dF.heap.FunFrames X.base X.outer
 Nf:∀b∈X.fs,X.eY b=none
structure Inv(X:Cx)(pins:List (Addr×Obj))(σ:List (Option V))(H:Hp)(s:Shared):Prop where
 ok:X.Ok
 os:s.os=X.dF.os
 bare:AllBare s.gens
 base:Un X.fs X.ex X.eY H X.dF.heap s.heap
 loc:∃m,s.heap.Ns X.env.locals m∧∀(i:Nat)(x:Str)(v:V),X.N[i]?=some x→σ[i]?=some (some v)→QY X.env.scope x→∃u,RelV v u∧Look X.env s.heap m x u
 cell:∀x c,X.env.cells.lookup x=some c→∃v,s.heap.IsCell c v
 free:H X.env.locals=none
 mZ:∀x c,X.env.cells.lookup x=some c→H c=none
 pin:∀p∈X.pn++pins,s.heap.get? p.1=some p.2∧H p.1=none∧p.1≠X.env.locals∧p.1∉X.fs∧∀v,p.2.data≠ .cell v
 bY:lE X.prog X.w H s.heap
 len:σ.length=X.N.length
section
variable{X:Cx}{pins:List (Addr×Obj)}{σ:List (Option V)}{H H':Hp}{s:Shared}{h':Heap}
theorem Cx.Ok.Q0(ok:X.Ok){b:Addr}{o:Obj}(e:X.base.get? b=some o):b∉X.fs:=fun hb=>by
 have:=(ok.uB.mem hb).1;rw[e]at this;cases this
theorem Inv.bs(I:Inv X pins σ H s):∀b o,X.base.get? b=some o→s.heap.get? b=some o∧H b=none:=fun b o e=>
 ⟨I.base.keep b o (I.ok.bs b o e).1 (I.ok.bs b o e).2 (I.ok.Q0 e) (I.ok.J4 b o e),I.base.free b o (I.ok.bs b o e).1 (I.ok.bs b o e).2 (I.ok.J4 b o e)⟩
theorem Inv.bk(I:Inv X pins σ H s):∀b o,X.base.get? b=some o→s.heap.get? b=some o:=fun b o e=>(I.bs b o e).1
theorem Inv.mod(I:Inv X pins σ H s):Mod X.K X.mg X.base:=I.ok.mod
theorem Inv.qd(I:Inv X pins σ H s):X.K.In s.heap:=I.ok.mod.Ml.keeps I.bk
theorem Inv.lt(I:Inv X pins σ H s):X.env.locals<s.heap.objs.size:=let ⟨_,hn,_⟩:=I.loc;hn.lt
theorem Inv.sz(I:Inv X pins σ H s):X.dF.heap.objs.size≤s.heap.objs.size:=Nat.le_trans I.ok.above (Nat.le_of_lt I.lt)
theorem Inv.Q2(I:Inv X pins σ H s){a:Addr}(h:s.heap.objs.size≤a):a∉X.fs:=fun hb=>by
 obtain⟨_,o,ho,_⟩:=I.ok.uB.mem hb;exact Zn (Nat.lt_of_lt_of_le (Κ ho) (Nat.le_trans I.sz h)) (Nat.lt_irrefl _)
theorem Inv.J5(I:Inv X pins σ H s):∀x c,X.env.cells.lookup x=some c→c≠X.env.locals:=fun x c e z=>by
 obtain⟨v,o,ho,hd⟩:=I.cell x c e;obtain⟨m,⟨o',es,ep,J6,Mm,_⟩,_⟩:=I.loc;rw[z,J6]at ho;cases ho;rw[Mm]at hd;cases hd
theorem Inv.uB(I:Inv X pins σ H s):s.heap.FunFrames X.base X.outer:=by
 have all:∀(l:List Env),(∀b∈oh l,b∈X.fs)→X.dF.heap.FunFrames X.base l→s.heap.FunFrames X.base l:=by
  intro l
  induction l with
  |nil=>intro _ _;trivial
  |cons env r ih=>
   intro hs hl;obtain⟨hk,⟨L,o,hf,hn,ho,hd⟩,hr⟩:=hl;have hL:L∈X.fs:=hs L (by unfold oh;rw[List.filterMap_cons,hf];exact List.mem_cons_self);obtain⟨sl,e⟩:=I.base.slot L o ho (I.ok.Nf L hL) hL fun z=>I.ok.Nd L z hL
   exact⟨hk,⟨L,_,hf,hn,e,hd⟩,ih (fun b hb=>hs b (by unfold oh;rw[List.filterMap_cons,hf];exact ε hb)) hr⟩
 exact all X.outer (fun _ hb=>hb) I.ok.uB
theorem Inv.stack(I:Inv X pins σ H s):s.heap.FunFrames X.base X.stack:=by
 rcases I.ok.Uz with e|⟨e,hf⟩
 ·rw[e];exact I.uB
 ·rw[e];obtain⟨m,hn,_⟩:=I.loc;refine .cons (by rw[I.ok.kind];decide) hf hn ?_ I.uB;exact Heap.get?_none_of_le (Nat.le_trans I.ok.J3 I.ok.above)
theorem Inv.sL(I:Inv X pins σ H s):∀b∈oh X.stack,b∈X.env.locals::X.fs:=fun b hb=>by
 rcases I.ok.Uz with e|⟨e,hf⟩
 ·rw[e]at hb;exact ε hb
 ·rw[e]at hb;unfold oh at hb;rw[List.filterMap_cons,hf]at hb;exact hb
theorem Inv.v9(I:Inv X pins σ H s):∀b∈oh X.stack,H b=none:=fun b hb=>by
 rcases List.mem_cons.mp (I.sL b hb)with e|hb
 ·rw[e];exact I.free
 ·obtain⟨_,o,ho,_⟩:=I.ok.uB.mem hb;exact I.base.free b o ho (I.ok.Nf b hb) fun z=>I.ok.Nd b z hb
theorem Inv.step{g':Array GenState}{t':Nat}{d':Drawn}{ch:List Addr}(I:Inv X pins σ H s)
  (Gq:∀b∈ch,(b∈X.ex∨X.dF.heap.objs.size≤b)∧b≠X.env.locals∧(∀x c,X.env.cells.lookup x=some c→c≠b)∧∀p∈X.pn++pins,p.1≠b)
  (keep:∀b o,b≠X.env.locals→b∉X.fs→b∉ch→s.heap.get? b=some o→H b=none→h'.get? b=some o)
  (slot:∀b o,b≠X.env.locals→b∈X.fs→b∉ch→s.heap.get? b=some o→H b=none→∃sl,h'.get? b=some {o with slots:=sl}) (free:∀b o,b∉ch→s.heap.get? b=some o→H b=none→H' b=none)
  (there:∀b o,b∉ch→s.heap.get? b=some o→∃o',h'.get? b=some o')
  (cz:∀b xs,H b=some (.tup xs)→H' b=some (.tup xs)) (om:∀b o u,H b=some (.so o u)→H' b=some (.so o u)) (rM:∀b ps,H b=some (.GH ps)→∃more,H' b=some (.GH (ps++more)))
  (ns:∀m,s.heap.Ns X.env.locals m→h'.Ns X.env.locals m) (bY:lE X.prog X.w H' h') (hg:AllBare g'):
  Inv X pins σ H' {s with heap:=h',gens:=g',drawn:=d',toks:=t'}:=by
 have UA:∀b o,X.dF.heap.get? b=some o→b≠X.env.locals:=fun b o e=>Nat.ne_of_lt (Nat.lt_of_lt_of_le (Κ e) I.ok.above)
 have Pz:∀b o,X.dF.heap.get? b=some o→b∉X.ex→b∉ch:=fun b o e hx hb=>by
  rcases(Gq b hb).1 with z|z
  ·exact hx z
  ·exact Zn (Nat.lt_of_lt_of_le (Κ e) z) (Nat.lt_irrefl _)
 have cellK:∀x c,X.env.cells.lookup x=some c→∀v,s.heap.IsCell c v→h'.IsCell c v:=fun x c e v ⟨o,ho,hd⟩=>by
  have Ng:c∉ch:=fun z=>(Gq c z).2.2.1 x c e rfl
  by_cases hc:c∈X.fs
  ·obtain⟨sl,q⟩:=slot c o (I.J5 x c e) hc Ng ho (I.mZ x c e);exact⟨_,q,hd⟩
  ·exact⟨o,keep c o (I.J5 x c e) hc Ng ho (I.mZ x c e),hd⟩
 refine⟨I.ok,I.os,hg,⟨fun b o e n hb hx=>?_,fun b o e n hb hx=>?_,fun b o e n hx=>?_,fun b o e hx=>?_,fun b xs e=>cz b xs (I.base.cz b xs e),fun b o xs e=>om b o xs (I.base.om b o xs e),fun b ps e=>?_⟩,?_,fun x c e=>?_,?_,fun x c e=>?_,fun p hp=>?_,bY,I.len⟩
 ·exact keep b o (UA b o e) hb (Pz b o e hx) (I.base.keep b o e n hb hx) (I.base.free b o e n hx)
 ·obtain⟨sl,e1⟩:=I.base.slot b o e n hb hx;obtain⟨Q3,e2⟩:=slot b _ (UA b o e) hb (Pz b o e hx) e1 (I.base.free b o e n hx);exact⟨Q3,e2⟩
 ·obtain⟨o',e1⟩:=I.base.there b o e hx;exact free b o' (Pz b o e hx) e1 (I.base.free b o e n hx)
 ·obtain⟨o',e1⟩:=I.base.there b o e hx;exact there b o' (Pz b o e hx) e1
 ·obtain⟨m1,e1⟩:=I.base.rM b ps e;obtain⟨m2,e2⟩:=rM b _ e1;exact⟨m1++m2,by rw[e2,Array.append_assoc]⟩
 ·obtain⟨m,hn,hl⟩:=I.loc;refine⟨m,ns m hn,fun i x v e1 e2 e3=>?_⟩;obtain⟨u,r,l⟩:=hl i x v e1 e2 e3;refine⟨u,r,?_⟩;rcases l with l|⟨k,c,e,z⟩
  ·exact .inl l
  ·exact .inr ⟨k,c,e,cellK x c e _ z⟩
 ·obtain⟨v,z⟩:=I.cell x c e;exact⟨v,cellK x c e v z⟩
 ·obtain⟨m,⟨o,_,_,ho,_⟩,_⟩:=I.loc;exact free _ o (fun z=>(Gq _ z).2.1 rfl) ho I.free
 ·obtain⟨v,o,ho,hd⟩:=I.cell x c e;exact free c o (fun z=>(Gq c z).2.2.1 x c e rfl) ho (I.mZ x c e)
 ·obtain⟨e,n,ne,nf,d⟩:=I.pin p hp;have Ng:p.1∉ch:=fun z=>(Gq p.1 z).2.2.2 p hp rfl
  exact⟨keep p.1 p.2 ne nf Ng e n,free p.1 p.2 Ng e n,ne,nf,d⟩
theorem Inv.un{t':Nat}(I:Inv X pins σ H s)(u:Un X.fs [] H H' s.heap h')(bY:lE X.prog X.w H' h'):Inv X pins σ H' {s with heap:=h',toks:=t'}:=by
 obtain⟨m,⟨o,es,ep,ho,r⟩,_⟩:=id I.loc;obtain⟨sl,hL⟩:=u.any ho I.free ZA;exact I.step (g':=s.gens) (d':=s.drawn) (ch:=[]) (fun _ z=>nomatch z) (fun b o _ hb _ e n=>u.keep b o e n hb ZA) (fun b o _ hb _ e n=>u.slot b o e n hb ZA) (fun b o _ e n=>u.free b o e n (ZF)) (fun b o _ e=>u.there b o e ZA) u.cz u.om u.rM (fun m' hm=>by
  obtain⟨o',yn,PB,J6,r'⟩:=hm;rw[ho]at J6;cases J6;exact⟨_,yn,PB,hL,r'⟩) bY I.bare
theorem Inv.call{g':Array GenState}{t':Nat}{d':Drawn}{ch:List Addr}(I:Inv X pins σ H s)(u:Un (oh X.stack) ch H H' s.heap h')(bY:lE X.prog X.w H' h')(hg:AllBare g')
  (Gq:∀b∈ch,(b∈X.ex∨X.dF.heap.objs.size≤b)∧b≠X.env.locals∧(∀x c,X.env.cells.lookup x=some c→c≠b)∧∀p∈X.pn++pins,p.1≠b):
  Inv X pins σ H' {s with heap:=h',gens:=g',drawn:=d',toks:=t'}:=by
 obtain⟨m,⟨o,es,ep,ho,r⟩,_⟩:=id I.loc;obtain⟨sl,hL⟩:=u.any ho I.free fun z=>(Gq _ z).2.1 rfl
 exact I.step (ch:=ch) Gq (fun b o hL hb hc e n=>u.keep b o e n (fun z=>(List.mem_cons.mp (I.sL b z)).elim hL hb) hc) (fun b o _ _ hc e n=>u.any e n hc) (fun b o hc e n=>u.free b o e n hc) (fun b o hc e=>u.there b o e hc) u.cz u.om u.rM (fun m' hm=>by
  obtain⟨o',yn,PB,J6,r'⟩:=hm;rw[ho]at J6;cases J6;exact⟨_,yn,PB,hL,r'⟩) bY hg
theorem Inv.turned{t':Nat}{it:Addr}(I:Inv X pins σ H s)(k:∀b o,b≠it→s.heap.get? b=some o→h'.get? b=some o)(hn:H it=none)(hL:it≠X.env.locals)
  (h1:it∈X.ex∨X.dF.heap.objs.size≤it) (h2:∀x c,X.env.cells.lookup x=some c→c≠it) (h3:∀p∈X.pn++pins,p.1≠it):Inv X pins σ H {s with heap:=h',toks:=t'}:=by
 have IJ:∀b u,H b=some u→b≠it:=fun b u e z=>by rw[z,hn]at e;cases e
 refine I.step (g':=s.gens) (d':=s.drawn) (ch:=[it]) (fun b hb=>?_) (fun b o _ _ hc e _=>k b o (fun z=>hc (by simp[z])) e) (fun b o _ _ hc e _=>⟨o.slots,k b o (fun z=>hc (by simp[z])) e⟩) (fun _ _ _ _ n=>n)
  (fun b o hc e=>⟨o,k b o (fun z=>hc (by simp[z])) e⟩) (fun _ _ e=>e) (fun _ _ _ e=>e) (fun b ps e=>⟨#[],by rw[e];simp⟩) (fun m hm=>?_) (fun b u e=>?_) I.bare
 ·have e:b=it:=by simpa using hb
  subst e;exact⟨h1,hL,h2,h3⟩
 ·obtain⟨o,es,ep,ho,r⟩:=hm;exact⟨o,es,ep,k _ o (Ne.symm hL) ho,r⟩
 ·refine(I.bY b u e).v7 (fun c v hc q=>k c v ?_ q) (fun _ q=>q) fun _ _ q=>q
  rcases hc with z|z
  ·rw[z];exact IJ b u e
  ·exact IJ c _ z
theorem Inv.tok(I:Inv X pins σ H s)(t:Nat):Inv X pins σ H {s with toks:=t}:=I.un (h':=s.heap) (t':=t) Un.refl I.bY
theorem Inv.kept{t':Nat}(I:Inv X pins σ H s)(k:∀b u,s.heap.get? b=some u→h'.get? b=some u):Inv X pins σ H {s with heap:=h',toks:=t'}:=I.un (Un.kept k) (I.bY.kept k)
theorem Inv.laid{a:Addr}{o:HO}{t':Nat}(I:Inv X pins σ H s)(k:∀b u,s.heap.get? b=some u→h'.get? b=some u)(hp:s.heap.objs.size≤a)(new:cS X.prog X.w (upd H a o) h' a o):
  Inv X pins σ (upd H a o) {s with heap:=h',toks:=t'}:=I.un (Un.laid k hp (I.bY.fresh hp)) (I.bY.laid k hp new)
theorem Inv.write{x e:Addr}{o:HO}{t':Nat}(I:Inv X pins σ H s)(mu:Nb (H x))(he:e=x∨H e=some (.own x))(k:∀b u,b≠e→s.heap.get? b=some u→h'.get? b=some u)(Mj:∃u,h'.get? e=some u)
  (new:cS X.prog X.w (upd H x o) h' x o):Inv X pins σ (upd H x o) {s with heap:=h',toks:=t'}:=I.un (Un.write mu he k Mj) (I.bY.write mu he k Mj new)
theorem Inv.A6{IK:List (Addr×Obj)}(I:Inv X pins σ H s)(h:∀p∈IK,s.heap.get? p.1=some p.2∧H p.1=none∧p.1≠X.env.locals∧p.1∉X.fs∧∀v,p.2.data≠ .cell v):Inv X IK σ H s:=
 ⟨I.ok,I.os,I.bare,I.base,I.loc,I.cell,I.free,I.mZ,fun p hp=>(List.mem_append.mp hp).elim (fun z=>I.pin p (List.mem_append_left _ z)) (h p),I.bY,I.len⟩
theorem yo{N:List Str}(hN:N.Nodup){i j:Nat}{x:Str}(a:N[i]?=some x)(b:N[j]?=some x):i=j:=by
 obtain⟨h1,e1⟩:=ZO a;obtain⟨h2,e2⟩:=ZO b;exact(List.getElem_inj hN).mp (e1.trans e2.symm)
theorem vj{M:Model}{A:Around}{E:Value→Shared→Prop}{i:Nat}{x:Str}{v:V}{u:Value}{Q:Unit→Shared→Prop}(I:Inv X pins σ H s)(hN:X.N.Nodup)(hi:X.N[i]?=some x)(hx:Loc X.env.scope x)(r:RelV v u)
  (h:∀s',Inv X pins (σ.set i (some v)) H s'→(∃a,Heap.SameBut a s.heap s'.heap∧(a=X.env.locals∨X.env.cells.lookup x=some a))→Q () s') (hf:X.fn x=true∨X.env.scope.names.lookup x=some .local:=by first|exact .inl rfl|exact .inr rfl|assumption):wpAny M A (storeName X.env x u) Q E s:=by
 obtain⟨m,hn,hl⟩:=id I.loc;have Q4:(X.env.scope.kind== .class||(X.env.scope.kind== .module&&X.env.locals !=X.env.globals))=false:=by rw[I.ok.kind];rfl
 have Nh:i<σ.length:=by rw[I.len];exact(ZO hi).1
 have J5:=I.J5;have tracked:∀{a:Addr}{h':Heap},(∃o,s.heap.get? a=some o∧H a=none)→Heap.SameBut a s.heap h'→lE X.prog X.w H h':=fun{a h'} ha hs b ob e=>by
  obtain⟨_,_,A7⟩:=ha;refine(I.bY b ob e).v7 (fun c w' hc q=>(hs.2 c ?_).trans q) (fun _ q=>q) fun _ _ q=>q
  rintro rfl;rcases hc with rfl|hc
  ·rw[A7]at e;cases e
  ·rw[A7]at hc;cases hc
 rcases hx with hk|hk
 ·refine wpAny_storeName_local hk hn (fun h' DY hs=>?_) Q4;obtain⟨oL,_,_,IL,_⟩:=id hn;refine h _ ⟨I.ok,I.os,I.bare,⟨fun b o e n hb hx=>?_,fun b o e n hb hx=>?_,I.base.free,fun b o e hx=>?_,I.base.cz,I.base.om,I.base.rM⟩,⟨_,DY,fun j y v' e1 e2 e3=>?_⟩,fun y c e=>?_,I.free,I.mZ,fun p hp=>?_,tracked ⟨oL,IL,I.free⟩ hs,by simpa using I.len⟩ ⟨_,hs, .inl rfl⟩
  ·exact(hs.2 b (Nat.ne_of_lt (Nat.lt_of_lt_of_le (Κ e) I.ok.above))).trans (I.base.keep b o e n hb hx)
  ·obtain⟨sl,e1⟩:=I.base.slot b o e n hb hx;exact⟨sl,(hs.2 b (Nat.ne_of_lt (Nat.lt_of_lt_of_le (Κ e) I.ok.above))).trans e1⟩
  ·obtain⟨o',e1⟩:=I.base.there b o e hx;exact⟨o',(hs.2 b (Nat.ne_of_lt (Nat.lt_of_lt_of_le (Κ e) I.ok.above))).trans e1⟩
  ·by_cases hj:j=i
   ·subst hj;rw[hi]at e1;cases e1;rw[List.getElem?_set_self Nh]at e2;cases e2;exact⟨u,r, .inl ⟨hk,ZF⟩⟩
   ·rw[List.getElem?_set_ne (Ne.symm hj)]at e2;obtain⟨u',r',q⟩:=hl j y v' e1 e2 e3;refine⟨u',r',?_⟩;rcases q with⟨k,e⟩|⟨k,c,e,z⟩
    ·refine .inl ⟨k,?_⟩;have:y≠x:=fun e=>hj (yo hN e1 (e▸hi))
     simp[this,e]
    ·exact .inr ⟨k,c,e,z.sameBut hs (J5 y c e)⟩
  ·obtain⟨w',z⟩:=I.cell y c e;exact⟨w',z.sameBut hs (J5 y c e)⟩
  ·obtain⟨e,n,ne,nf,d⟩:=I.pin p hp;exact⟨(hs.2 p.1 ne).trans e,n,ne,nf,d⟩
 ·have Ni:X.fn x=true:=by
   rcases hf with z|z
   ·exact z
   ·rw[z]at hk;cases hk
  obtain⟨c,hc⟩:=I.ok.has x (.inl hk);obtain⟨w',z⟩:=I.cell x c hc;refine wpAny_storeName_cell I.ok.kind hk hc z (fun h' J7 hs=>?_);obtain⟨oc,UB,Q5⟩:=id z;refine h {s with heap:=h'} ⟨I.ok,I.os,I.bare,⟨fun b o e n hb hx=>?_,fun b o e n hb hx=>?_,I.base.free,fun b o e hx=>?_,I.base.cz,I.base.om,I.base.rM⟩,⟨m,hn.sameBut hs (Ne.symm (J5 x c hc)),fun j y v' e1 e2 e3=>?_⟩,fun y c' e=>?_,I.free,I.mZ,fun p hp=>?_,tracked ⟨oc,UB,I.mZ x c hc⟩ hs,by simpa using I.len⟩ ⟨c,hs, .inr hc⟩
  ·exact(hs.2 b (Nat.ne_of_lt (Nat.lt_of_lt_of_le (Κ e) (I.ok.QZ x c Ni hc)))).trans (I.base.keep b o e n hb hx)
  ·obtain⟨sl,e1⟩:=I.base.slot b o e n hb hx;exact⟨sl,(hs.2 b (Nat.ne_of_lt (Nat.lt_of_lt_of_le (Κ e) (I.ok.QZ x c Ni hc)))).trans e1⟩
  ·obtain⟨o',e1⟩:=I.base.there b o e hx;exact⟨o',(hs.2 b (Nat.ne_of_lt (Nat.lt_of_lt_of_le (Κ e) (I.ok.QZ x c Ni hc)))).trans e1⟩
  ·by_cases hj:j=i
   ·subst hj;rw[hi]at e1;cases e1;rw[List.getElem?_set_self Nh]at e2;cases e2;exact⟨u,r, .inr ⟨.inl hk,c,hc,J7⟩⟩
   ·rw[List.getElem?_set_ne (Ne.symm hj)]at e2;obtain⟨u',r',q⟩:=hl j y v' e1 e2 e3;refine⟨u',r',?_⟩;rcases q with q|⟨k,c',e,z'⟩
    ·exact .inl q
    ·refine .inr ⟨k,c',e,z'.sameBut hs ?_⟩;rintro rfl;exact hj (yo hN e1 (I.ok.inj _ _ _ e hc▸hi))
  ·by_cases UC:c'=c
   ·subst UC;exact⟨_,J7⟩
   ·obtain⟨w2,z2⟩:=I.cell y c' e;exact⟨w2,z2.sameBut hs UC⟩
  ·obtain⟨e,n,ne,nf,d⟩:=I.pin p hp;refine⟨(hs.2 p.1 ?_).trans e,n,ne,nf,d⟩;intro q;rw[q,UB]at e;have q':oc=p.2:=Z' e;exact d w' (by rw[←q'];exact Q5)
theorem yp{M:Model}{A:Around}{E:Value→Shared→Prop}{i:Nat}{x:Str}{v:V}{u:Value}{Q:Unit→Shared→Prop}(I:Inv X pins σ H s)(hN:X.N.Nodup)(hi:X.N[i]?=some x)(hx:Loc X.env.scope x)(r:RelV v u)
  (h:∀s',Inv X pins (σ.set i (some v)) H s'→Q () s') (hf:X.fn x=true∨X.env.scope.names.lookup x=some .local:=by first|exact .inl rfl|exact .inr rfl|assumption):wpAny M A (storeName X.env x u) Q E s:=
 vj I hN hi hx r (fun s' I' _=>h s' I') hf
theorem Inv.Nj{s':Shared}{ch:List Addr}(I:Inv X pins σ H s)(ho:s'.os=s.os)(u:Un (oh X.stack) ch H H' s.heap s'.heap)(bY:lE X.prog X.w H' s'.heap)(hg:AllBare s'.gens)
  (Gq:∀b∈ch,(b∈X.ex∨X.dF.heap.objs.size≤b)∧b≠X.env.locals∧(∀x c,X.env.cells.lookup x=some c→c≠b)∧∀p∈X.pn++pins,p.1≠b):Inv X pins σ H' s':=by
 obtain⟨h',g',d',t',o'⟩:=s';have e:o'=s.os:=ho;subst e;exact I.call (g':=g') (t':=t') (d':=d') u bY hg Gq
end
abbrev XK:=Value→Option Addr→Hp→Prop
abbrev St:=List (Option V)
abbrev VK:=V→Hp→Prop
abbrev TE:=St→Hp→VK→Prop
abbrev TT:=St→Hp→(Bool→Hp→Prop)→Prop
abbrev TA:=St→Hp→(List V→Hp→Prop)→Prop
structure Ends where
 nx:St→Hp→Prop
 rt:VK
 bk:St→Hp→Prop:=fun _ _=>False
 ct:St→Hp→Prop:=fun _ _=>False
abbrev TS:=Ends→St→Hp→Prop
def EP(X:Cx)(pins:List (Addr×Obj))(σ:St)(Q:VK)(u:Value)(s':Shared):Prop:=∃v H',Inv X pins σ H' s'∧RelV v u∧Q v H'
def TP(X:Cx)(pins:List (Addr×Obj))(σ:St)(Q:Bool→Hp→Prop)(b:Bool)(s':Shared):Prop:=∃H',Inv X pins σ H' s'∧Q b H'
def AP(X:Cx)(pins:List (Addr×Obj))(σ:St)(Q:List V→Hp→Prop)(us:List Value)(s':Shared):Prop:=∃vs H',Inv X pins σ H' s'∧Vals vs us∧Q vs H'
def SP(X:Cx)(pins:List (Addr×Obj))(D:Ends)(f:Flow)(s':Shared):Prop:=
 match f with
 | .next=>∃bq H',Inv X pins bq H' s'∧D.nx bq H'
 | .brk=>∃bq H',Inv X pins bq H' s'∧D.bk bq H'
 | .cont=>∃bq H',Inv X pins bq H' s'∧D.ct bq H'
 | .ret u=>∃v bq H',Inv X pins bq H' s'∧RelV v u∧D.rt v H'
def PE(X:Cx)(e:Expr)(t:TE):Prop:=
 ∀(pins:List (Addr×Obj))(s:Shared)(σ:St)(H:Hp)(Q:VK),Inv X pins σ H s→t σ H Q→wpAny (model X.prog X.w) X.A (eval e X.env) (EP X pins σ Q) X.xe s
def PT(X:Cx)(e:Expr)(t:TT):Prop:=
 ∀(pins:List (Addr×Obj))(s:Shared)(σ:St)(H:Hp)(Q:Bool→Hp→Prop),Inv X pins σ H s→t σ H Q→wpAny (model X.prog X.w) X.A (isTrue e X.env (eval e X.env)) (TP X pins σ Q) X.xe s
def PW(X:Cx)(e:Expr)(t:TT):Prop:=
 ∀(whole:Sem Value)(pins:List (Addr×Obj))(s:Shared)(σ:St)(H:Hp)(Q:Bool→Hp→Prop),Inv X pins σ H s→t σ H Q→wpAny (model X.prog X.w) X.A (isTrue e X.env whole) (TP X pins σ Q) X.xe s
theorem PW.pt{X:Cx}{e:Expr}{t:TT}(h:PW X e t):PT X e t:=h _
def PA(X:Cx)(es:List Expr)(t:TA):Prop:=
 ∀(pos:Pos)(pins:List (Addr×Obj))(s:Shared)(σ:St)(H:Hp)(Q:List V→Hp→Prop),Inv X pins σ H s→t σ H Q→wpAny (model X.prog X.w) X.A (spliced (backTo pos (starEach es X.env))) (AP X pins σ Q) X.xe s
def PS(X:Cx)(st:Stmt)(t:TS):Prop:=
 ∀(pins:List (Addr×Obj))(s:Shared)(σ:St)(H:Hp)(D:Ends),Inv X pins σ H s→t D σ H→wpAny (model X.prog X.w) X.A (exec st X.env) (SP X pins D) X.xe s
def Cd(X:Cx)(st:List Stmt)(t:TS):Prop:=
 ∀(pins:List (Addr×Obj))(s:Shared)(σ:St)(H:Hp)(D:Ends),Inv X pins σ H s→t D σ H→wpAny (model X.prog X.w) X.A (execs st X.env) (SP X pins D) X.xe s
theorem cI{α:Type}{t:Sem α}{Q Q':α→Shared→Prop}{M:Model}{A:Around}{E:Value→Shared→Prop}{s:Shared}(h:wpAny M A t Q E s)(hQ:∀a s,Q a s→Q' a s):wpAny M A t Q' E s:=wpAny_mono h hQ fun _ _ x=>x
section
variable{X:Cx}
theorem bin{a b:Expr}{ta tb:TE}(ha:PE X a ta)(hb:PE X b tb){pins:List (Addr×Obj)}{s:Shared}{σ:St}{H:Hp}{R:V→V→Hp→Prop}(I:Inv X pins σ H s)(h:ta σ H fun x H1=>tb σ H1 fun y H2=>R x y H2)
  {α:Type} {Q:α→Shared→Prop} {f:Value→Value→Sem α}
  (hf:∀v u s2 x y H2,Inv X pins σ H2 s2→RelV x v→RelV y u→R x y H2→wpAny (model X.prog X.w) X.A (f v u) Q X.xe s2):
  wpAny (model X.prog X.w) X.A (eval a X.env) (fun v cn=>wpAny (model X.prog X.w) X.A (eval b X.env) (fun u qe=>wpAny (model X.prog X.w) X.A (f v u) Q X.xe qe) X.xe cn) X.xe s:=by
 refine cI (ha pins s σ H _ I h) fun v s1 ⟨x,H1,I1,r1,q1⟩=>?_
 refine cI (hb pins s1 σ H1 _ I1 q1) fun u s2 ⟨y,H2,I2,r2,q2⟩=>?_
 exact hf v u s2 x y H2 I2 r1 r2 q2
inductive J8(i:Nat)(σ:St)(H:Hp)(Q:VK):Prop
 |mk (v:_) (_:σ[i]?=some (some v)) (_:Q v H):J8 i σ H Q
def tC(v:V):TE:=fun _ H Q=>Q v H
theorem J9{i:Nat}{x:Str}{pos:Pos}(hN:X.N[i]?=some x)(hv:QY X.env.scope x)(hd:(x==("__debug__":Str))=false:=by decide)(Ce:(x==("__classdict__":Str))=false:=by decide):PE X (.Name x pos) (J8 i):=by
 intro pins s σ H Q I h;obtain⟨v,e,h⟩:=h;obtain⟨m,hn,hl⟩:=I.loc;obtain⟨u,r,l⟩:=hl i x v hN e hv;have fin:EP X pins σ Q u s:=⟨v,H,I,r,h⟩
 rcases l with⟨hk,hm⟩|⟨hk,c,hc,IM⟩
 ·exact wpAny_Name (wpAny_loadName_local I.ok.kind hk hn hm fin) hd
 ·rcases hk with hk|hk
  ·exact wpAny_Name (wpAny_loadName_cell I.ok.kind hk hc IM fin) hd
  ·exact wpAny_Name (wpAny_loadName_free I.ok.kind hk hc IM fin Ce) hd
theorem af{i j pos}:PE X (.Constant (.int i) j pos) (tC (.int i)):=fun _ _ _ H _ I h=>wpAny_Constant_int ⟨.int i,H,I.tok _,⟨_,rfl⟩,h⟩
theorem dW{b j pos}:PE X (.Constant (.bool b) j pos) (tC (.bl b)):=fun _ _ _ H _ I h=>Constant_bool ⟨.bl b,H,I,rfl,h⟩
theorem jQ{j pos}:PE X (.Constant .none j pos) (tC .cR):=fun _ _ _ H _ I h=>Constant_none ⟨.cR,H,I,rfl,h⟩
theorem dY{x j pos}:PE X (.Constant (.str x) j pos) (tC (.str x)):=fun _ _ _ H _ I h=>Calls.Constant_str ⟨.str x,H,I.tok _,⟨_,rfl⟩,h⟩
def Gl(X:Cx)(x:Str):Prop:=X.env.kindOf x=some .globalImplicit
theorem ot{E:Value→Shared→Prop}{pins:List (Addr×Obj)}{s:Shared}{σ:St}{H:Hp}{x:Str}{u:Value}{pos:Pos}{Q:Value→Shared→Prop}(I:Inv X pins σ H s)(hg:Gl X x)(hm:X.mg x=some u)(h:Q u s)
  (hd:(x==("__debug__":Str))=false:=by decide):wpAny (model X.prog X.w) X.A (eval (.Name x pos) X.env) Q E s:=
 Calls.Name_function_global I.ok.kind hg (Calls.loadGlobal_global (by rw[I.ok.glob];exact I.mod.glob.keeps I.bk) hm h) hd
theorem lF{E:Value→Shared→Prop}{pins:List (Addr×Obj)}{s:Shared}{σ:St}{H:Hp}{x:Str}{u:Value}{pos:Pos}{Q:Value→Shared→Prop}(I:Inv X pins σ H s)(hg:Gl X x)(hm:X.mg x=none)(hv:bootBuiltins x=some u)(h:Q u s)
  (hn:x≠"__name__":=by decide) (hd:(x==("__debug__":Str))=false:=by decide):wpAny (model X.prog X.w) X.A (eval (.Name x pos) X.env) Q E s:=by
 obtain⟨mb,h1,h2⟩:=I.mod.blt;exact Calls.Name_function_global I.ok.kind hg (Calls.loadGlobal_builtin (by rw[I.ok.glob];exact I.mod.glob.keeps I.bk) hm (by rw[I.ok.blt];exact h1.keeps I.bk) ((h2 x hn).trans hv) h) hd
theorem A8{x:Str}{v:V}{u:Value}{pos:Pos}(hg:Gl X x)(hm:X.mg x=some u)(r:RelV v u)(hd:(x==("__debug__":Str))=false:=by decide):PE X (.Name x pos) (tC v):=
 fun _ _ _ H _ I h=>ot I hg hm ⟨v,H,I,r,h⟩ hd
theorem jq{x:Str}{v:V}{u:Value}{pos:Pos}(hg:Gl X x)(hm:X.mg x=none)(hv:bootBuiltins x=some u)(r:RelV v u)(hn:x≠"__name__":=by decide)(hd:(x==("__debug__":Str))=false:=by decide):PE X (.Name x pos) (tC v):=
 fun _ _ _ H _ I h=>lF I hg hm hv ⟨v,H,I,r,h⟩ hn hd
variable{a b:Expr}{ta tb:TE}{pos:Pos}
def PC(X:Cx)(op:CmpOp)(a b:Expr)(t:TE):Prop:=
 ∀(pins:List (Addr×Obj))(s:Shared)(σ:St)(H:Hp)(Q:VK),Inv X pins σ H s→t σ H Q→
  wpAny (model X.prog X.w) X.A (eval a X.env) (fun v cn=>wpAny (model X.prog X.w) X.A (eval b X.env) (fun u qe=>wpAny (model X.prog X.w) X.A (compareOp op v u) (EP X pins σ Q) X.xe qe) X.xe cn) X.xe s
theorem br(b:Expr){op:CmpOp}(h:op≠ .In)(h2:op≠ .NotIn):behindInMarks op b=false:=by
 have e1:(op==CmpOp.In)=false:=by cases op<;>first|rfl|exact absurd rfl h
 have e2:(op==CmpOp.NotIn)=false:=by cases op<;>first|rfl|exact absurd rfl h2
 cases b<;>simp[behindInMarks,e1,e2]
def Q6(ta:TE):TE:=fun σ H Q=>ta σ H fun x H1=>Q (.bl (decide (x= .cR))) H1
def Nk(ta:TE):TE:=fun σ H Q=>ta σ H fun x H1=>Q (.bl (!decide (x= .cR))) H1
theorem RelV.yq{x:V}{v:Value}(r:RelV x v):(v==Value.none)=decide (x= .cR):=by
 cases x with
 |cR=>cases r;rfl
 |bl _=>cases r;rfl
 |int _=>obtain⟨t,rfl⟩:=r;rfl
 |str _=>obtain⟨t,rfl⟩:=r;rfl
 |Cb _=>obtain⟨t,rfl⟩:=r;rfl
 |II _=>obtain⟨t,rfl⟩:=r;rfl
 |ref _=>cases r;rfl
 |ty _=>cases r;rfl
theorem lG{j pos'}(ha:PE X a ta):PC X .Is a (.Constant .none j pos') (Q6 ta):=by
 intro pins s σ H Q I h;refine cI (ha pins s σ H _ I h) fun v s1 ⟨x,H1,I1,r1,q1⟩=>?_
 exact Constant_none (is_none_gen ⟨.bl _,H1,I1,by rw[r1.yq];rfl,q1⟩)
theorem ow{j pos'}(ha:PE X a ta):PC X .IsNot a (.Constant .none j pos') (Nk ta):=by
 intro pins s σ H Q I h;refine cI (ha pins s σ H _ I h) fun v s1 ⟨x,H1,I1,r1,q1⟩=>?_
 exact Constant_none (isnot_none_gen ⟨.bl _,H1,I1,by rw[r1.yq];rfl,q1⟩)
inductive Nl(x:V)(H:Hp)(Q:Bool→Hp→Prop):Prop
 |mk (c:Bool) (_:x= .bl c) (_:Q c H):Nl x H Q
def tB(t:TE):TT:=fun σ H Q=>t σ H fun x H1=>Nl x H1 Q
theorem zO{op:CmpOp}{t:TE}(h:PC X op a b t)(h1:behindInMarks op b=false:=by first|exact br _ (ZD) (ZD)|rfl):PE X (.Compare a [op] [b] pos) t:=fun pins s σ H Q I hw=>wpAny_Compare1 (h pins s σ H Q I hw) h1
theorem eG{op:CmpOp}{t:TE}(h:PC X op a b t)(h1:behindInMarks op b=false:=by first|exact br _ (ZD) (ZD)|rfl):PT X (.Compare a [op] [b] pos) (tB t):=by
 intro pins s σ H Q I hw;refine wpAny_isTrue_Compare1 (cI (h pins s σ H _ I hw) fun v s1 h1=>cI h1 fun u s2 h2=>cI h2 fun c s3 ⟨x,H1,I1,r1,q1⟩=>?_) h1;obtain⟨d,rfl,q⟩:=q1;cases r1;exact wpAny_truthy_bool ⟨H1,I1,q⟩
theorem bZ{e:Expr}{t:TE}(h:PE X e t)(he:∀whole,isTrue e X.env whole=(do let v←whole;standAt e.pos;holding [v] (truthy v)):=by intro _;rfl):PT X e (tB t):=by
 intro pins s σ H Q I hw;refine isTrue_plain (cI (h pins s σ H _ I hw) fun v s1 ⟨x,H1,I1,r1,q1⟩=>?_) (he _);obtain⟨d,rfl,q⟩:=q1;cases r1;exact wpAny_truthy_bool ⟨H1,I1,q⟩
variable{tA PD:TT}{rest:List Expr}
def Q7(t u:TT):TT:=fun σ H Q=>t σ H fun c H1=>if c=true then u σ H1 Q else Q false H1
def Wo(t u:TT):TT:=fun σ H Q=>t σ H fun c H1=>if c=true then Q true H1 else u σ H1 Q
def Q8(t:TT):TT:=fun σ H Q=>t σ H fun c H1=>Q (!c) H1
theorem pw_and1(ha:PT X a tA):PW X (.BoolOp .And [a] pos) tA:=by
 intro wh pins s σ H Q I h;refine isTrue_and (cI (ha pins s σ H Q I h) fun c s1 e=>?_);cases c with
 |true=>exact isTrue_and_nil e
 |false=>exact e
theorem pw_or1(ha:PT X a tA):PW X (.BoolOp .Or [a] pos) tA:=by
 intro wh pins s σ H Q I h;refine isTrue_or (cI (ha pins s σ H Q I h) fun c s1 e=>?_);cases c with
 |false=>exact isTrue_or_nil e
 |true=>exact e
theorem pw_and(ha:PT X a tA)(hb:PW X (.BoolOp .And (b::rest) pos) PD):PW X (.BoolOp .And (a::b::rest) pos) (Q7 tA PD):=by
 intro wh pins s σ H Q I h;refine isTrue_and (cI (ha pins s σ H _ I h) fun c s1 ⟨H1,I1,q1⟩=>?_);cases c with
 |true=>exact hb wh pins s1 σ H1 Q I1 q1
 |false=>exact⟨H1,I1,q1⟩
theorem pw_or(ha:PT X a tA)(hb:PW X (.BoolOp .Or (b::rest) pos) PD):PW X (.BoolOp .Or (a::b::rest) pos) (Wo tA PD):=by
 intro wh pins s σ H Q I h;refine isTrue_or (cI (ha pins s σ H _ I h) fun c s1 ⟨H1,I1,q1⟩=>?_);cases c with
 |true=>exact⟨H1,I1,q1⟩
 |false=>exact hb wh pins s1 σ H1 Q I1 q1
theorem cO(ha:PT X a tA):PT X (.UnaryOp .Not a pos) (Q8 tA):=by
 intro pins s σ H Q I h;exact isTrue_not (ha pins s σ H (fun c H1=>Q (!c) H1) I h)
def Nm(ta tb:TE):TE:=fun σ H Q=>ta σ H fun x H1=>∃c,x= .bl c∧if c=true then tb σ H1 Q else Q (.bl false) H1
def Nn(ta:TE):TE:=fun σ H Q=>ta σ H fun x H1=>∃c,x= .bl c∧Q (.bl (!c)) H1
theorem v_{op}{t:TE}(h:PE X a t):PE X (.BoolOp op [a] pos) t:=fun pins s σ H Q I hw=>BoolOp_one (h pins s σ H Q I hw)
theorem wb(ha:PE X a ta)(hb:PE X (.BoolOp .And (b::rest) pos) tb):PE X (.BoolOp .And (a::b::rest) pos) (Nm ta tb):=by
 intro pins s σ H Q I h;refine BoolOp_and (cI (ha pins s σ H _ I h) fun v s1 ⟨x,H1,I1,r1,q1⟩=>?_);obtain⟨c,rfl,q1⟩:=q1;cases r1;refine wpAny_truthy_bool ?_;cases c with
 |true=>exact hb pins s1 σ H1 Q I1 q1
 |false=>exact⟨.bl false,H1,I1,rfl,q1⟩
theorem J_(ha:PE X a ta):PE X (.UnaryOp .Not a pos) (Nn ta):=by
 intro pins s σ H Q I h;refine UnaryOp_ (cI (ha pins s σ H _ I h) fun v s1 ⟨x,H1,I1,r1,q1⟩=>?_);obtain⟨c,rfl,q1⟩:=q1;cases r1;exact not_of (wpAny_truthy_bool ⟨.bl (!c),H1,I1,rfl,q1⟩)
def Wq(t:TT)(ta tb:TE):TE:=fun σ H Q=>t σ H fun c H1=>if c=true then ta σ H1 Q else tb σ H1 Q
theorem oz{c:Expr}(hc:PT X c tA)(ha:PE X a ta)(hb:PE X b tb):PE X (.IfExp c a b pos) (Wq tA ta tb):=by
 intro pins s σ H Q I h;refine wpAny_IfExp (cI (hc pins s σ H _ I h) fun d s1 ⟨H1,I1,q1⟩=>?_);cases d with
 |true=>exact ha pins s1 σ H1 Q I1 q1
 |false=>exact hb pins s1 σ H1 Q I1 q1
end
def iD(K:PySem.W.Frag)(H:Hp)(a:Addr)(xs:List V):Prop:=
 Rd H a (.lst xs)∨
  ∃(o:Obj)(its:Array Value)(n:Nat),K.lookup a=some o∧o.cls= .type "list"∧o.dict=none∧o.data= .seq its n∧its.size≤sizeLine∧Vals xs its.toList
def DZ(K:PySem.W.Frag)(H:Hp)(a:Addr)(xs:List V):Prop:=
 Rd H a (.tup xs)∨
  ∃(o:Obj)(its:Array Value)(n:Nat),K.lookup a=some o∧o.cls= .type "tuple"∧o.data= .seq its n∧its.size≤sizeLine∧Vals xs its.toList
def Q9:Value→Option V
 | .none=>some .cR
 | .bool b=>some (.bl b)
 | .int i _=>some (.int i)
 | .str x _=>some (.str x)
 | .bytes b _=>some (.Cb b)
 | .float b _=>some (.II b)
 | .ref a=>some (.ref a)
 | .type n=>some (.ty n)
 | _=>none
theorem RelV.abs{x:V}{u:Value}(r:RelV x u):Q9 u=some x:=by
 cases x with
 |cR=>cases r;rfl
 |bl _=>cases r;rfl
 |int _=>obtain⟨t,rfl⟩:=r;rfl
 |str _=>obtain⟨t,rfl⟩:=r;rfl
 |Cb _=>obtain⟨t,rfl⟩:=r;rfl
 |II _=>obtain⟨t,rfl⟩:=r;rfl
 |ref _=>cases r;rfl
 |ty _=>cases r;rfl
theorem RelV.inj{x y:V}{u:Value}(r:RelV x u)(q:RelV y u):x=y:=Z' (r.abs.symm.trans q.abs)
theorem Vals.inj:∀{xs ys:List V}{us:List Value},Vals xs us→Vals ys us→xs=ys
 | _,_,_, .nil, .nil=>rfl
 | _,_,_, .cons r t, .cons r' t'=>by rw[r.inj r',Vals.inj t t']
section
variable{X:Cx}{pins:List (Addr×Obj)}{σ:St}{H:Hp}{s:Shared}{a:Addr}{xs ys:List V}
theorem iD.of{K:PySem.W.Frag}(h:H a=some (.lst xs)):iD K H a xs:= .inl (.inl h)
theorem DZ.of{K:PySem.W.Frag}(h:H a=some (.tup xs)):DZ K H a xs:= .inl (.inl h)
theorem Inv.list(I:Inv X pins σ H s)(h:iD X.K H a xs):∃its:List Value,Vals xs its∧PlainL s.heap a its.toArray∧xs.length≤sizeLine:=by
 rcases h with h|⟨o,its,n,hk,hc,hd,hs,hz,r⟩
 ·obtain⟨z,its,n,r,e⟩:=h.ok I.bY;exact⟨its,r,⟨_,n,e,rfl,rfl,rfl⟩,z⟩
 ·refine⟨its.toList,r,⟨o,n,I.qd a o hk,hc,hd,by simpa using hs⟩,?_⟩;have e:=r.length;simp only[Array.length_toList]at e;omega
theorem Inv.tuple(I:Inv X pins σ H s)(h:DZ X.K H a xs):∃its:List Value,Vals xs its∧IsTup s.heap a its.toArray∧xs.length≤sizeLine:=by
 rcases h with h|⟨o,its,n,hk,hc,hs,hz,r⟩
 ·obtain⟨z,its,r,p⟩:=h.ok I.bY;exact⟨its,r,p,z⟩
 ·refine⟨its.toList,r,⟨o,I.qd a o hk,hc,n,by simpa using hs⟩,?_⟩;have e:=r.length;simp only[Array.length_toList]at e;omega
theorem Inv.yr(I:Inv X pins σ H s)(h:iD X.K H a xs)(h':iD X.K H a ys):xs=ys:=by
 obtain⟨its,r,⟨o,n,e,_,_,d⟩,_⟩:=I.list h;obtain⟨its',r',⟨o',n',e',_,_,d'⟩,_⟩:=I.list h';rw[e]at e';cases e';rw[d]at d';injection d' with d1 _;have:its=its':=by simpa using congrArg Array.toList d1
 subst this;exact r.inj r'
end
abbrev Cx.Wr(X:Cx)(E:Value→Shared→Prop):Cx:={X with xe:=E}
section
variable{X:Cx}{pins:List (Addr×Obj)}{σ:St}{H:Hp}{s:Shared}{E:Value→Shared→Prop}
end
section
variable{X:Cx}{st:Stmt}{rest:List Stmt}{t u:TS}{e:Expr}{te:TE}{pos:Pos}
def Np:TS:=fun D σ H=>D.nx σ H
def Q_(t u:TS):TS:=fun D σ H=>t {D with nx:=u D} σ H
theorem aQ:Cd X [] Np:=fun _ _ σ H _ I h=>wpAny_execs_nil ⟨σ,H,I,h⟩
theorem av(h1:PS X st t)(h2:Cd X rest u):Cd X (st::rest) (Q_ t u):=by
 intro pins s σ H D I h;refine wpAny_execs_cons (cI (h1 pins s σ H {D with nx:=u D} I h) fun f s1 q=>?_);cases f with
 |next=>
  obtain⟨bq,H',I',q⟩:=q;exact h2 pins s1 bq H' D I' q
 |ret v=>exact q
 |brk=>exact q
 |cont=>exact q
theorem ao(h1:PS X st t):Cd X [st] t:=by
 intro pins s σ H D I h;refine wpAny_execs_cons (cI (h1 pins s σ H D I h) fun f s1 q=>?_);cases f with
 |next=>exact wpAny_execs_nil q
 |ret v=>exact q
 |brk=>exact q
 |cont=>exact q
theorem Inv.quiet{pins:List (Addr×Obj)}{σ:St}{H:Hp}{s:Shared}(I:Inv X pins σ H s):interactive X.env=false:=by simp[interactive,I.ok.kind]
def Nq(te:TE):TS:=fun D σ H=>te σ H fun _ H1=>D.nx σ H1
theorem a9(he:PE X e te)(hs:swapsWith e none pos.line X.env=pure false:=by rfl):PS X (.Expr e pos) (Nq te):=by
 intro pins s σ H D I h;exact wpAny_Expr_any (cI (he pins s σ H _ I h) fun v s1 ⟨x,H1,I1,r1,q1⟩=>⟨σ,H1,I1,q1⟩) I.quiet hs
def Ra(te:TE):TS:=fun D σ H=>te σ H D.rt
theorem aM(he:PE X e te):PS X (.Return (some e) pos) (Ra te):=by
 intro pins s σ H D I h;exact wpAny_Return_some (cI (he pins s σ H _ I h) fun v s1 ⟨x,H1,I1,r1,q1⟩=>⟨x,σ,H1,I1,r1,q1⟩)
def Rb(c:TT)(t u:TS):TS:=fun D σ H=>c σ H fun b H1=>if b=true then t D σ H1 else u D σ H1
theorem a_{c:Expr}{a b:List Stmt}{tc:TT}(hc:PT X c tc)(ha:Cd X a t)(hb:Cd X b u):PS X (.If c a b pos) (Rb tc t u):=by
 intro pins s σ H D I h;refine wpAny_If (cI (hc pins s σ H _ I h) fun d s1 ⟨H1,I1,q1⟩=>?_);cases d with
 |true=>exact ha pins s1 σ H1 D I1 q1
 |false=>exact hb pins s1 σ H1 D I1 q1
end
abbrev TG:=V→St→Hp→(St→Hp→Prop)→Prop
abbrev IP:=List V→St→Hp→(St→Hp→Prop)→Prop
def PG(X:Cx)(target:Expr)(t:TG):Prop:=
 ∀(pins:List (Addr×Obj))(s:Shared)(σ:St)(H:Hp)(v:V)(u:Value)(Q:St→Hp→Prop),Inv X pins σ H s→RelV v u→t v σ H Q→
  wpAny (model X.prog X.w) X.A (assign target X.env u) (fun _ s'=>∃bq H',Inv X pins bq H' s'∧Q bq H') X.xe s
def Nr(X:Cx)(ts:List Expr)(t:IP):Prop:=
 ∀(pins:List (Addr×Obj))(s:Shared)(σ:St)(H:Hp)(vs:List V)(us:List Value)(Q:St→Hp→Prop),Inv X pins σ H s→Vals vs us→t vs σ H Q→
  wpAny (model X.prog X.w) X.A (assignInOrder ((assignEach ts X.env).map (·.2)) us) (fun _ s'=>∃bq H',Inv X pins bq H' s'∧Q bq H') X.xe s
abbrev J':=V→V→V→Hp→(Hp→Prop)→Prop
def Nt(X:Cx)(t:J'):Prop:=
 ∀(pins:List (Addr×Obj))(s:Shared)(σ:St)(H:Hp)(o i v:V)(ov iv u:Value)(Q:Hp→Prop),Inv X pins σ H s→RelV o ov→RelV i iv→RelV v u→t o i v H Q→
  wpAny (model X.prog X.w) X.A (setItem ov iv u) (fun _ s'=>∃H',Inv X pins σ H' s'∧Q H') X.xe s
section
variable{X:Cx}{pos:Pos}
def A9(i:Nat):TG:=fun v σ H Q=>Q (σ.set i (some v)) H
theorem aJ{i:Nat}{x:Str}(hN:X.N.Nodup)(hi:X.N[i]?=some x)(hx:Loc X.env.scope x)(hf:X.fn x=true∨X.env.scope.names.lookup x=some .local:=by first|exact .inl rfl|exact .inr rfl|assumption):PG X (.Name x pos) (A9 i):=by
 intro pins s σ H v u Q I r h;exact wpAny_assign_Name (yp I hN hi hx r (fun s' I'=>⟨_,H,I',h⟩) hf)
def Rg:IP:=fun vs σ H Q=>vs=[]∧Q σ H
def Nu(t:TG)(u:IP):IP:=fun vs σ H Q=>∃v r,vs=v::r∧t v σ H fun bq H'=>u r bq H' Q
theorem ft:Nr X [] Rg:=by
 intro pins s σ H vs us Q I r h;obtain⟨e,h⟩:=h;subst e;cases r;exact assignInOrder_nil ⟨σ,H,I,h⟩
theorem aX{e:Expr}{es:List Expr}{t:TG}{u:IP}(h1:PG X e t)(h2:Nr X es u)
  (hs:(assignEach (e::es) X.env).map (·.2)=assign e X.env::(assignEach es X.env).map (·.2):=by rfl):Nr X (e::es) (Nu t u):=by
 intro pins s σ H vs us Q I r h;obtain⟨v,vr,e1,h⟩:=h;subst e1;cases r with
 |cons r rr=>
  rw[hs];refine assignInOrder_cons (cI (h1 pins s σ H _ _ _ I r h) fun _ s1 ⟨Mn,H1,I1,q1⟩=>?_);exact h2 pins s1 Mn H1 _ _ Q I1 rr q1
inductive Ka(K:PySem.W.Frag)(n:Nat)(t:IP)(v:V)(σ:St)(H:Hp)(Q:St→Hp→Prop):Prop
 |mk (a:_) (xs:_) (_:v= .ref a) (_:DZ K H a xs) (_:xs.length=n) (_:t xs σ H Q):Ka K n t v σ H Q
theorem Kb{es:List Expr}{k:Nat}{t:IP}{n:Nat}(hc:X.calm=true)(h:Nr X es t)
  (hn:(assignEach es X.env).length=n:=by rfl) (vk:(assignEach es X.env).findIdx? (·.1)=none:=by rfl):PG X (.Tuple es k pos) (Ka X.K n t):=by
 intro pins s σ H v u Q I r hw;obtain⟨a,xs,e1,hq,hl,hw⟩:=hw;subst e1;cases r;obtain⟨its,rv,ht,hz⟩:=I.tuple hq;refine assign_Tuple_tuple (I.ok.hd hc) ht (by simp[hn,←hl,rv.length]) vk fun h' hx=>?_
 have I1:Inv X pins σ H {s with heap:=h'}:=I.kept (t':=s.toks) fun b o e=>hx b o (Nat.ne_of_lt (Κ e)) e
 exact h pins _ σ H xs _ Q I1 (by simpa using rv) hw
def Rh(to ti:TE)(t:J'):TG:=fun v σ H Q=>to σ H fun o H1=>ti σ H1 fun i H2=>t o i v H2 fun H3=>Q σ H3
theorem zP{o i:Expr}{to ti:TE}{t:J'}(ho:PE X o to)(hi:PE X i ti)(hs:Nt X t)
  (ha:∀v,assign (.Subscript o i pos) X.env v=(do
   let ov←holding [v] (eval o X.env)
   let iv←holding [v,ov] (eval i X.env)
   standAt pos
   holding [v,ov,iv] (setItem ov iv v)
   release [v,ov,iv] []):=by intro _;rfl):PG X (.Subscript o i pos) (Rh to ti t):=by
 intro pins s σ H v u Q I r h;rw[ha];refine wpAny_bind (wpAny_holding (cI (ho pins s σ H _ I h) fun ov s1 ⟨x,H1,I1,r1,q1⟩=>?_));refine wpAny_bind (wpAny_holding (cI (hi pins s1 σ H1 _ I1 q1) fun iv s2 ⟨y,H2,I2,r2,q2⟩=>?_));refine wpAny_bind (wpAny_standAt (Ζ (wpAny_holding (cI (hs pins s2 σ H2 x y v ov iv u _ I2 r1 r2 r q2) fun _ s3 ⟨H3,I3,q3⟩=>?_))));exact wpAny_release ⟨σ,H3,I3,q3⟩
def Kc(te:TE)(g:TG):TS:=fun D σ H=>te σ H fun x H1=>g x σ H1 D.nx
theorem sM{tg e:Expr}{te:TE}{g:TG}(he:PE X e te)(hg:PG X tg g)(hs:swapsWithSole [tg] e pos.line X.env=pure false:=by rfl)(hw:swappedStores [tg] e X.env=pure none:=by rfl)
  (h1:(assignEach [tg] X.env).map (·.2)=[assign tg X.env]:=by rfl):PS X (.Assign [tg] e pos) (Kc te g):=by
 intro pins s σ H D I h;refine wpAny_Assign_stores (cI (he pins s σ H _ I h) fun v s1 ⟨x,H1,I1,r1,q1⟩=>?_) hs hw;rw[h1];exact cI (hg pins s1 σ H1 x v _ I1 r1 q1) fun _ s2 q=>q
theorem aH{i:Nat}{x:Str}{e:Expr}{te:TE}{pos':Pos}(hN:X.N.Nodup)(hi:X.N[i]?=some x)(hx:Loc X.env.scope x)(he:PE X e te)(hs:swapsWith e (some (.Name x pos')) pos.line X.env=pure false:=by rfl)(hf:X.fn x=true∨X.env.scope.names.lookup x=some .local:=by first|exact .inl rfl|exact .inr rfl|assumption):
  PS X (.Assign [.Name x pos'] e pos) (Kc te (A9 i)):=by
 intro pins s σ H D I h;refine wpAny_Assign_Name (cI (he pins s σ H _ I h) fun v s1 ⟨y,H1,I1,r1,q1⟩=>?_) hs;exact yp I1 hN hi hx r1 (fun s2 I2=>⟨_,H1,I2,q1⟩) hf
end
section
variable{X:Cx}{pos:Pos}
def Kd(c:TT)(tb:TS):TS:=fun D σ H=>∃W:Nat→St→Hp→Prop,(∃m,W m σ H)∧∀m σ H,W m σ H→
 c σ H fun b H1=>if b=true then ∃N:St→Hp→Prop,(∀bq H',N bq H'→∃m',m'<m∧W m' bq H')∧tb {D with nx:=N,ct:=N,bk:=D.nx} σ H1 else D.nx σ H1
theorem sN{c:Expr}{body:List Stmt}{tc:TT}{tb:TS}(hp:PassesOwn (model X.prog X.w) X.A X.env X.xe)(hc:PT X c tc)(hb:Cd X body tb):PS X (.While c body [] pos) (Kd tc tb):=by
 intro pins s σ H D I h;obtain⟨W,⟨m0,w0⟩,turn⟩:=h;refine wpAny_While (codeAny_whileLoop (fun n s'=>∃bq H',Inv X pins bq H' s'∧W n bq H') ?_ m0 ⟨σ,H,I,w0⟩);rintro n s1 ⟨Mn,H1,I1,w1⟩;refine wpAny_passesOwn hp (cI (hc pins s1 Mn H1 _ I1 (turn n Mn H1 w1)) fun b s2 ⟨H2,I2,q2⟩=>?_);cases b with
 |true=>
  obtain⟨N,hN,q2⟩:=q2;rw[if_pos rfl];refine wpAny_passesOwn hp (cI (hb pins s2 Mn H2 _ I2 q2) fun f s3 q3=>?_);cases f with
  |next=>
   obtain⟨D0,H3,I3,n3⟩:=q3;obtain⟨m',hm,w3⟩:=hN D0 H3 n3;exact⟨m',hm,D0,H3,I3,w3⟩
  |cont=>
   obtain⟨D0,H3,I3,n3⟩:=q3;obtain⟨m',hm,w3⟩:=hN D0 H3 n3;exact⟨m',hm,D0,H3,I3,w3⟩
  |brk=>exact q3
  |ret v=>exact q3
 |false=>
  rw[Z5 Bool.false_ne_true];exact wpAny_execs_nil ⟨Mn,H2,I2,q2⟩
end
structure It where
 go:Nat→Hp→Prop
 GK:Nat→Hp→V→Hp→Prop
 stop:Nat→Hp→Prop
def iz(X:Cx)(pins:List (Addr×Obj))(H:Hp)(b:Addr):Prop:=
 H b=none∧b≠X.env.locals∧b∉X.fs∧(b∈X.ex∨X.dF.heap.objs.size≤b)∧(∀x c,X.env.cells.lookup x=some c→c≠b)∧∀p∈X.pn++pins,p.1≠b
theorem Inv.uC{X:Cx}{pins:List (Addr×Obj)}{σ:St}{H H':Hp}{s:Shared}{b:Addr}(I:Inv X pins σ H s)(hb:s.heap.objs.size≤b)(hn:H' b=none):iz X pins H' b:=by
 refine⟨hn,Nat.ne_of_gt (Nat.lt_of_lt_of_le I.lt hb),I.Q2 hb, .inr (Nat.le_trans I.sz hb),fun x c e z=>?_,fun p hp z=>?_⟩
 ·obtain⟨v,q⟩:=I.cell x c e;exact Zn (Nat.lt_of_lt_of_le q.lt (by rw[z];exact hb)) (Nat.lt_irrefl _)
 ·exact Zn (Nat.lt_of_lt_of_le (Κ (I.pin p hp).1) (by rw[z];exact hb)) (Nat.lt_irrefl _)
structure Turn(P:Program)(w:World)(K:PySem.W.Frag)(tg:Expr)(J:It)(fp:List Addr)(it:Addr)(tn:Nat→Heap→Prop):Prop where
 mem:it∈fp
 obj:∀i h,tn i h→∀b∈fp,∃o,h.get? b=some o∧∀v,o.data≠ .cell v
 keep:∀i h h',tn i h→(∀b∈fp,∀o,h.get? b=some o→h'.get? b=some o)→tn i h'
 item:∀(X:Cx),X.prog=P→X.w=w→X.K=K→X.calm=true→∀(i:Nat)(pins:List (Addr×Obj))(s:Shared)(σ:St)(H:Hp)(E:Value→Shared→Prop),Inv X pins σ H s→(∀b∈fp,iz X pins H b)→tn i s.heap→J.go i H→
  wpAny (model P w) X.A (pyNext (.ref it)) (fun r s1=>∃u,r=some u∧
   wpAny (model P w) X.A (letOwnedTupleGo tg (.ref it) u) (fun _ s2=>∃x H',Inv X pins σ H' s2∧RelV x u∧J.GK i H x H'∧tn (i+1) s2.heap∧∀b∈fp,H' b=none) E s1) E s
 done:∀(X:Cx),X.prog=P→X.w=w→X.K=K→X.calm=true→∀(i:Nat)(pins:List (Addr×Obj))(s:Shared)(σ:St)(H:Hp)(E:Value→Shared→Prop),Inv X pins σ H s→(∀b∈fp,iz X pins H b)→tn i s.heap→J.stop i H→
  wpAny (model P w) X.A (pyNext (.ref it)) (fun r s1=>r=none∧Inv X pins σ H s1) E s
 self:∀(A:Around)(i:Nat)(s:Shared)(Q:Value→Shared→Prop)(E:Value→Shared→Prop),tn i s.heap→Q (.ref it) s→wpAny (model P w) A (pyIter (.ref it)) Q E s
abbrev TI:=St→Hp→(It→Hp→Prop)→Prop
def Ri(X:Cx)(pins:List (Addr×Obj))(σ:St)(tg:Expr)(R:It→Hp→Prop)(Rj:Value)(s2:Shared):Prop:=
 ∃(it:Addr)(fp:List Addr)(tn:Nat→Heap→Prop)(J:It)(H':Hp),Rj= .ref it∧Inv X pins σ H' s2∧Turn X.prog X.w X.K tg J fp it tn∧tn 0 s2.heap∧(∀b∈fp,iz X pins H' b)∧R J H'
def PI(X:Cx)(tg iter:Expr)(wi:TI):Prop:=
 ∀(pins:List (Addr×Obj))(s:Shared)(σ:St)(H:Hp)(R:It→Hp→Prop),Inv X pins σ H s→wi σ H R→
  wpAny (model X.prog X.w) X.A (eval iter X.env) (fun v s1=>wpAny (model X.prog X.w) X.A (pyIter v) (Ri X pins σ tg R) X.xe s1) X.xe s
theorem yt{M:Model}{A:Around}{E:Value→Shared→Prop}{s:Shared}{tg:Expr}{it:Addr}{u:Value}{o:Obj}{n:String}{vs:Array Value}{Q:Unit→Shared→Prop}(ho:s.heap.get? it=some o)(hc:o.cls= .type n)(hd:o.data= .fields vs)
  (hn:["enumerate","zip","dict_itemiterator","dict_reverseitemiterator","odict_iterator","itertools.zip_longest","itertools.pairwise"].contains n=false) (hQ:Q () s):wpAny M A (letOwnedTupleGo tg (.ref it) u) Q E s:=by
 unfold letOwnedTupleGo;cases tg<;>first
  |exact Ε hQ
  |(cases u<;>first
    |exact Ε hQ
    |(refine wpAny_bind (wpAny_load ho ?_)
      rw[hc,hd];show wpAny M A (if (["enumerate","zip","dict_itemiterator","dict_reverseitemiterator","odict_iterator","itertools.zip_longest","itertools.pairwise"].contains n&&vs[0]?==some (rawInt _))=true then _ else _) Q E s;rw[Z5 (by intro h;rw[hn,Bool.false_and]at h;cases h)];exact Ε hQ))
def Mo(K:PySem.W.Frag)(a:Addr):It:=
 ⟨fun i H=>∃xs x,iD K H a xs∧xs[i]?=some x,fun i H x H'=>H'=H∧∀xs,iD K H a xs→xs[i]?=some x,fun i H=>∃xs,iD K H a xs∧xs.length≤i⟩
def Ke(lo:Int)(n:Nat):It:=⟨fun i _=>i<n,fun i H x H'=>H'=H∧x= .int (lo+i),fun i _=>n≤i⟩
theorem Cf{P:Program}{w:World}{K:PySem.W.Frag}{tg:Expr}(a it:Addr):Turn P w K tg (Mo K a) [it] it (fun i h=>h.IsListIter it a i) where
 mem:=ZF
 obj:=fun i h st b hb=>by
  have e:b=it:=by simpa using hb
  subst e;obtain⟨o,e,c,d⟩:=st;exact⟨o,e,fun v z=>by rw[d]at z;cases z⟩
 keep:=fun i h h' st k=>st.at fun o e=>k it (ZF) o e
 item:=by
  intro X hP hw hK hc i pins s σ H E I hf st hg;subst hP hw hK;obtain⟨xs,x,hq,hx⟩:=hg;obtain⟨its,rv,p,hz⟩:=I.list hq;obtain⟨u,hu,ru⟩:=rv.get hx;obtain⟨f0,f1,f2,f3,f4,f5⟩:=hf it (ZF);refine wpAny_pyNext_list_item st p.isList (x:=u) (by simpa using hu) fun h' aT sb=>?_
  have I1:Inv X pins σ H {s with heap:=h'}:=I.turned (t':=s.toks) (fun b o hb e=>(sb.2 b hb).trans e) f0 f1 f3 f4 f5;obtain⟨o,e,c,d⟩:=id aT;exact⟨u,rfl,yt (s:={s with heap:=h'}) e c d (ZD) ⟨x,H,I1,ru,⟨rfl,fun ys hy=>by rw[I.yr hy hq];exact hx⟩,aT,fun b hb=>(hf b hb).1⟩⟩
 done:=by
  intro X hP hw hK hc i pins s σ H E I hf st hg;subst hP hw hK;obtain⟨xs,hq,hx⟩:=hg;obtain⟨its,rv,p,hz⟩:=I.list hq;obtain⟨f0,f1,f2,f3,f4,f5⟩:=hf it (ZF);have hl:=rv.length;exact wpAny_pyNext_list_end (I.ok.hd hc) st p.isList (by simp;omega) fun h' eb=>⟨rfl,I.turned (t':=s.toks) (fun b o hb e=>eb b o hb e) f0 f1 f3 f4 f5⟩
 self:=fun _ _ _ _ _ st h=>wpAny_pyIter_listiter st h
theorem zQ{P:Program}{w:World}{K:PySem.W.Frag}{tg:Expr}(it:Addr)(lo:Int)(n:Nat):Turn P w K tg (Ke lo n) [it] it (fun i h=>IsRangeIter h it (lo+(i:Nat)*1) ((n:Int)-(i:Nat)) 1) where
 mem:=ZF
 obj:=fun i h st b hb=>by
  have e:b=it:=by simpa using hb
  subst e;exact⟨_,st,fun v z=>by
   have z':Data.fields _=Data.cell v:=z;cases z'⟩
 keep:=fun i h h' st k=>k it (ZF) _ st
 item:=by
  intro X hP hw hK hc i pins s σ H E I hf st hg;subst hP hw hK;obtain⟨f0,f1,f2,f3,f4,f5⟩:=hf it (ZF);have W:=Walks.range (prog:=X.prog) (w:=X.w) (I.ok.hd hc) it lo 1 n;refine W.item i s _ _ hg st fun v h' tk hv aT kk=>?_
  obtain⟨t,rfl⟩:=hv;have I1:Inv X pins σ H {s with heap:=h',toks:=tk}:=I.turned (fun b o hb e=>kk b o (by simpa using hb) e) f0 f1 f3 f4 f5;refine⟨_,rfl,yt (s:={s with heap:=h',toks:=tk}) (n:="range_iterator") aT rfl rfl (ZD) ⟨.int (lo+i),H,I1,⟨t,?_⟩,⟨rfl,rfl⟩,aT,fun b hb=>(hf b hb).1⟩⟩;rw[Int.mul_one]
 done:=by
  intro X hP hw hK hc i pins s σ H E I hf st hg;subst hP hw hK;obtain⟨f0,f1,f2,f3,f4,f5⟩:=hf it (ZF);exact wpAny_pyNext_range_end (I.ok.hd hc) st (by have:n≤i:=hg;omega) fun h' eb=>⟨rfl,I.turned (t':=s.toks) (fun b o hb e=>eb b o hb e) f0 f1 f3 f4 f5⟩
 self:=fun _ _ _ _ _ st h=>wpAny_pyIter_rangeiter st h
section
variable{X:Cx}{tg:Expr}
def IQ(K:PySem.W.Frag)(tl:TE):TI:=fun σ H R=>tl σ H fun x H1=>∃a,x= .ref a∧(∃xs,iD K H1 a xs)∧R (Mo K a) H1
theorem GL{l:Expr}{tl:TE}(hl:PE X l tl):PI X tg l (IQ X.K tl):=by
 intro pins s σ H R I h;refine cI (hl pins s σ H _ I h) fun v s1 ⟨x,H1,I1,r1,q1⟩=>?_
 obtain⟨a,e,⟨xs,hq⟩,q⟩:=q1;subst e;cases r1;obtain⟨its,rv,p,hz⟩:=I1.list hq;refine wpAny_pyIter_list p.isList ?_;refine⟨s1.heap.objs.size,[s1.heap.objs.size],_,_,H1,rfl,I1.kept (t':=s1.toks) fun b o e=>Z6 e,Cf a _,⟨_,Heap.get?_push_size _ rfl,rfl,rfl⟩,fun b hb=>?_,q⟩;have e:b=s1.heap.objs.size:=by simpa using hb
 subst e;exact I1.uC Λ (I1.bY.fresh Λ)
theorem D1{pins:List (Addr×Obj)}{σ:St}{H:Hp}{s:Shared}{R:It→Hp→Prop}{E:Value→Shared→Prop}{lo hi:Int}{t u v:Tok}{tk:Nat}(I:Inv X pins σ H s)(h1:-(2^62)≤lo)(h2:lo<2^62)(h3:-(2^62)≤hi)(h4:hi<2^62)
  (q:R (Ke lo (hi-lo).toNat) H):wpAny (model X.prog X.w) X.A (pyIter (.ref s.heap.objs.size)) (Ri X pins σ tg R) E {s with heap:=s.heap.push {cls:= .type "range",data:= .fields #[.int lo t, .int hi u, .int 1 v]},toks:=tk}:=by
 refine wpAny_pyIter_range (IsRange.new ..) (small_one h1 h2 h3 h4) ?_;have I1:Inv X pins σ H {s with heap:=s.heap.push {cls:= .type "range",data:= .fields #[.int lo t, .int hi u, .int 1 v]},toks:=tk}:=I.kept fun b o e=>Z6 e
 refine⟨(s.heap.push {cls:= .type "range",data:= .fields #[.int lo t, .int hi u, .int 1 v]}).objs.size,[(s.heap.push {cls:= .type "range",data:= .fields #[.int lo t, .int hi u, .int 1 v]}).objs.size],_,_,H,rfl,
  I1.kept (t':=tk) fun b o e=>Z6 e,zQ _ lo (hi-lo).toNat,?_,fun b hb=>?_,q⟩
 ·have e1:lo+((0:Nat):Int)*1=lo:=ZF;have e2:(((hi-lo).toNat:Nat):Int)-((0:Nat):Int)=Builtin.Range.rangeSize lo hi 1:=by rw[rangeSize_one];split<;>omega
  show IsRangeIter _ _ (lo+((0:Nat):Int)*1) ((((hi-lo).toNat:Nat):Int)-((0:Nat):Int)) 1;rw[e1,e2];exact Heap.get?_push_size _ rfl
 ·have e:b=(s.heap.push {cls:= .type "range",data:= .fields #[.int lo t, .int hi u, .int 1 v]}).objs.size:=by simpa using hb
  subst e;exact I1.uC Λ (I1.bY.fresh Λ)
def Nv(ta:TA):TI:=fun σ H R=>ta σ H fun vs H1=>∃j:Int,vs=[.int j]∧-(2^62)≤j∧j<2^62∧R (Ke 0 j.toNat) H1
theorem dN{a:Expr}{ta:TA}{p pos:Pos}(hg:Gl X "range")(hm:X.mg "range"=none)(ha:PA X [a] ta)(hs:starEach [a] X.env=[(false,eval a X.env)]:=by rfl):PI X tg (.Call (.Name "range" p) [a] [] pos) (Nv ta):=by
 intro pins s σ H R I h;refine Call_ (lF I hg hm boot_range (PyProof.Rows.callWith_type1 (cI (ha pos pins s σ H _ I h) fun us s1 ⟨vs,H1,I1,r1,q1⟩=>?_) hs rfl));obtain⟨j,e,q1,q2,q⟩:=q1;subst e;cases r1 with
 |cons r rr=>
  cases rr;obtain⟨t,rfl⟩:=r;exact call_range_1 (D1 I1 (Μ) (Μ) q1 q2 (by simpa using q))
def Rk(wi:TI)(g:TG)(tb:TS):TS:=fun D σ H=>wi σ H fun J H1=>∃W:Nat→Nat→St→Hp→Prop,(∃m,W 0 m σ H1)∧∀i m σ H,W i m σ H→
 (J.stop i H∧D.nx σ H)∨(J.go i H∧∃N:St→Hp→Prop,(∀bq H',N bq H'→∃m',m'<m∧W (i+1) m' bq H')∧∀x H',J.GK i H x H'→g x σ H' fun gc H2=>tb {D with nx:=N,ct:=N,bk:=D.nx} gc H2)
def sO(fp:List Addr)(h:Heap):List (Addr×Obj):=fp.filterMap fun b=>(h.get? b).map fun o=>(b,o)
theorem gR{fp:List Addr}{h:Heap}{b:Addr}{o:Obj}(hb:b∈fp)(e:h.get? b=some o):(b,o)∈sO fp h:=List.mem_filterMap.mpr ⟨b,hb,by rw[e];rfl⟩
theorem Cg{fp:List Addr}{h:Heap}{p:Addr×Obj}(hp:p∈sO fp h):p.1∈fp∧h.get? p.1=some p.2:=by
 obtain⟨b,hb,e⟩:=List.mem_filterMap.mp hp;cases q:h.get? b with
 |none=>rw[q]at e;cases e
 |some o=>
  rw[q]at e;have e':(b,o)=p:=Z' e;subst e';exact⟨hb,q⟩
theorem Inv.pinned{pins:List (Addr×Obj)}{σ:St}{H:Hp}{s:Shared}{fp:List Addr}(I:Inv X pins σ H s)(hf:∀b∈fp,iz X pins H b)(ho:∀b∈fp,∃o,s.heap.get? b=some o∧∀v,o.data≠ .cell v):Inv X (pins++sO fp s.heap) σ H s:=
 I.A6 fun p hp=>(List.mem_append.mp hp).elim (fun z=>I.pin p (γ z)) fun z=>by
  obtain⟨hb,e⟩:=Cg z;obtain⟨f0,f1,f2,_⟩:=hf p.1 hb;obtain⟨o,e',d⟩:=ho p.1 hb;rw[e]at e';cases e';exact⟨e,f0,f1,f2,d⟩
theorem Inv.lH{pins pl:List (Addr×Obj)}{σ:St}{H:Hp}{s:Shared}(I:Inv X (pins++pl) σ H s):Inv X pins σ H s:=I.A6 fun p hp=>I.pin p (γ (List.mem_append_left _ hp))
theorem bJ{iter:Expr}{body:List Stmt}{wi:TI}{g:TG}{tb:TS}{pos:Pos}(hp:PassesOwn (model X.prog X.w) X.A X.env X.xe)(hc:X.calm=true)(hi:PI X tg iter wi)(hg:PG X tg g)(hb:Cd X body tb)
  (hs:∀x,foldedSetIterable iter X.env x=pure x:=by intro _;rfl):PS X (.For tg iter body [] pos) (Rk wi g tb):=by
 intro pins s σ H D I h;refine wpAny_For (cI (hi pins s σ H _ I h) fun v s1 h1=>cI h1 fun Rj s2 h2=>?_) hs;obtain⟨it,fp,tn,J,H2,e,I2,T,dS,f2,W,⟨m0,w0⟩,turn⟩:=h2;subst e;have zR:∀{H':Hp},(∀b∈fp,H' b=none)→∀b∈fp,iz X pins H' b:=fun hn b hb=>⟨hn b hb,(f2 b hb).2⟩
 refine codeAny_forLoop_any (fun n s'=>∃i bq H',Inv X pins bq H' s'∧tn i s'.heap∧(∀b∈fp,H' b=none)∧W i n bq H') ?_ m0 ⟨0,σ,H2,I2,dS,fun b hb=>(f2 b hb).1,w0⟩;rintro n s3 ⟨i,D0,H3,I3,D5,Mp,w3⟩;rcases turn i n D0 H3 w3 with⟨stop,qn⟩|⟨go,N,hN,step⟩
 ·refine wpAny_passesOwn hp (cI (T.done X rfl rfl rfl hc i pins s3 D0 H3 X.xe I3 (zR Mp) D5 stop) fun r s4 ⟨hr,I4⟩=>?_);subst hr;exact wpAny_execs_nil ⟨D0,H3,I4,qn⟩
 ·refine wpAny_passesOwn hp (cI (T.item X rfl rfl rfl hc i pins s3 D0 H3 X.xe I3 (zR Mp) D5 go) fun r s4 ⟨u,hr,h4⟩=>?_);subst hr;refine wpAny_passesOwn hp (cI h4 fun _ s5 ⟨x,H5,I5,r5,y5,Mq,PF⟩=>?_);have Ws:=I5.pinned (zR PF) (T.obj _ _ Mq);refine wpAny_passesOwn hp (cI (hg _ s5 D0 H5 x u _ Ws r5 (step x H5 y5)) fun _ s6 ⟨Wt,H6,I6,q6⟩=>?_);refine wpAny_passesOwn hp (cI (hb _ s6 Wt H6 _ I6 q6) fun f s7 q7=>?_);have again:∀{D6:St}{H7:Hp},Inv X (pins++sO fp s5.heap) D6 H7 s7→N D6 H7→∃m,m<n∧∃i bq H',Inv X pins bq H' s7∧tn i s7.heap∧(∀b∈fp,H' b=none)∧W i m bq H':=fun{D6 H7} I7 n7=>by
   obtain⟨m',hm,w7⟩:=hN D6 H7 n7;refine⟨m',hm,i+1,D6,H7,I7.lH,T.keep _ _ _ Mq fun b hb o e=>(I7.pin (b,o) (γ (γ (gR hb e)))).1,fun b hb=>?_,w7⟩;obtain⟨o,e,d⟩:=T.obj _ _ Mq b hb;exact(I7.pin (b,o) (γ (γ (gR hb e)))).2.1
  cases f with
  |next=>obtain⟨D6,H7,I7,n7⟩:=q7;exact again I7 n7
  |cont=>obtain⟨D6,H7,I7,n7⟩:=q7;exact again I7 n7
  |brk=>obtain⟨D6,H7,I7,q7⟩:=q7;exact⟨D6,H7,I7.lH,q7⟩
  |ret v=>obtain⟨x7,D6,H7,I7,r7,q7⟩:=q7;exact⟨x7,D6,H7,I7.lH,r7,q7⟩
end
theorem bW{K:PySem.W.Frag}{a:Addr}{xs:List V}{g:TG}{tb:TS}{D:Ends}{σ:St}{H:Hp}(Pv:Nat→St→Hp→Prop)(h0:Pv 0 σ H)(hl:∀i σ H,i≤xs.length→Pv i σ H→iD K H a xs)
  (hs:∀i x σ H,xs[i]?=some x→Pv i σ H→g x σ H fun gc H2=>tb {D with nx:=Pv (i+1),ct:=Pv (i+1),bk:=D.nx} gc H2) (hd:∀σ H,Pv xs.length σ H→D.nx σ H):
  ∃W:Nat→Nat→St→Hp→Prop,(∃m,W 0 m σ H)∧∀i m σ H,W i m σ H→
   ((Mo K a).stop i H∧D.nx σ H)∨((Mo K a).go i H∧∃N:St→Hp→Prop,(∀bq H',N bq H'→∃m',m'<m∧W (i+1) m' bq H')∧∀x H',(Mo K a).GK i H x H'→g x σ H' fun gc H2=>tb {D with nx:=N,ct:=N,bk:=D.nx} gc H2):=by
 refine⟨fun i m σ H=>m=xs.length-i∧i≤xs.length∧Pv i σ H,⟨xs.length,ZF,Nat.zero_le _,h0⟩,?_⟩;rintro i m σ H ⟨rfl,hi,p⟩;have q:=hl i σ H hi p;by_cases ig:i<xs.length
 ·refine .inr ⟨⟨xs,xs[i],q,by simp[ig]⟩,Pv (i+1),fun bq H' p'=>⟨xs.length-(i+1),Μ,rfl,ig,p'⟩,fun x H' y=>?_⟩;obtain⟨e,y⟩:=y;subst e;exact hs i x σ _ (y xs q) p
 ·have e:i=xs.length:=Μ;subst e;exact .inl ⟨⟨xs,q,Nat.le_refl _⟩,hd σ H p⟩
theorem fu{lo:Int}{n:Nat}{g:TG}{tb:TS}{D:Ends}{σ:St}{H:Hp}(Pv:Nat→St→Hp→Prop)(h0:Pv 0 σ H)
  (hs:∀i σ H,i<n→Pv i σ H→g (.int (lo+i)) σ H fun gc H2=>tb {D with nx:=Pv (i+1),ct:=Pv (i+1),bk:=D.nx} gc H2) (hd:∀σ H,Pv n σ H→D.nx σ H):
  ∃W:Nat→Nat→St→Hp→Prop,(∃m,W 0 m σ H)∧∀i m σ H,W i m σ H→
   ((Ke lo n).stop i H∧D.nx σ H)∨((Ke lo n).go i H∧∃N:St→Hp→Prop,(∀bq H',N bq H'→∃m',m'<m∧W (i+1) m' bq H')∧∀x H',(Ke lo n).GK i H x H'→g x σ H' fun gc H2=>tb {D with nx:=N,ct:=N,bk:=D.nx} gc H2):=by
 refine⟨fun i m σ H=>m=n-i∧i≤n∧Pv i σ H,⟨n,ZF,Nat.zero_le _,h0⟩,?_⟩;rintro i m σ H ⟨rfl,hi,p⟩;by_cases ig:i<n
 ·refine .inr ⟨ig,Pv (i+1),fun bq H' p'=>⟨n-(i+1),Μ,rfl,ig,p'⟩,fun x H' y=>?_⟩;obtain⟨e,y⟩:=y;subst e y;exact hs i σ _ ig p
 ·have e:i=n:=Μ;subst e;exact .inl ⟨Nat.le_refl _,hd σ H p⟩
abbrev R2:=V→V→Hp→VK→Prop
def rN(X:Cx)(f:Value→Value→Sem Value)(r:R2):Prop:=
 ∀(pins:List (Addr×Obj))(s:Shared)(σ:St)(H:Hp)(x y:V)(v u:Value)(Q:VK),Inv X pins σ H s→RelV x v→RelV y u→r x y H Q→
  wpAny (model X.prog X.w) X.A (f v u) (EP X pins σ Q) X.xe s
def Rl(X:Cx)(f:Value→Sem Value)(r:V→Hp→VK→Prop):Prop:=
 ∀(pins:List (Addr×Obj))(s:Shared)(σ:St)(H:Hp)(x:V)(v:Value)(Q:VK),Inv X pins σ H s→RelV x v→r x H Q→
  wpAny (model X.prog X.w) X.A (f v) (EP X pins σ Q) X.xe s
def iZ(X:Cx)(f:Value)(r:List V→Hp→VK→Prop):Prop:=
 ∀(pins:List (Addr×Obj))(s:Shared)(σ:St)(H:Hp)(xs:List V)(us:List Value)(Q:VK),Inv X pins σ H s→Vals xs us→r xs H Q→
  wpAny (model X.prog X.w) X.A (call f us) (EP X pins σ Q) X.xe s
def PH(r:R2)(ta tb:TE):TE:=fun σ H Q=>ta σ H fun x H1=>tb σ H1 fun y H2=>r x y H2 Q
def Wu(r:V→Hp→VK→Prop)(ta:TE):TE:=fun σ H Q=>ta σ H fun x H1=>r x H1 Q
inductive rI(C:Int→Int→Prop)(g:Int→Int→V)(x:V)(y:V)(H:Hp)(Q:VK):Prop
 |mk (i:_) (j:_) (_:x= .int i) (_:y= .int j) (_:C i j) (_:Q (g i j) H):rI C g x y H Q
inductive GN(g:Int→Int→V)(x:V)(y:V)(H:Hp)(Q:VK):Prop
 |mk (i:_) (j:_) (_:x= .int i) (_:y= .int j) (_:Q (g i j) H):GN g x y H Q
inductive rU(g:Int→V)(x:V)(H:Hp)(Q:VK):Prop
 |mk (i:_) (_:x= .int i) (_:Q (g i) H):rU g x H Q
section
variable{X:Cx}{a b c:Expr}{ta tb tc:TE}{pos:Pos}
theorem Kf(ha:PE X a ta)(hb:PE X b tb){pins:List (Addr×Obj)}{s:Shared}{σ:St}{H:Hp}{R:V→V→Hp→Prop}(I:Inv X pins σ H s)
  (h:ta σ H fun x H1=>tb σ H1 fun y H2=>R x y H2) {Q:Value→Shared→Prop} {f:Value→Value→Sem Value}
  (hf:∀v u s2 x y H2,Inv X pins σ H2 s2→RelV x v→RelV y u→R x y H2→wpAny (model X.prog X.w) X.A (f v u) Q X.xe s2):
  wpAny (model X.prog X.w) X.A (eval a X.env) (fun v cn=>wpAny (model X.prog X.w) X.A (eval b X.env) (fun u qe=>wpAny (model X.prog X.w) X.A (f v u) Q X.xe qe) X.xe cn) X.xe s:=by
 refine cI (ha pins s σ H _ I h) fun v s1 ⟨x,H1,I1,r1,q1⟩=>?_
 refine cI (hb pins s1 σ H1 _ I1 q1) fun u s2 ⟨y,H2,I2,r2,q2⟩=>?_
 exact hf v u s2 x y H2 I2 r1 r2 q2
theorem aG{op:Operator}{r:R2}(ho:rN X (binaryOp op) r)(ha:PE X a ta)(hb:PE X b tb):PE X (.BinOp a op b pos) (PH r ta tb):=by
 intro pins s σ H Q I h;exact wpAny_BinOp (Kf ha hb I h fun v u s2 x y H2 I2 rx ry q=>ho pins s2 σ H2 x y v u Q I2 rx ry q)
theorem rl{op:UnaryOp}{r:V→Hp→VK→Prop}(ho:Rl X (unaryOp op) r)(ha:PE X a ta):PE X (.UnaryOp op a pos) (Wu r ta):=by
 intro pins s σ H Q I h;exact UnaryOp_ (cI (ha pins s σ H _ I h) fun v s1 ⟨x,H1,I1,r1,q1⟩=>ho pins s1 σ H1 x v Q I1 r1 q1)
theorem Ro{f:Value→Value→Sem Value}{C:Int→Int→Prop}{g:Int→Int→Int}
  (rule:∀(i j:Int)(t u:Tok)(s:Shared)(Q:Value→Shared→Prop)(E:Value→Shared→Prop),C i j→Q (.int (g i j) s.toks) {s with toks:=s.toks+1}→wpAny (model X.prog X.w) X.A (f (.int i t) (.int j u)) Q E s):
  rN X f (rI C fun i j=> .int (g i j)):=by
 intro pins s σ H x y v u Q I rx ry h;obtain⟨i,j,rfl,rfl,hc,q⟩:=h;obtain⟨t,rfl⟩:=rx;obtain⟨t',rfl⟩:=ry;exact rule i j t t' s _ _ hc ⟨.int (g i j),H,I.tok _,⟨_,rfl⟩,q⟩
theorem Nw{f:Value→Value→Sem Value}{g:Int→Int→Int}
  (rule:∀(i j:Int)(t u:Tok)(s:Shared)(Q:Value→Shared→Prop)(E:Value→Shared→Prop),Q (.int (g i j) s.toks) {s with toks:=s.toks+1}→wpAny (model X.prog X.w) X.A (f (.int i t) (.int j u)) Q E s):
  rN X f (GN fun i j=> .int (g i j)):=by
 intro pins s σ H x y v u Q I rx ry h;obtain⟨i,j,rfl,rfl,q⟩:=h;obtain⟨t,rfl⟩:=rx;obtain⟨t',rfl⟩:=ry;exact rule i j t t' s _ _ ⟨.int (g i j),H,I.tok _,⟨_,rfl⟩,q⟩
theorem GO{f:Value→Value→Sem Value}{g:Int→Int→Bool}
  (rule:∀(i j:Int)(t u:Tok)(s:Shared)(Q:Value→Shared→Prop)(E:Value→Shared→Prop),Q (.bool (g i j)) s→wpAny (model X.prog X.w) X.A (f (.int i t) (.int j u)) Q E s):
  rN X f (GN fun i j=> .bl (g i j)):=by
 intro pins s σ H x y v u Q I rx ry h;obtain⟨i,j,rfl,rfl,q⟩:=h;obtain⟨t,rfl⟩:=rx;obtain⟨t',rfl⟩:=ry;exact rule i j t t' s _ _ ⟨.bl (g i j),H,I,rfl,q⟩
def Kg(i j:Int):Prop:=0<j∧j<1073741824
def Kh(i j:Int):Prop:=(-(2^64)<i∧i<2^64)∨(-(2^64)<j∧j<2^64)
theorem Kh.ok{i j:Int}(h:Kh i j):IntMulOk i j:=by
 rcases h with⟨h1,h2⟩|⟨h1,h2⟩
 ·exact .of_left (intBits_le_64 h1 h2)
 ·exact .of_right (intBits_le_64 h1 h2)
theorem bp:rN X (binaryOp .Add) (GN fun i j=> .int (i+j)):=Nw fun _ _ _ _ _ _ _ q=>add_int q
theorem cA:rN X (binaryOp .Sub) (GN fun i j=> .int (i-j)):=Nw fun _ _ _ _ _ _ _ q=>sub_int q
theorem jR:rN X (binaryOp .Mult) (rI Kh fun i j=> .int (i*j)):=Ro fun _ _ _ _ _ _ _ hc q=>mul_int q hc.ok
theorem dZ:rN X (binaryOp .FloorDiv) (rI Kg fun i j=> .int (i/j)):=Ro fun i j _ _ _ _ _ hc q=>by
 have h1:(0:Int)<j:=hc.1;have h2:j<1073741824:=hc.2;exact floordiv_int (Μ) (by rw[Int.fdiv_eq_ediv_of_nonneg i (Μ)];exact q) (.inl (PyProof.noPylong_small (Μ)))
theorem bD:rN X (binaryOp .Mod) (rI (fun _ j=>0<j) fun i j=> .int (i%j)):=Ro fun i j _ _ _ _ _ hc q=>by
 have h1:(0:Int)<j:=hc;exact mod_int' (Μ) (by rw[Int.fmod_eq_emod_of_nonneg i (Μ)];exact q)
theorem Wv{f:Value→Sem Value}{g:Int→Int}
  (rule:∀(i:Int)(t:Tok)(s:Shared)(Q:Value→Shared→Prop)(E:Value→Shared→Prop),Q (.int (g i) s.toks) {s with toks:=s.toks+1}→wpAny (model X.prog X.w) X.A (f (.int i t)) Q E s):
  Rl X f (rU fun i=> .int (g i)):=by
 intro pins s σ H x v Q I rx h;obtain⟨i,rfl,q⟩:=h;obtain⟨t,rfl⟩:=rx;exact rule i t s _ _ ⟨.int (g i),H,I.tok _,⟨_,rfl⟩,q⟩
theorem lI:Rl X (unaryOp .USub) (rU fun i=> .int (-i)):=Wv fun _ _ _ _ _ q=>neg_int q
end
def Nx:V→V→Bool
 | .cR, .cR=>true| .cR, .int _=>true| .int _, .cR=>true| .cR, .bl _=>true| .bl _, .cR=>true| .cR, .str _=>true| .str _, .cR=>true
 | .int _, .int _=>true| .bl _, .bl _=>true| .str _, .str _=>true| .Cb _, .Cb _=>true
 | .int _, .str _=>true| .str _, .int _=>true| .bl _, .str _=>true| .str _, .bl _=>true
 | _,_=>false
def Ww:R2:=fun x y H Q=>Nx x y=true∧Q (.bl (decide (x=y))) H
def Wx:R2:=fun x y H Q=>Nx x y=true∧Q (.bl (!decide (x=y))) H
theorem A_{i j:Int}:decide (V.int i=V.int j)=(i==j):=by
 rw[Bool.eq_iff_iff];simp
theorem D7{i j:Bool}:decide (V.bl i=V.bl j)=(i==j):=by
 rw[Bool.eq_iff_iff];simp
theorem Ba{i j:Str}:decide (V.str i=V.str j)=(i==j):=by
 rw[Bool.eq_iff_iff];simp
theorem Bb{i j:Array UInt8}:decide (V.Cb i=V.Cb j)=(i.toList==j.toList):=by
 rw[Bool.eq_iff_iff];cases i;cases j;simp
section
variable{X:Cx}{a b c:Expr}{ta tb tc:TE}{pos:Pos}
theorem bK{pins:List (Addr×Obj)}{σ:St}{H:Hp}{s:Shared}{Q:VK}{k k':Bool}(I:Inv X pins σ H s)(q:Q (.bl k) H)(e:k=k'):EP X pins σ Q (.bool k') s:=by
 subst e;exact⟨.bl k,H,I,rfl,q⟩
theorem jr:rN X (compareOp .Eq) Ww:=by
 intro pins s σ H x y v u Q I rx ry h;obtain⟨hs,q⟩:=h;cases x with
 |cR=>
  cases rx;cases y with
  |cR=>cases ry;exact PySem.EqNone.eq_none_none ζ
  |bl j=>cases ry;exact PySem.EqNone.eq_none_bool ζ
  |int j=>obtain⟨t',rfl⟩:=ry;exact PySem.EqNone.eq_none_int ζ
  |str j=>obtain⟨t',rfl⟩:=ry;exact PySem.EqNone.eq_none_str ζ
  | _=>exact Zn (show false=true from hs) Bool.false_ne_true
 |bl i=>
  cases rx;cases y with
  |cR=>cases ry;exact PySem.EqNone.eq_bool_none ζ
  |bl j=>cases ry;exact eq_bool (bK I q D7)
  |str j=>obtain⟨t',rfl⟩:=ry;exact PySem.EqMixed.eq_bool_str ζ
  | _=>exact Zn (show false=true from hs) Bool.false_ne_true
 |int i=>
  obtain⟨t,rfl⟩:=rx;cases y with
  |cR=>cases ry;exact PySem.EqNone.eq_int_none ζ
  |int j=>obtain⟨t',rfl⟩:=ry;exact eq_int (bK I q A_)
  |str j=>obtain⟨t',rfl⟩:=ry;exact PySem.EqMixed.eq_int_str ζ
  | _=>exact Zn (show false=true from hs) Bool.false_ne_true
 |str i=>
  obtain⟨t,rfl⟩:=rx;cases y with
  |cR=>cases ry;exact PySem.EqNone.eq_str_none ζ
  |bl j=>cases ry;exact PySem.EqMixed.eq_str_bool ζ
  |int j=>obtain⟨t',rfl⟩:=ry;exact PySem.EqMixed.eq_str_int ζ
  |str j=>obtain⟨t',rfl⟩:=ry;exact eq_str (bK I q Ba)
  | _=>exact Zn (show false=true from hs) Bool.false_ne_true
 |Cb i=>
  obtain⟨t,rfl⟩:=rx;cases y with
  |Cb j=>obtain⟨t',rfl⟩:=ry;exact PySem.W.eq_bytes (bK I q Bb)
  | _=>exact Zn (show false=true from hs) Bool.false_ne_true
 | _=>cases y<;>exact Zn (show false=true from hs) Bool.false_ne_true
theorem vm:rN X (compareOp .NotEq) Wx:=by
 intro pins s σ H x y v u Q I rx ry h;obtain⟨hs,q⟩:=h;cases x with
 |cR=>
  cases rx;cases y with
  |cR=>cases ry;exact PySem.EqNone.ne_none_none ζ
  |bl j=>cases ry;exact PySem.EqNone.ne_none_bool ζ
  |int j=>obtain⟨t',rfl⟩:=ry;exact PySem.EqNone.ne_none_int ζ
  |str j=>obtain⟨t',rfl⟩:=ry;exact PySem.EqNone.ne_none_str ζ
  | _=>exact Zn (show false=true from hs) Bool.false_ne_true
 |bl i=>
  cases rx;cases y with
  |cR=>cases ry;exact PySem.EqNone.ne_bool_none ζ
  |bl j=>cases ry;exact ne_bool (bK I q (congrArg not D7))
  |str j=>obtain⟨t',rfl⟩:=ry;exact PySem.EqMixed.ne_bool_str ζ
  | _=>exact Zn (show false=true from hs) Bool.false_ne_true
 |int i=>
  obtain⟨t,rfl⟩:=rx;cases y with
  |cR=>cases ry;exact PySem.EqNone.ne_int_none ζ
  |int j=>obtain⟨t',rfl⟩:=ry;exact ne_int (bK I q (congrArg not A_))
  |str j=>obtain⟨t',rfl⟩:=ry;exact PySem.EqMixed.ne_int_str ζ
  | _=>exact Zn (show false=true from hs) Bool.false_ne_true
 |str i=>
  obtain⟨t,rfl⟩:=rx;cases y with
  |cR=>cases ry;exact PySem.EqNone.ne_str_none ζ
  |bl j=>cases ry;exact PySem.EqMixed.ne_str_bool ζ
  |int j=>obtain⟨t',rfl⟩:=ry;exact PySem.EqMixed.ne_str_int ζ
  |str j=>obtain⟨t',rfl⟩:=ry;exact ne_str (bK I q (congrArg not Ba))
  | _=>exact Zn (show false=true from hs) Bool.false_ne_true
 |Cb i=>
  obtain⟨t,rfl⟩:=rx;cases y with
  |Cb j=>obtain⟨t',rfl⟩:=ry;exact PySem.W.ne_bytes (bK I q (congrArg not Bb))
  | _=>exact Zn (show false=true from hs) Bool.false_ne_true
 | _=>cases y<;>exact Zn (show false=true from hs) Bool.false_ne_true
theorem m3:rN X (compareOp .Lt) (GN fun i j=> .bl (decide (i<j))):=GO fun _ _ _ _ _ _ _ q=>lt_int q
theorem Bc:rN X (compareOp .LtE) (GN fun i j=> .bl (decide (i≤j))):=GO fun _ _ _ _ _ _ _ q=>le_int q
theorem rm:rN X (compareOp .Gt) (GN fun i j=> .bl (decide (j<i))):=GO fun _ _ _ _ _ _ _ q=>gt_int q
theorem Bd:rN X (compareOp .GtE) (GN fun i j=> .bl (decide (j≤i))):=GO fun _ _ _ _ _ _ _ q=>ge_int q
theorem aV(b:Expr){op:CmpOp}(h:op≠ .In:=by decide)(h2:op≠ .NotIn:=by decide):behindInMarks op b=false:=by
 have e1:(op==CmpOp.In)=false:=by cases op<;>first|rfl|exact absurd rfl h
 have e2:(op==CmpOp.NotIn)=false:=by cases op<;>first|rfl|exact absurd rfl h2
 cases b<;>simp[behindInMarks,e1,e2]
theorem iG{op:CmpOp}{r:R2}(ho:rN X (compareOp op) r)(ha:PE X a ta)(hb:PE X b tb)(hm:behindInMarks op b=false):PE X (.Compare a [op] [b] pos) (PH r ta tb):=by
 intro pins s σ H Q I h;exact wpAny_Compare1 (Kf ha hb I h fun v u s2 x y H2 I2 rx ry q=>ho pins s2 σ H2 x y v u Q I2 rx ry q) hm
def Ny(t:TE):TT:=fun σ H Q=>t σ H fun x H'=>∃k,x= .bl k∧Q k H'
theorem aS{op:CmpOp}{r:R2}(ho:rN X (compareOp op) r)(ha:PE X a ta)(hb:PE X b tb)(hm:behindInMarks op b=false):PT X (.Compare a [op] [b] pos) (Ny (PH r ta tb)):=by
 intro pins s σ H Q I h;refine wpAny_isTrue_Compare1 (cI (ha pins s σ H _ I h) fun v s1 ⟨x,H1,I1,r1,q1⟩=>cI (hb pins s1 σ H1 _ I1 q1) fun u s2 ⟨y,H2,I2,r2,q2⟩=>
  cI (ho pins s2 σ H2 x y v u _ I2 r1 r2 q2) fun c s3 ⟨z,H3,I3,r3,k,e,q3⟩=>?_) hm
 subst e;cases r3;exact wpAny_truthy_bool ⟨H3,I3,q3⟩
theorem qf:(sizeLine:Nat)<2^63:=by rw[sizeLine_eq];decide
theorem ny:rN X (binaryOp .Add) (fun x y H Q=>∃i j,x= .str i∧y= .str j∧i.length+j.length≤sizeLine∧Q (.str (i++j)) H):=by
 intro pins s σ H x y v u Q I rx ry h;obtain⟨i,j,rfl,rfl,hz,q⟩:=h;obtain⟨t,rfl⟩:=rx;obtain⟨t',rfl⟩:=ry;exact add_str (fun t' tk=>⟨.str (i++j),H,I.tok _,⟨_,rfl⟩,q⟩) hz
theorem vals1{x:V}{us:List Value}(r:Vals [x] us):∃u,us=[u]∧RelV x u:=by
 cases r with
 |cons r1 r2=>cases r2;exact⟨_,rfl,r1⟩
theorem vals2{x y:V}{us:List Value}(r:Vals [x,y] us):∃u w',us=[u,w']∧RelV x u∧RelV y w':=by
 cases r with
 |cons r1 r2=>
  cases r2 with
  |cons r3 r4=>cases r4;exact⟨_,_,rfl,r1,r3⟩
theorem Ci(hc:X.calm=true):iZ X (.builtin "max") (fun xs H Q=>∃i j,xs=[.int i, .int j]∧Q (.int (if j>i then j else i)) H):=by
 intro pins s σ H xs us Q I r h;obtain⟨i,j,rfl,q⟩:=h;obtain⟨u,w',rfl,⟨t,rfl⟩,⟨t',rfl⟩⟩:=vals2 r;refine max_two_ints (I.ok.hd hc) fun h' tk k=>⟨_,H,I.kept k,?_,q⟩
 by_cases hj:j>i
 ·rw[Z7 hj,Z7 hj];exact⟨_,rfl⟩
 ·rw[Z5 hj,Z5 hj];exact⟨_,rfl⟩
theorem qg(hc:X.calm=true):iZ X (.builtin "min") (fun xs H Q=>∃i j,xs=[.int i, .int j]∧Q (.int (if j<i then j else i)) H):=by
 intro pins s σ H xs us Q I r h;obtain⟨i,j,rfl,q⟩:=h;obtain⟨u,w',rfl,⟨t,rfl⟩,⟨t',rfl⟩⟩:=vals2 r;refine min_two_ints (I.ok.hd hc) fun h' tk k=>⟨_,H,I.kept k,?_,q⟩
 by_cases hj:j<i
 ·rw[Z7 hj,Z7 hj];exact⟨_,rfl⟩
 ·rw[Z5 hj,Z5 hj];exact⟨_,rfl⟩
theorem qh:iZ X (.type "int") (fun xs H Q=>(∃i,xs=[.int i]∧Q (.int i) H)∨∃k,xs=[.bl k]∧Q (.int (if k then 1 else 0)) H):=by
 intro pins s σ H xs us Q I r h;rcases h with⟨i,rfl,q⟩|⟨k,rfl,q⟩
 ·obtain⟨u,rfl,t,rfl⟩:=vals1 r;exact call_int_int ⟨.int i,H,I,⟨_,rfl⟩,q⟩
 ·obtain⟨u,rfl,r1⟩:=vals1 r;cases r1;exact call_int_bool ⟨.int (if k then 1 else 0),H,I.tok _,⟨_,rfl⟩,q⟩
end
structure zS(h:Heap)(x dx C:Addr)(mA:Str→Option Value):Prop where
 obj:h.get? x=some (PySem.W.instObj C dx)
 ns:h.Ns1 dx mA
 ne:dx≠x
theorem Cj{h:Heap}{dx:Addr}{mA:Str→Option Value}(n:h.Ns1 dx mA):∃od,h.get? dx=some od∧∀name,PySem.W.lookIn name od=some (mA name):=by
 obtain⟨o,es,ep,ho,hd,hk,_,hm⟩:=n;refine⟨o,ho,fun name=>?_⟩;have e:=hm name;unfold nsFind findBy at e;rw[←Array.find?_toList]at e;unfold PySem.W.lookIn;rw[hd];dsimp only;split
 ·rename_i y q
  rw[q]at e;exact congrArg some e
 ·rename_i q
  rw[q]at e;have a:es.toList.any (·.refKey)=false:=by
   rw[List.any_eq_false];intro y hy;obtain⟨z,t,oA⟩:=hk y (Array.mem_toList_iff.mp hy);simp[DictEntry.refKey,oA]
  have a':¬es.toList.any (·.refKey)=true:=by rw[a];exact Bool.false_ne_true
  rw[Z5 a'];exact congrArg some e
theorem zS.look{h:Heap}{x dx C:Addr}{mA:Str→Option Value}(I:zS h x dx C mA):∃od,PySem.W.InstAt h x (PySem.W.instObj C dx) C (some od)∧∀name,PySem.W.lookIn name od=some (mA name):=
 let ⟨od,ho,hl⟩:=Cj I.ns
 ⟨od,⟨I.obj,rfl,rfl,ho⟩,hl⟩
section
variable{prog:Program}{w:World}{A:Around}{E:Value→Shared→Prop}{s:Shared}{K:PySem.W.Frag}{x dx C f:Addr}{mA:Str→Option Value}{name:Str}{v:Value}
theorem get_map{expr:Bool}{Q:Value→Shared→Prop}(X:K.In s.heap)(I:zS s.heap x dx C mA)(hg:PySem.W.plainGet K C name=true)(hh:PySem.W.hasDictIn K C=true)
  (ha:PySem.W.findIn K (.ref C) name=some none) (hv:mA name=some v) (Nz:PySem.W.handedIn v=true) (h:Q v {s with toks:=s.toks+1}):
  wpAny (model prog w) A (getAttr (.ref x) name expr) Q E s:=by
 obtain⟨od,J,hl⟩:=I.look;exact PySem.W.get_value X J (PySem.W.plainGet_of hg).1 (PySem.W.findObj_own hh ha rfl (by rw[hl,hv])) Nz h
theorem D8{pl:Sem Bool}{Q:Value×List Value→Shared→Prop}(X:K.In s.heap)(I:zS s.heap x dx C mA)(hg:PySem.W.plainGet K C name=true)
  (hf:PySem.W.findIn K (.ref C) name=some (some (.ref f))) (ht:PySem.W.isFn K (.ref f)=true) (hv:mA name=none) (h:Q (.ref f,[.ref x]) s):
  wpAny (model prog w) A (getMethod (.ref x) name pl) Q E s:=by
 obtain⟨od,J,hl⟩:=I.look;exact PySem.W.method_fn X J (PySem.W.plainGet_of hg).1 (PySem.W.plainGet_of hg).2 hf (beq_iff_eq.mp ht) (by show(PySem.W.lookIn name od).map (·.isSome)=some false;rw[hl,hv];rfl) h
theorem GP{ns:List Str}{Q:Unit→Shared→Prop}(X:K.In s.heap)(I:zS s.heap x dx C mA)
  (hs:PySem.W.findIn K (.ref C) "__setattr__"=some (some (.builtin "object.__setattr__"))) (hp:PySem.W.plainOver K C=true) (ht:PySem.W.takerIn K C name=some none) (hh:PySem.W.hasDictIn K C=true)
  (hw:PySem.Within mA ns) (hsz:ns.length≤sizeLine)
  (h:∀h',zS h' x dx C (fun y=>if y=name then some v else mA y)→Heap.SameBut dx s.heap h'→Q () {s with heap:=h',toks:=s.toks+2}):
  wpAny (model prog w) A (setAttr (.ref x) name v) Q E s:=by
 obtain⟨od,J,hl⟩:=I.look;refine PySem.W.set_plain X J hs (PySem.W.osa_open (s:={s with toks:=s.toks+1}) (r:=none) X J hp ht fun b=>?_);obtain⟨cd,hc,Mm⟩:=PySem.W.any_some hh;have hx:s.heap.get? x=some ⟨.ref C,some dx, .plain,#[]⟩:=I.obj;refine wpAny_bind (Ε (Ζ (Ζ (wpAny_loadPart hx (Ζ (PySem.W.Looks.here (s:={s with toks:=s.toks+1}) (PySem.W.looks_clsIn X hc) ?_))))));rw[Mm];refine wpAny_pure (a:=some dx) (Ζ (Ε (Ζ ?_)));refine wpAny_nsSet1 (s:={s with toks:=s.toks+1}) I.ns fun h' yb Ki=>?_
 obtain⟨oD,Y8,Y9,Wz,WA,WB⟩:=yb.count (PySem.Within.cons name v hw);refine wpAny_bind (wpAny_lookBehind Wz (by rw[WA];exact pastItsLine_dict (Nat.le_trans WB (by rw[List.length_cons];omega))) ?_);exact Ε (h _ ⟨(Ki.2 _ (Ne.symm I.ne)).trans I.obj,yb,I.ne⟩ Ki)
theorem D9{R:Result→Shared→Prop}{vs:List Value}{kw:List (Str×Value)}(X:K.In s.heap)(hm:PySem.W.makesIn K C=true)
  (hi:PySem.W.findIn K (.ref C) "__init__"=some (some (.ref f))) (hf:PySem.W.typeIn K (.ref f)=some (.type "function"))
  (h:codeAny (model prog w) (A.under (.builtin "type.__call__" ⟨.ref C::vs,kw⟩)) (.call (.ref f) ⟨.ref (s.heap.objs.size+1)::vs,kw⟩) (PySem.W.InitBack (s.heap.objs.size+1) R)
   {s with heap:=(s.heap.push PySem.W.emptyDict).push (PySem.W.instObj C s.heap.objs.size)}):
  codeAny (model prog w) A (.call (.ref C) ⟨vs,kw⟩) R s:=by
 obtain⟨hh,g,d,t,os⟩:=s;exact PySem.W.make_core (PySem.W.makes_of X hm) (PySem.W.looks_findIn X hi) (fun self=>PySem.W.bind_fn X self hf) (.inl rfl) h
end
def bx(f:Str)(v:V):List (Str×V)→List (Str×V)
 |[]=>[(f,v)]
 |(g,x)::r=>if g=f then(g,v)::r else(g,x)::bx f v r
theorem rp(f g:Str)(v:V):∀fs:List (Str×V),(bx f v fs).lookup g=if g=f then some v else fs.lookup g
 |[]=>by
  show List.lookup g [(f,v)]=_;by_cases h:g=f
  ·have hb:(g==f)=true:=beq_iff_eq.mpr h;simp only[List.lookup,hb,Z7 h]
  ·have hb:(g==f)=false:=beq_eq_false_iff_ne.mpr h;simp only[List.lookup,hb,Z5 h]
 |(k,x)::r=>by
  have ih:=rp f g v r;rw[show bx f v ((k,x)::r)=(if k=f then(k,v)::r else(k,x)::bx f v r)from rfl];by_cases hk:k=f
  ·rw[Z7 hk];by_cases h:g=k
   ·have hb:(g==k)=true:=beq_iff_eq.mpr h;simp only[List.lookup,hb,Z7 (h.trans hk)]
   ·have hb:(g==k)=false:=beq_eq_false_iff_ne.mpr h;simp only[List.lookup,hb,Z5 (fun e:g=f=>h (e.trans hk.symm))]
  ·rw[Z5 hk];by_cases h:g=k
   ·have hb:(g==k)=true:=beq_iff_eq.mpr h;simp only[List.lookup,hb,Z5 (fun e:g=f=>hk (h.symm.trans e))]
   ·have hb:(g==k)=false:=beq_eq_false_iff_ne.mpr h;simp only[List.lookup,hb];exact ih
theorem qi(f:Str)(v:V):∀fs:List (Str×V),f∈(bx f v fs).map (·.1)∧∀g,g∈fs.map (·.1)→g∈(bx f v fs).map (·.1)
 |[]=>⟨by simp[bx],fun g h=>by simp at h⟩
 |(k,x)::r=>by
  obtain⟨i1,i2⟩:=qi f v r;rw[show bx f v ((k,x)::r)=(if k=f then(k,v)::r else(k,x)::bx f v r)from rfl];by_cases hk:k=f
  ·rw[Z7 hk];subst hk;exact⟨ZF,fun g h=>by simpa using h⟩
  ·rw[Z5 hk];refine⟨?_,fun g h=>?_⟩
   ·rw[List.map_cons];exact ε i1
   ·rw[List.map_cons]at h⊢;rcases List.mem_cons.mp h with e|e
    ·exact List.mem_cons.mpr (.inl e)
    ·exact ε (i2 g e)
theorem aW(f:Str)(v:V):∀fs:List (Str×V),(bx f v fs).length≤fs.length+1
 |[]=>by simp[bx]
 |(k,x)::r=>by
  have ih:=aW f v r;rw[show bx f v ((k,x)::r)=(if k=f then(k,v)::r else(k,x)::bx f v r)from rfl];by_cases hk:k=f
  ·rw[Z7 hk,List.length_cons,List.length_cons];omega
  ·rw[Z5 hk,List.length_cons,List.length_cons];omega
theorem kx.some_of{v:V}{o:Option Value}(r:kx (some v) o):∃u,o=some u∧RelV v u:=by
 cases o with
 |none=>exact(show False from r).elim
 |some u=>exact⟨u,rfl,r⟩
theorem kx.none_of{o:Option Value}(r:kx none o):o=none:=by
 cases o with
 |none=>rfl
 |some u=>exact(show False from r).elim
theorem Ck{v:V}{u:Value}(r:RelV v u):PySem.W.handedIn u=true:=by
 cases v with
 |cR=>cases(show u=Value.none from r);rfl
 |bl b=>cases(show u=Value.bool b from r);rfl
 |int i=>obtain⟨t,e⟩:=(show ∃t,u=Value.int i t from r);cases e;rfl
 |str x=>obtain⟨t,e⟩:=(show ∃t,u=Value.str x t from r);cases e;rfl
 |Cb b=>obtain⟨t,e⟩:=(show ∃t,u=Value.bytes b t from r);cases e;rfl
 |II b=>obtain⟨t,e⟩:=(show ∃t,u=Value.float b t from r);cases e;rfl
 |ref a=>cases(show u=Value.ref a from r);rfl
 |ty n=>cases(show u=Value.type n from r);rfl
section
variable{P:Program}{w:World}{H H':Hp}{h h':Heap}{a C dx:Addr}{fs Wn:List (Str×V)}
theorem sq(bY:lE P w H h)(e:H a=some (.ins C dx fs)):∃mA,zS h a dx C mA∧(∀f,kx (fs.lookup f) (mA f))∧PySem.Within mA (fs.map (·.1))∧fs.length≤1000∧H dx=some (.own a):=by
 obtain⟨d,z,ne,ob,mA,n,r,q⟩:=(show cS P w H h a (.ins C dx fs)from bY a _ e)
 exact⟨mA,⟨ob,n,ne⟩,r,q,z,d⟩
end
structure wc(K:PySem.W.Frag)(C:Addr):Prop where
 pg:PySem.W.plainGet K C Str.empty=true
 hd:PySem.W.hasDictIn K C=true
 po:PySem.W.plainOver K C=true
 sa:PySem.W.findIn K (.ref C) "__setattr__"=some (some (.builtin "object.__setattr__"))
theorem wc.get{K:PySem.W.Frag}{C:Addr}(c:wc K C)(f:Str):PySem.W.plainGet K C f=true:=c.pg
def b_(K:PySem.W.Frag)(C:Addr)(f:Str):Prop:=PySem.W.findIn K (.ref C) f=some none
theorem b_.NA{K:PySem.W.Frag}{C:Addr}{f:Str}(n:b_ K C f):PySem.W.takerIn K C f=some none:=by
 unfold PySem.W.takerIn;rw[show PySem.W.findIn K (.ref C) f=some none from n];rfl
structure D_(K:PySem.W.Frag)(C:Addr)(f:Str)(v:V)(u:Value):Prop where
 at_:PySem.W.findIn K (.ref C) f=some (some u)
 rel:RelV v u
 get:PySem.W.specialIn K u "__get__"=some none
 cp:PySem.W.copiedNames.contains f=false
structure Meth(K:PySem.W.Frag)(C:Addr)(m:Str)(f:Addr):Prop where
 at_:PySem.W.findIn K (.ref C) m=some (some (.ref f))
 fn:PySem.W.isFn K (.ref f)=true
 kp:PySem.W.keepIn K (.ref f)=true
section
variable{X:Cx}{pins:List (Addr×Obj)}{σ:St}{H:Hp}{s:Shared}{a C dx:Addr}{fs:List (Str×V)}{f:Str}{v:V}{A:Around}{E:Value→Shared→Prop}
theorem zT{b:Bool}{Q:Value→Shared→Prop}(I:Inv X pins σ H s)(e:H a=some (.ins C dx fs))(c:wc X.K C)(n:b_ X.K C f)(l:fs.lookup f=some v)
  (h:∀u s',Inv X pins σ H s'→RelV v u→Q u s'):wpAny (model X.prog X.w) A (getAttr (.ref a) f b) Q E s:=by
 obtain⟨mA,O,r,_,_,_⟩:=sq I.bY e;obtain⟨u,hu,ru⟩:=kx.some_of (v:=v) (o:=mA f) (by rw[←l];exact r f);exact get_map I.qd O (c.get f) c.hd n hu (Ck ru) (h u _ (I.tok _) ru)
theorem nB{m:Str}{g:Addr}{pl:Sem Bool}{Q:Value×List Value→Shared→Prop}(I:Inv X pins σ H s)(e:H a=some (.ins C dx fs))(c:wc X.K C)(k:Meth X.K C m g)(l:fs.lookup m=none)
  (h:Q (.ref g,[.ref a]) s):wpAny (model X.prog X.w) A (getMethod (.ref a) m pl) Q E s:=by
 obtain⟨mA,O,r,_,_,_⟩:=sq I.bY e;have hn:mA m=none:=kx.none_of (by rw[←l];exact r m);exact D8 I.qd O (c.get m) k.at_ k.fn hn h
theorem zU{y:V}{u:Value}{Q:Unit→Shared→Prop}(I:Inv X pins σ H s)(e:H a=some (.ins C dx fs))(c:wc X.K C)(n:b_ X.K C f)(hl:fs.length<1000)(ry:RelV y u)
  (h:∀s',Inv X pins σ (upd H a (.ins C dx (bx f y fs))) s'→Q () s'):wpAny (model X.prog X.w) A (setAttr (.ref a) f u) Q E s:=by
 obtain⟨mA,O,r,wi,_,ho⟩:=sq I.bY e;have hz:(fs.map (·.1)).length≤sizeLine:=by rw[List.length_map,sizeLine_eq];omega
 refine GP I.qd O c.sa c.po n.NA c.hd wi hz fun h' O' sb=>h _ ?_
 have hd:∃o,h'.get? dx=some o:=let ⟨o,_,_,e',_⟩:=O'.ns;⟨o,e'⟩
 refine I.write (x:=a) (e:=dx) (by rw[e];exact True.intro) (.inr ho) (fun b q hb z=>(sb.2 b hb).trans z) hd ?_;refine⟨by rw[aj O.ne];exact ho,?_,O.ne,O'.obj,_,O'.ns,fun g=>?_,fun g hg=>?_⟩
 ·have:=aW f y fs;omega
 ·show kx ((bx f y fs).lookup g) (if g=f then some u else mA g);rw[rp];by_cases q:g=f
  ·rw[Z7 q,Z7 q];exact ry
  ·rw[Z5 q,Z5 q];exact r g
 ·by_cases q:g=f
  ·rw[q];exact(qi f y fs).1
  ·refine(qi f y fs).2 g (wi g fun z=>hg ?_);show(if g=f then some u else mA g)=none;rw[Z5 q];exact z
theorem Inv.made(I:Inv X pins σ H s):Inv X pins σ (upd (upd H s.heap.objs.size (.own (s.heap.objs.size+1))) (s.heap.objs.size+1) (.ins C s.heap.objs.size []))
  {s with heap:=(s.heap.push PySem.W.emptyDict).push (PySem.W.instObj C s.heap.objs.size)}:=by
 have e1:(s.heap.push PySem.W.emptyDict).get? s.heap.objs.size=some PySem.W.emptyDict:=Heap.get?_push_size s.heap rfl;have e2:((s.heap.push PySem.W.emptyDict).push (PySem.W.instObj C s.heap.objs.size)).get? (s.heap.objs.size+1)=some (PySem.W.instObj C s.heap.objs.size):=by
  have:=Heap.get?_push_size (s.heap.push PySem.W.emptyDict) (o:=PySem.W.instObj C s.heap.objs.size) rfl;rwa[Heap.size_push]at this
 have e3:(s.heap.push PySem.W.emptyDict).Ns s.heap.objs.size (fun _=>none):=⟨PySem.W.emptyDict,#[],_,e1,rfl,(fun e he=>absurd he ZA),fun _=>rfl⟩
 have I1:=I.laid (a:=s.heap.objs.size) (o:= .own (s.heap.objs.size+1)) (h':=s.heap.push PySem.W.emptyDict) (t':=s.toks) (fun b u q=>Z6 q) (Nat.le_refl _) ⟨_,e1⟩;refine I1.laid (a:=s.heap.objs.size+1) (o:= .ins C s.heap.objs.size []) (t':=s.toks) (fun b u q=>Z6 q) (Nat.le_of_eq (Heap.size_push _ _)) ?_;have ne:s.heap.objs.size≠s.heap.objs.size+1:=Nat.ne_of_lt (Nat.lt_succ_self _);refine⟨by rw[aj ne,ae],Nat.zero_le _,ne,e2,fun _=>none,(Heap.Ns1.of_empty e3).at fun o q=>Z6 q,fun _=>True.intro,fun y hy=>absurd rfl hy⟩
theorem GQ{prog:Program}{w:World}{env:Env}{e:Expr}{f:Str}{pos:Pos}{s:Shared}{Q:Value→Shared→Prop}(hb:attributeBase e f env (eval e env)=eval e env)
  (h:wpAny (model prog w) A (eval e env) (fun o cn=>wpAny (model prog w) A (getAttr o f true) Q E cn) E s):wpAny (model prog w) A (eval (.Attribute e f pos) env) Q E s:=
 Attribute_any_ h (by rw[arm_eval_Attribute,hb])
end
inductive IS(K:PySem.W.Frag)(f:Str)(x:V)(H1:Hp)(Q:VK):Prop
 |mk (a:Addr) (C:Addr) (dx:Addr) (fs:List (Str×V)) (v:V) (_:x= .ref a) (_:H1 a=some (.ins C dx fs)) (_:wc K C) (_:b_ K C f) (_:fs.lookup f=some v) (_:Q v H1):IS K f x H1 Q
def NB(K:PySem.W.Frag)(ta:TE)(f:Str):TE:=fun σ H Q=>ta σ H fun x H1=>IS K f x H1 Q
def NC(K:PySem.W.Frag)(ta tv:TE)(f:Str):TS:=fun D σ H=>tv σ H fun y H1=>ta σ H1 fun x H2=>∃a C dx fs,x= .ref a∧H2 a=some (.ins C dx fs)∧wc K C∧b_ K C f∧fs.length<1000∧
 D.nx σ (upd H2 a (.ins C dx (bx f y fs)))
section
variable{X:Cx}{o e value:Expr}{f:Str}{pos pos' Rp:Pos}{ta tv:TE}
theorem Kj(he:PE X e ta)(hb:attributeBase e f X.env (eval e X.env)=eval e X.env):PE X (.Attribute e f pos) (NB X.K ta f):=by
 intro pins s σ H Q I h;refine GQ hb (cI (he pins s σ H _ I h) fun u s1 ⟨x,H1,I1,rx,a,C,dx,fs,v,ex,ea,c,n,l,q⟩=>?_);subst ex;obtain rfl:u=Value.ref a:=rx;exact zT I1 ea c n l fun u' s2 I2 ru=>⟨v,H1,I2,ru,q⟩
theorem Kk(ha:PE X o ta)(hv:PE X value tv)(hs:swapsWith value (some (.Attribute o f pos')) pos.line X.env=pure false):PS X (.Assign [.Attribute o f pos'] value pos) (NC X.K ta tv f):=by
 intro pins s σ H D I h;refine plainObj_wpAny_Assign_Attribute (cI (hv pins s σ H _ I h) fun u s1 ⟨y,H1,I1,ry,q⟩=>cI (ha pins s1 σ H1 _ I1 q) fun ov s2 ⟨x,H2,I2,rx,a,C,dx,fs,ex,ea,c,n,l,q2⟩=>?_) hs;subst ex;obtain rfl:ov=Value.ref a:=rx;exact zU I2 ea c n l ry fun s3 I3=>⟨σ,_,I3,q2⟩
theorem IU{pl:Sem Bool}{m:Str}{apos:Pos}{args:List Expr}{pins:List (Addr×Obj)}{s:Shared}{σ:St}{H:Hp}{Q:Value→Shared→Prop}{te:TE}(he:PE X e te)(I:Inv X pins σ H s)
  (h:te σ H fun x H1=>∃a C dx fs g,x= .ref a∧H1 a=some (.ins C dx fs)∧wc X.K C∧Meth X.K C m g∧fs.lookup m=none∧
   ∀s1,Inv X pins σ H1 s1→wpAny (model X.prog X.w) X.A (callWith pos (.ref g) [.ref a] (backTo pos (starEach args X.env)) (backToKw pos (keywordEach [] X.env))) Q X.xe s1)
  (ht:eval (.Call (.Attribute e m apos) args [] pos) X.env=(do
   let ov←eval e X.env
   standAt apos.atName
   let (f,first)←holding [ov] (getMethod ov m pl)
   callWith pos f first (backTo pos (starEach args X.env)) (backToKw pos (keywordEach [] X.env)))):
  wpAny (model X.prog X.w) X.A (eval (.Call (.Attribute e m apos) args [] pos) X.env) Q X.xe s:=by
 refine PySem.W.methodCall_KW (pl:=pl) (cI (he pins s σ H _ I h) fun u s1 ⟨x,H1,I1,rx,a,C,dx,fs,g,ex,ea,c,k,l,q⟩=>?_) ht;subst ex;obtain rfl:u=Value.ref a:=rx;exact nB I1 ea c k l (q s1 I1)
end
section
variable{X:Cx}{pins:List (Addr×Obj)}{σ:St}{H:Hp}{s:Shared}{A:Around}{E:Value→Shared→Prop}{Q:Value→Shared→Prop}{c:Value}{b:Bool}
inductive qj(K:PySem.W.Frag)(H:Hp):V→Value→Prop where
 |cR:qj K H .cR (.type "NoneType")
 |bl (x:Bool):qj K H (.bl x) (.type "bool")
 |int (i:Int):qj K H (.int i) (.type "int")
 |str (x:Str):qj K H (.str x) (.type "str")
 |II (x:UInt64):qj K H (.II x) (.type "float")
 |lst {a:Addr} {xs:List V} (e:H a=some (.lst xs)):qj K H (.ref a) (.type "list")
 |so {a:Addr} {o:Obj} {xs:List V} (e:H a=some (.so o (.lst xs))):qj K H (.ref a) (.type "list")
 |tup {a:Addr} {xs:List V} (e:H a=some (.tup xs)):qj K H (.ref a) (.type "tuple")
 |dK {a:Addr} {kvs:List (Key×V)} (e:H a=some (.dK kvs)):qj K H (.ref a) (.type "dict")
 |dT {a:Addr} {kvs:List (List Key×V)} (e:H a=some (.dT kvs)):qj K H (.ref a) (.type "dict")
 |ins {a C dx:Addr} {fs:List (Str×V)} (e:H a=some (.ins C dx fs)) (cl:wc K C) (ha:PySem.W.findIn K (.ref C) "__class__"=some (some (.builtin "object.__class__")))
   (hn:PySem.W.specialIn K (.builtin "object.__class__") "__get__"=some (some (.builtin "getset_descriptor.__get__"))) (UD:PySem.W.takesIn K (.builtin "object.__class__")=some true)
   (hm:PySem.W.mroIn K C (.type "object")=some true):qj K H (.ref a) (.ref C)
theorem Cm{x:V}{u t:Value}(I:Inv X pins σ H s)(rx:RelV x u)(ty:qj X.K H x t)(e:PySem.W.kitOne X.K t c=some b)(h:∀tk,Q (.bool b) {s with toks:=tk}):
  wpAny (model X.prog X.w) A (call (.builtin "isinstance") [u,c]) Q E s:=by
 cases ty with
 |cR=>cases(show u=Value.none from rx);exact PySem.W.kia_one PySem.W.kitx_none I.qd True.intro e (fun z=>nomatch z) h
 |bl y=>cases(show u=Value.bool y from rx);exact PySem.W.kia_one PySem.W.kitx_bool I.qd True.intro e (fun z=>nomatch z) h
 |int i=>obtain⟨t,q⟩:=(show ∃t,u=Value.int i t from rx);cases q;exact PySem.W.kia_one PySem.W.kitx_int I.qd True.intro e (fun z=>nomatch z) h
 |str y=>obtain⟨t,q⟩:=(show ∃t,u=Value.str y t from rx);cases q;exact PySem.W.kia_one PySem.W.kitx_str I.qd True.intro e (fun z=>nomatch z) h
 |II y=>obtain⟨t,q⟩:=(show ∃t,u=Value.float y t from rx);cases q;exact PySem.W.kia_one PySem.W.kitx_float I.qd True.intro e (fun z=>nomatch z) h
 |@lst a xs ea=>
  cases(show u=Value.ref a from rx);obtain⟨_,_,n,_,h1⟩:=(show cS X.prog X.w H s.heap a (.lst xs)from I.bY a _ ea)
  exact PySem.W.kia_one PySem.W.kitx_list I.qd ⟨_,h1,rfl⟩ e (fun z=>nomatch z) h
 |@so a ob xs ea=>
  cases(show u=Value.ref a from rx);obtain⟨_,_,_,n,_,h1⟩:=(show cS X.prog X.w H s.heap a (.so ob (.lst xs))from I.bY a _ ea)
  exact PySem.W.kia_one PySem.W.kitx_list I.qd ⟨_,h1,rfl⟩ e (fun z=>nomatch z) h
 |@tup a xs ea=>
  cases(show u=Value.ref a from rx);obtain⟨_,_,_,p⟩:=(show cS X.prog X.w H s.heap a (.tup xs)from I.bY a _ ea)
  obtain⟨o,h1,h2,_⟩:=p;exact PySem.W.kia_one PySem.W.kitx_tuple I.qd ⟨o,h1,h2⟩ e (fun z=>nomatch z) h
 |@dK a kvs ea=>
  cases(show u=Value.ref a from rx);obtain⟨_,_,vs,_,p⟩:=(show cS X.prog X.w H s.heap a (.dK kvs)from I.bY a _ ea)
  obtain⟨o,es,ep,h1,h2,_⟩:=p;exact PySem.W.kia_one PySem.W.kitx_dict I.qd ⟨o,h1,h2.1⟩ e (fun z=>nomatch z) h
 |@dT a kvs ea=>
  cases(show u=Value.ref a from rx);obtain⟨_,_,xs,_,o,es,ep,h1,h2,_⟩:=(show cS X.prog X.w H s.heap a (.dT kvs)from I.bY a _ ea)
  exact PySem.W.kia_one PySem.W.kitx_dict I.qd ⟨o,h1,h2.1⟩ e (fun z=>nomatch z) h
 |@ins a C dx fs ea cl ha hn UD hm=>
  cases(show u=Value.ref a from rx);obtain⟨mA,O,_⟩:=sq I.bY ea;obtain⟨od,J,_⟩:=O.look;exact PySem.W.kia_one (PySem.W.kitx_own (cl.get _) cl.hd ha hn UD hm) I.qd J e (fun z=>nomatch z) h
end
structure eV(cm:Bool)(k:Nat)(A:Around):Prop where
 hd:cm=true→A.handled=none
 dp:A.depth+3*k+5<recursionLimit
 un:A.units+16*k+200<cLine
theorem eV.mono{cm:Bool}{j k:Nat}{A:Around}(r:eV cm k A)(h:j≤k):eV cm j A:=⟨r.hd,by have:=r.dp;omega,by have:=r.un;omega⟩
theorem eV.deeper{cm:Bool}{k:Nat}{A:Around}(r:eV cm (k+1) A)(env:Env):eV cm k (A.deeper env):=
 ⟨r.hd,by have:=r.dp;show A.depth+1+3*k+5<_;omega,by have:=r.un;show A.units+3+16*k+200<_;omega⟩
theorem zV{A:Around}{C:Addr}{us:List Value}{kw:List (Str×Value)}:(A.under (.builtin "type.__call__" ⟨.ref C::us,kw⟩)).depth=A.depth+1:=by
 first|rfl|simp[Around.under,Code.weight,Code.isCreation,Code.isGuard,Code.isCaller,Code.frames,Code.isFrame,guardIds]
theorem zW{A:Around}{C:Addr}{us:List Value}{kw:List (Str×Value)}:(A.under (.builtin "type.__call__" ⟨.ref C::us,kw⟩)).units=A.units+1:=by
 first|rfl|simp[Around.under,Code.cUnits,Code.frames,Code.isFrame]
theorem eV.make{cm:Bool}{k:Nat}{A:Around}(r:eV cm (k+1) A)(C:Addr)(us:List Value)(kw:List (Str×Value)):eV cm k (A.under (.builtin "type.__call__" ⟨.ref C::us,kw⟩)):=
 ⟨r.hd,by have:=r.dp;rw[zV];omega,by have:=r.un;rw[zW];omega⟩
theorem eV.depth{cm:Bool}{k:Nat}{A:Around}(r:eV cm k A):A.depth<recursionLimit:=by have:=r.dp;omega
theorem eV.units{cm:Bool}{k:Nat}{A:Around}(r:eV cm k A):A.units+64<cLine:=by have:=r.un;omega
def Ea:TA:=fun _ H Q=>Q [] H
def IV(ta:TE)(tr:TA):TA:=fun σ H Q=>ta σ H fun x H1=>tr σ H1 fun xs H2=>Q (x::xs) H2
section
variable{X:Cx}{e:Expr}{es:List Expr}{te:TE}{t:TA}{pos:Pos}
theorem ai:PA X [] Ea:=fun _ _ _ _ H Q I h=>Calls.spliced_nil ⟨[],H,I, .nil,h⟩
theorem GR(ha:PE X e te)(hr:PA X es t)(hs:starEach (e::es) X.env=(false,eval e X.env)::starEach es X.env:=by rfl):PA X (e::es) (IV te t):=by
 intro pos pins s σ H Q I h;rw[hs];show wpAny _ _ (spliced ((false,eval e X.env)::backTo pos (starEach es X.env))) _ _ s;refine Calls.spliced_cons (cI (ha pins s σ H _ I h) fun u s1 ⟨x,H1,I1,r1,q1⟩=>?_);exact cI (hr pos pins s1 σ H1 _ I1 q1) fun us s2 ⟨xs,H2,I2,r2,q2⟩=>⟨x::xs,H2,I2, .cons r1 r2,q2⟩
def Rq(t:TA):TE:=fun σ H Q=>t σ H fun xs H1=>xs.length≤sizeLine∧∀p,H1 p=none→Q (.ref p) (upd H1 p (.tup xs))
def Rr(t:TA):TE:=fun σ H Q=>t σ H fun xs H1=>xs.length≤sizeLine∧∀p,H1 p=none→Q (.ref p) (upd H1 p (.lst xs))
theorem d6{x1}(h:PA X es t):PE X (.Tuple es x1 pos) (Rq t):=by
 intro pins s σ H Q I hq;refine wpAny_Tuple_spliced (cI (h pos pins s σ H _ I hq) fun us s1 ⟨xs,H1,I1,r,z,q⟩=>⟨by rw[←r.length];exact z,?_⟩);have hf:H1 s1.heap.objs.size=none:=I1.bY.fresh Λ;refine⟨.ref s1.heap.objs.size,upd H1 s1.heap.objs.size (.tup xs),I1.laid (t':=s1.toks) (fun b u e=>Z6 e) (Nat.le_refl _) ?_,rfl,q _ hf⟩;exact⟨z,us,r,⟨_,Heap.get?_push_size _ rfl,rfl,_,rfl⟩⟩
theorem bN(h:PA X es t):PE X (.List es pos) (Rr t):=by
 intro pins s σ H Q I hq;refine wpAny_List_spliced (cI (h pos pins s σ H _ I hq) fun us s1 ⟨xs,H1,I1,r,z,q⟩=>⟨by rw[←r.length];exact z,?_⟩);have hf:H1 s1.heap.objs.size=none:=I1.bY.fresh Λ;refine⟨.ref s1.heap.objs.size,upd H1 s1.heap.objs.size (.lst xs),I1.laid (t':=s1.toks) (fun b u e=>Z6 e) (Nat.le_refl _) ?_,rfl,q _ hf⟩;exact⟨z,us,0,r,Heap.get?_push_size _ rfl⟩
end
abbrev Sp:=List V→Hp→VK→XK→Prop
abbrev Eb:=List Env→Hp→Shared→XK→Value→Shared→Prop
structure zX(P:Program)(w:World)(K:PySem.W.Frag)(mg:Str→Option Value)(base:Heap)(A:Around)(outer:List Env)(s:Shared)(H:Hp):Prop where
 frames:A.frames=some outer
 mod:Mod K mg base
 bs:∀b o,base.get? b=some o→s.heap.get? b=some o∧H b=none
 J3:base.objs.size≤s.heap.objs.size
 uB:s.heap.FunFrames base outer
 Nf:∀b∈oh outer,H b=none
 bY:lE P w H s.heap
 bare:AllBare s.gens
def CE(outer:List Env)(P:Program)(w:World)(H:Hp)(s:Shared)(Q:VK)(u:Value)(s':Shared):Prop:=
 ∃v H',s'.os=s.os∧AllBare s'.gens∧Un (oh outer) [] H H' s.heap s'.heap∧lE P w H' s'.heap∧RelV v u∧Q v H'
def CR(CX:Eb)(outer:List Env)(P:Program)(w:World)(H:Hp)(s:Shared)(Q:VK)(E:XK)(r:Result)(s':Shared):Prop:=
 match r with
 | .ok (.ret u)=>CE outer P w H s Q u s'
 | .ok _=>False
 | .error e=>CX outer H s E e s'
structure a8(P:Program)(w:World)(K:PySem.W.Frag)(mg:Str→Option Value)(base:Heap)(CX:Eb)(cm:Bool)(k:Nat)(f:Addr)(fd:FuncData)(ps:List Str)(sp:Sp):Prop where
 len:∀vs H Q E,sp vs H Q E→vs.length=ps.length
 run:∀(A:Around)(outer:List Env)(s:Shared)(H:Hp)(args:Args)(us:List Value)(vs:List V)(Q:VK)(E:XK),eV cm k A→zX P w K mg base A outer s H→BindsTo s fd args (ps.zip us)→Vals vs us→sp vs H Q E→
  codeAny (model P w) A (.call (.ref f) args) (CR CX outer P w H s Q E) s
theorem zX.make{P:Program}{w:World}{K:PySem.W.Frag}{mg:Str→Option Value}{base:Heap}{A:Around}{outer:List Env}{s:Shared}{H:Hp}(e:zX P w K mg base A outer s H)(C:Addr)(us:List Value)(kw:List (Str×Value)):
  zX P w K mg base (A.under (.builtin "type.__call__" ⟨.ref C::us,kw⟩)) outer s H:=⟨by first|exact e.frames|(simpa[Around.under,Code.envs,Code.isFrame,pushEnvs]using e.frames),e.mod,e.bs,e.J3,e.uB,e.Nf,e.bY,e.bare⟩
section
variable{X:Cx}{pins:List (Addr×Obj)}{σ:St}{H:Hp}{s s':Shared}
theorem Inv.Kl(I:Inv X pins σ H s):zX X.prog X.w X.K X.mg X.base X.A X.stack s H:=
 ⟨I.ok.frames,I.ok.mod,I.bs,Nat.le_trans I.ok.J3 I.sz,I.stack,I.v9,I.bY,I.bare⟩
theorem Inv.after{Q:VK}{u:Value}(I:Inv X pins σ H s)(h:CE X.stack X.prog X.w H s Q u s'):EP X pins σ Q u s':=by
 obtain⟨v,H',os,bare,un,bY,r,q⟩:=h;obtain⟨hh,g,d,t,WC⟩:=s';obtain rfl:WC=s.os:=os;exact⟨v,H',I.call (h':=hh) (g':=g) (d':=d) (t':=t) (ch:=[]) un bY bare (fun b z=>absurd z ZA),r,q⟩
end
def IW(sp:Sp)(mq:List V)(E:St→XK)(t:TA):TE:=fun σ H Q=>t σ H fun vs H1=>sp (vs++mq) H1 Q (E σ)
def Be(C:Addr)(m:Str)(sp:Sp)(mq:List V)(E:St→XK)(ta:TE)(t:TA):TE:=fun σ H Q=>ta σ H fun x H1=>∃a dx fs,x= .ref a∧H1 a=some (.ins C dx fs)∧fs.lookup m=none∧
 t σ H1 fun vs H2=>sp (x::(vs++mq)) H2 Q (E σ)
def Bf(C:Addr)(sp:Sp)(mq:List V)(E:St→XK)(t:TA):TE:=fun σ H Q=>t σ H fun vs H1=>∀x dx,H1 x=none→H1 dx=none→dx≠x→
 sp (.ref x::(vs++mq)) (upd (upd H1 dx (.own x)) x (.ins C dx [])) (fun v H2=>v= .cR∧Q (.ref x) H2) (E σ)
def Binds(K:PySem.W.Frag)(fd:FuncData)(ps:List Str)(ds:List Value):Prop:=
 ∀(s:Shared)(us:List Value),K.In s.heap→(us++ds).length=ps.length→BindsTo s fd ⟨us,[]⟩ (ps.zip (us++ds))
theorem Binds.all{K:PySem.W.Frag}{fd:FuncData}{ps:List Str}(h:∀us:List Value,us.length=ps.length→bindArgs fd ⟨us,[]⟩=pure (ps.zip us)):Binds K fd ps []:=fun s us _ hl=>by
 rw[List.append_nil]at hl⊢;exact .of_eq (h us hl)
def Passes(CX:Eb)(X:Cx)(E:St→XK):Prop:=∀(pins:List (Addr×Obj))(σ:St)(H:Hp)(s:Shared)(e:Value)(s':Shared),Inv X pins σ H s→CX X.stack H s (E σ) e s'→X.xe e s'
section
variable{X:Cx}{CX:Eb}{cm:Bool}{k:Nat}{f C:Addr}{fd:FuncData}{ps:List Str}{sp:Sp}{mq:List V}{ds:List Value}{E:St→XK}{x m:Str}{p pos apos:Pos}{e o:Expr}{es:List Expr}{ta:TE}{t:TA}
theorem zY{pins:List (Addr×Obj)}{σ:St}{H:Hp}{s:Shared}{Q:VK}{us:List Value}{vs:List V}(F:a8 X.prog X.w X.K X.mg X.base CX cm k f fd ps sp)(hr:eV cm k X.A)(hb:Binds X.K fd ps ds)(hd:Vals mq ds)(hx:Passes CX X E)
  (I:Inv X pins σ H s) (r:Vals vs us) (h:sp (vs++mq) H Q (E σ)):wpAny (model X.prog X.w) X.A (call (.ref f) us) (EP X pins σ Q) X.xe s:=by
 have r2:Vals (vs++mq) (us++ds):=r.append hd;have hl:(us++ds).length=ps.length:=by rw[←r2.length];exact F.len _ _ _ _ h
 refine wpAny_call (codeAny_mono (F.run X.A X.stack s H ⟨us,[]⟩ (us++ds) (vs++mq) Q (E σ) hr I.Kl (hb s us I.qd hl) r2 h) fun r s' hq=>?_);cases r with
 |error e=>exact hx pins σ H s e s' I hq
 |ok fl=>
  cases fl with
  |ret u=>exact I.after hq
  |next=>exact False.elim hq
  |brk=>exact False.elim hq
  |cont=>exact False.elim hq
theorem GU(F:a8 X.prog X.w X.K X.mg X.base CX cm k f fd ps sp)(hr:eV cm k X.A)(hg:Gl X x)(hm:X.mg x=some (.ref f))(hk:PySem.W.keepIn X.K (.ref f)=true)(hb:Binds X.K fd ps ds)(hd:Vals mq ds)(hx:Passes CX X E)
  (ha:PA X (e::es) t) (we:(x==("__debug__":Str))=false:=by decide) (he:starEach (e::es) X.env=(false,eval e X.env)::starEach es X.env:=by rfl) (rq:(backTo pos (starEach es X.env)).any (·.1)=false:=by rfl):
  PE X (.Call (.Name x p) (e::es) [] pos) (IW sp mq E t):=by
 intro pins s σ H Q I h;refine wpAny_Call_Name_kw (ot I hg hm ?_ we);refine PySem.W.callWith_K (h₀:=X.base) I.ok.mod.Ml hk (cI (ha pos pins s σ H _ I h) fun us s1 ⟨vs,H1,I1,r,q⟩=>⟨I1.qd,?_⟩) he rq;exact zY F hr hb hd hx I1 r q
theorem GV{pl:Sem Bool}(he:PE X o ta)(c:wc X.K C)(hm:Meth X.K C m f)(F:a8 X.prog X.w X.K X.mg X.base CX cm k f fd ps sp)(hr:eV cm k X.A)(hb:Binds X.K fd ps ds)(hd:Vals mq ds)(hx:Passes CX X E)(ha:PA X (e::es) t)
  (vk:starEach (e::es) X.env=(false,eval e X.env)::starEach es X.env:=by rfl) (rq:(backTo pos (starEach es X.env)).any (·.1)=false:=by rfl)
  (ht:eval (.Call (.Attribute o m apos) (e::es) [] pos) X.env=(do
   let ov←eval o X.env
   standAt apos.atName
   let (f,first)←holding [ov] (getMethod ov m pl)
   callWith pos f first (backTo pos (starEach (e::es) X.env)) (backToKw pos (keywordEach [] X.env))):=by rfl):
  PE X (.Call (.Attribute o m apos) (e::es) [] pos) (Be C m sp mq E ta t):=by
 intro pins s σ H Q I h;refine PySem.W.methodCall_KW (pl:=pl) (cI (he pins s σ H _ I h) fun u s1 ⟨x,H1,I1,rx,a,dx,fs,ex,ea,l,q⟩=>?_) ht;subst ex;obtain rfl:u=Value.ref a:=rx;refine nB I1 ea c hm l ?_;refine PySem.W.callWith_K (first:=[.ref a]) (h₀:=X.base) I.ok.mod.Ml hm.kp (cI (ha pos pins s1 σ H1 _ I1 q) fun us s2 ⟨vs,H2,I2,r,q2⟩=>⟨I2.qd,?_⟩) vk rq;exact zY (us:= .ref a::us) (vs:= .ref a::vs) F hr hb hd hx I2 (.cons rfl r) q2
theorem Ec{pl:Sem Bool}(he:PE X o ta)(c:wc X.K C)(hm:Meth X.K C m f)(F:a8 X.prog X.w X.K X.mg X.base CX cm k f fd ps sp)(hr:eV cm k X.A)(hb:Binds X.K fd ps ds)(hd:Vals mq ds)(hx:Passes CX X E)
  (ht:eval (.Call (.Attribute o m apos) [] [] pos) X.env=(do
   let ov←eval o X.env
   standAt apos.atName
   let (f,first)←holding [ov] (getMethod ov m pl)
   callWith pos f first (backTo pos (starEach [] X.env)) (backToKw pos (keywordEach [] X.env))):=by rfl):
  PE X (.Call (.Attribute o m apos) [] [] pos) (Be C m sp mq E ta Ea):=by
 intro pins s σ H Q I h;refine PySem.W.methodCall_KW (pl:=pl) (cI (he pins s σ H _ I h) fun u s1 ⟨x,H1,I1,rx,a,dx,fs,ex,ea,l,q⟩=>?_) ht;subst ex;obtain rfl:u=Value.ref a:=rx;refine nB I1 ea c hm l ?_;exact PySem.W.callWith_K0 (first:=[.ref a]) I1.qd hm.kp (zY (us:=[.ref a]) (vs:=[.ref a]) F hr hb hd hx I1 (.cons rfl .nil) q)
structure Mk(K:PySem.W.Frag)(C f:Addr):Prop where
 makes:PySem.W.makesIn K C=true
 init:PySem.W.findIn K (.ref C) "__init__"=some (some (.ref f))
 fn:PySem.W.isFn K (.ref f)=true
 kp:PySem.W.keepIn K (.ref C)=true
theorem yu{pins:List (Addr×Obj)}{σ:St}{H:Hp}{s:Shared}{Q:VK}{us:List Value}{vs:List V}(M:Mk X.K C f)(F:a8 X.prog X.w X.K X.mg X.base CX cm k f fd ps sp)(hr:eV cm (k+1) X.A)(hb:Binds X.K fd ps ds)(hd:Vals mq ds)
  (hx:Passes CX X E) (I:Inv X pins σ H s) (r:Vals vs us)
  (h:∀x dx,H x=none→H dx=none→dx≠x→sp (.ref x::(vs++mq)) (upd (upd H dx (.own x)) x (.ins C dx [])) (fun v H2=>v= .cR∧Q (.ref x) H2) (E σ)):
  wpAny (model X.prog X.w) X.A (call (.ref C) us) (EP X pins σ Q) X.xe s:=by
 have hq:=h (s.heap.objs.size+1) s.heap.objs.size (I.bY.fresh (Nat.le_succ _)) (I.bY.fresh Λ) (Nat.ne_of_lt (Nat.lt_succ_self _));have I2:=Inv.made (C:=C) I;have r2:Vals (V.ref (s.heap.objs.size+1)::(vs++mq)) (Value.ref (s.heap.objs.size+1)::(us++ds)):= .cons rfl (r.append hd);have hl:(Value.ref (s.heap.objs.size+1)::us++ds).length=ps.length:=by
  have e:=r2.length;rw[F.len _ _ _ _ hq]at e;exact e.symm
 refine wpAny_call (D9 (f:=f) I.qd M.makes M.init (beq_iff_eq.mp M.fn) (codeAny_mono (F.run _ X.stack _ _ ⟨Value.ref (s.heap.objs.size+1)::us,[]⟩ (Value.ref (s.heap.objs.size+1)::(us++ds)) _ _ (E σ) (hr.make C us [])
  (I2.Kl.make C us []) (hb _ (Value.ref (s.heap.objs.size+1)::us) I2.qd hl) r2 hq) fun r s' ND=>?_))
 cases r with
 |error e=>exact hx pins σ _ _ e s' I2 ND
 |ok fl=>
  cases fl with
  |ret u=>
   obtain⟨v,H',I3,rv,ev,q3⟩:=I2.after ND;subst ev;exact⟨rv,⟨V.ref (s.heap.objs.size+1),H',I3,rfl,q3⟩⟩
  |next=>exact False.elim ND
  |brk=>exact False.elim ND
  |cont=>exact False.elim ND
theorem GW(M:Mk X.K C f)(F:a8 X.prog X.w X.K X.mg X.base CX cm k f fd ps sp)(hr:eV cm (k+1) X.A)(hg:Gl X x)(hm:X.mg x=some (.ref C))(hb:Binds X.K fd ps ds)(hd:Vals mq ds)(hx:Passes CX X E)
  (ha:PA X (e::es) t) (we:(x==("__debug__":Str))=false:=by decide) (he:starEach (e::es) X.env=(false,eval e X.env)::starEach es X.env:=by rfl) (rq:(backTo pos (starEach es X.env)).any (·.1)=false:=by rfl):
  PE X (.Call (.Name x p) (e::es) [] pos) (Bf C sp mq E t):=by
 intro pins s σ H Q I h;refine wpAny_Call_Name_kw (ot I hg hm ?_ we);refine PySem.W.callWith_K (h₀:=X.base) I.ok.mod.Ml M.kp (cI (ha pos pins s σ H _ I h) fun us s1 ⟨vs,H1,I1,r,q⟩=>⟨I1.qd,?_⟩) he rq;exact yu M F hr hb hd hx I1 r q
theorem Ed(M:Mk X.K C f)(F:a8 X.prog X.w X.K X.mg X.base CX cm k f fd ps sp)(hr:eV cm (k+1) X.A)(hg:Gl X x)(hm:X.mg x=some (.ref C))(hb:Binds X.K fd ps ds)(hd:Vals mq ds)(hx:Passes CX X E)
  (we:(x==("__debug__":Str))=false:=by decide):PE X (.Call (.Name x p) [] [] pos) (Bf C sp mq E Ea):=by
 intro pins s σ H Q I h;refine wpAny_Call_Name_kw (ot I hg hm ?_ we);exact PySem.W.callWith_K0 I.qd M.kp (yu (us:=[]) M F hr hb hd hx I .nil h)
end
section
variable{X:Cx}{CX:Eb}{cm:Bool}{k:Nat}{f C:Addr}{fd:FuncData}{ps ks:List Str}{sp:Sp}{E:St→XK}{x m:Str}{p pos apos WD:Pos}{e o:Expr}{es:List Expr}{Y_:List Keyword}{te ta:TE}{t tk:TA}{nm:Option Str}
variable{g:List Value→List Value→List Value}{gV:List V→List V→List V}
end
structure aL(N P:List Str)(sc:Scope):Prop where
 kind:sc.kind= .function
 co:sc.isCoroutine=false
 gen:sc.isGenerator=false
 nd:N.Nodup
 pre:N.take P.length=P
 par:∀x∈P,sc.names.lookup x=some .local∨sc.names.lookup x=some .cell
 Km:∀y∈sc.names,y.2≠ .free
theorem vo{kindOf:Str→Option NameKind}{x:Str}:∀{binds:List (Str×Value)}{m:Str→Option Value},(∀v,(x,v)∉binds)→bindL kindOf binds m x=m x
 |[],_,_=>rfl
 |(n,v)::r,m,h=>by
  unfold bindL;rw[vo fun w hw=>h w (ε hw)];split
  ·have:x≠n:=by rintro rfl;exact h v List.mem_cons_self
   simp[this]
  ·rfl
theorem vp{kindOf:Str→Option NameKind}{x:Str}:∀{binds:List (Str×Value)}{m:Str→Option Value},(∀v,(x,v)∉binds)→bindC kindOf binds m x=m x
 |[],_,_=>rfl
 |(n,v)::r,m,h=>by
  unfold bindC;rw[vp fun w hw=>h w (ε hw)];split
  ·rfl
  ·have:x≠n:=by rintro rfl;exact h v List.mem_cons_self
   simp[this]
theorem vt{kindOf:Str→Option NameKind}{x:Str}{v:Value}:∀{P:List Str}{vs:List Value}{i:Nat}{m:Str→Option Value},P.Nodup→P[i]?=some x→vs[i]?=some v→kindOf x=some .local→
  bindL kindOf (P.zip vs) m x=some v
 |[],_,_,_,_,h,_,_=>by simp at h
 | _::_,[],_,_,_,_,h,_=>by simp at h
 |p::P,w::vs,0,m,nd,h1,h2,hk=>by
  simp at h1 h2;subst h1;subst h2;show bindL kindOf ((p,w)::P.zip vs) m p=_;unfold bindL;rw[vo fun v hv=>(List.nodup_cons.mp nd).1 (List.of_mem_zip hv).1,Z7 hk];simp
 |p::P,w::vs,i+1,m,nd,h1,h2,hk=>by
  show bindL kindOf ((p,w)::P.zip vs) m x=_;unfold bindL;exact vt (i:=i) (List.nodup_cons.mp nd).2 (by simpa using h1) (by simpa using h2) hk
theorem vw{kindOf:Str→Option NameKind}{x:Str}{v:Value}:∀{P:List Str}{vs:List Value}{i:Nat}{m:Str→Option Value},P.Nodup→P[i]?=some x→vs[i]?=some v→kindOf x≠some .local→
  bindC kindOf (P.zip vs) m x=some v
 |[],_,_,_,_,h,_,_=>by simp at h
 | _::_,[],_,_,_,_,h,_=>by simp at h
 |p::P,w::vs,0,m,nd,h1,h2,hk=>by
  simp at h1 h2;subst h1;subst h2;show bindC kindOf ((p,w)::P.zip vs) m p=_;unfold bindC;rw[vp fun v hv=>(List.nodup_cons.mp nd).1 (List.of_mem_zip hv).1,Z5 hk];simp
 |p::P,w::vs,i+1,m,nd,h1,h2,hk=>by
  show bindC kindOf ((p,w)::P.zip vs) m x=_;unfold bindC;exact vw (i:=i) (List.nodup_cons.mp nd).2 (by simpa using h1) (by simpa using h2) hk
def start(N:List Str)(vs:List V):St:=vs.map some++List.replicate (N.length-vs.length) none
def zZ(CX:Eb)(cm:Bool)(P:Program)(w:World)(K:PySem.W.Frag)(mg:Str→Option Value)(base:Heap)(N:List Str)(qual:Str)(scope:Scope)(f:Addr)(cd:Value)(A:Around)(outer:List Env)(s:Shared)(H:Hp)(E:XK):Cx where
 prog:=P
 w:=w
 K:=K
 mg:=mg
 base:=base
 A:=A.deeper (envOfC qual scope s.heap.objs.size f cd)
 N:=N
 dF:=s
 eY:=H
 env:=envOfC qual scope s.heap.objs.size f cd
 outer:=outer
 stack:=envOfC qual scope s.heap.objs.size f cd::outer
 ex:=[]
 calm:=cm
 fn:=fun _=>true
 pn:=[]
 xe:=fun e s'=>wpAny (model P w) (A.deeper (envOfC qual scope s.heap.objs.size f cd)) (leaving (envOfC qual scope s.heap.objs.size f cd) e) (fun _ wg=>CX outer H s E e wg) (fun e' wg=>CX outer H s E e' wg) s'
theorem yv{sc:Scope}{n:Nat}{x:Str}(h:sc.names.lookup x=some .cell):∃c,(cellsFrom n sc.names []).lookup x=some c:=by
 have q:=PySem.W.cellsFrom_some sc.names n [] (.inl h);exact Option.isSome_iff_exists.mp q
theorem Cn{CX:Eb}{cm:Bool}{P:Program}{w:World}{K:PySem.W.Frag}{mg:Str→Option Value}{base:Heap}{N ps:List Str}{qual:Str}{scope:Scope}{f:Addr}{cd:Value}{A:Around}{outer:List Env}{s s1:Shared}{H:Hp}{E:XK}{us:List Value}{vs:List V}
  (S:aL N ps scope) (hd:cm=true→A.handled=none) (e0:zX P w K mg base A outer s H) (hl:vs.length=ps.length) (r:Vals vs us)
  (x:InCallC s s.heap.objs.size (bindL (envOfC qual scope s.heap.objs.size f cd).kindOf (ps.zip us) fun _=>none) (cellsFrom (s.heap.objs.size+1) scope.names []) (bindC (envOfC qual scope s.heap.objs.size f cd).kindOf (ps.zip us) fun _=>none) s1):
  Inv (zZ CX cm P w K mg base N qual scope f cd A outer s H E) [] (start N vs) H s1:=by
 have rq:ps.length≤N.length:=by have:=congrArg List.length S.pre;rw[List.length_take]at this;omega
 obtain⟨h1,tk,rfl,hk⟩:=x.done;have NG:∀b:Addr,b∉(zZ CX cm P w K mg base N qual scope f cd A outer s H E).ex:=fun b z=>absurd (show b∈([]:List Addr)from z) (ZF)
 refine⟨⟨e0.mod,S.kind,rfl,rfl,Nat.le_refl _,fun y z c h1 h2=>?_,fun y hy=>?_,fun y c _ h=>?_,fun z=>hd z,Around.frames_deeper e0.frames, .inr ⟨rfl,rfl⟩,fun b z=>Zn z (NG b),e0.bs,e0.J3,fun b _ _=>NG b,fun b z=>Zn z (NG b),e0.uB,e0.Nf⟩,
  rfl,e0.bare,Un.kept hk,⟨_,x.toInCall.ns,fun i y v h1 h2 h3=>?_⟩,fun y c h=>⟨_,x.cell y c h⟩,e0.bY.fresh Λ,fun y c h=>?_,fun p hp=>absurd (show p∈([]:List (Addr×Obj))from hp) (ZF),e0.bY.kept hk,?_⟩
 ·exact name_of_addr x.apart (PySem.mem_of_lookup h1) (PySem.mem_of_lookup h2)
 ·have hy:scope.names.lookup y=some .cell∨scope.names.lookup y=some .free:=hy;rcases hy with hy|hy
  ·exact yv hy
  ·exact absurd rfl (S.Km _ (PySem.mem_of_lookup hy))
 ·exact Nat.le_of_lt (x.above y c (PySem.mem_of_lookup h))
 ·have hi:i<vs.length:=by
   unfold start at h2;by_cases hi:i<vs.length
   ·exact hi
   ·rw[Ω (by simpa using hi)]at h2;rw[List.getElem?_replicate]at h2;split at h2<;>cases h2
  have ha:vs[i]?=some v:=by
   unfold start at h2;rw[Υ (by simpa using hi),List.getElem?_map]at h2;cases e:vs[i]? with
   |none=>rw[e]at h2;cases h2
   |some a=>rw[e]at h2;cases h2;rfl
  obtain⟨u,hu,rv⟩:=r.get ha;have hp:ps[i]?=some y:=by
   rw[←S.pre,List.getElem?_take_of_lt (Μ)];exact h1
  have UE:ps.Nodup:=by rw[←S.pre];exact S.nd.sublist (List.take_sublist _ _)
  refine⟨u,rv,?_⟩;rcases S.par y (Z0 hp)with k|k
  ·exact .inl ⟨k,vt UE hp hu k⟩
  ·obtain⟨c,e⟩:=yv (n:=s.heap.objs.size+1) k;refine .inr ⟨.inl k,c,e,?_⟩;have q:=x.cell y c e;rw[vw UE hp hu (by show scope.names.lookup y≠_;rw[k];decide)]at q;exact q
 ·exact e0.bY.fresh (Nat.le_of_lt (x.above y c (PySem.mem_of_lookup h)))
 ·unfold start;show _=N.length;rw[List.length_append,List.length_map,List.length_replicate];omega
theorem IX{CX:Eb}{cm:Bool}{P:Program}{w:World}{K:PySem.W.Frag}{mg:Str→Option Value}{base:Heap}{k:Nat}{f:Addr}{name qual:Str}{params:Arguments}{body:List Stmt}{scope:Scope}{dV kV doc pm bU ct oc:Value}{an od:Option Addr}
  {Bg:Array (Option Value)} {N ps:List Str} {sp:Sp} (lk:K.lookup f=some ⟨oc,od, .func (PySem.W.fnOf name qual params body scope dV kV doc pm an bU ct),Bg⟩) (Ce:PySem.W.codeIn K bU qual=true) (S:aL N ps scope)
  (len:∀vs H Q E,sp vs H Q E→vs.length=ps.length)
  (yw:∀(A:Around)(outer:List Env)(s:Shared)(H:Hp)(vs:List V)(Q:VK)(E:XK),eV cm k (A.deeper (envOfC qual scope s.heap.objs.size f bU))→sp vs H Q E→
   ∃t,Cd (zZ CX cm P w K mg base N qual scope f bU A outer s H E) body t∧t {nx:=fun _ H'=>Q .cR H',rt:=Q} (start N vs) H):
  a8 P w K mg base CX cm (k+1) f (PySem.W.fnOf name qual params body scope dV kV doc pm an bU ct) ps sp:=by
 refine⟨len,fun A outer s H args us vs Q E hr e0 hb r Gr=>?_⟩;have hl:=len _ _ _ _ Gr;have KX:K.In s.heap:=e0.mod.Ml.keeps fun b o e=>(e0.bs b o e).1
 have lim:s.heap.NoLimit:=e0.mod.nolimit.keeps fun b o e=>(e0.bs b o e).1
 have NH:∀y∈ps.zip us,scope.names.lookup y.1=some .local∨(scope.names.lookup y.1=some .cell∧((cellsFrom (s.heap.objs.size+1) scope.names []).lookup y.1).isSome=true):=fun⟨n,v⟩ hy=>by
  rcases S.par n (List.of_mem_zip hy).1 with q|q
  ·exact .inl q
  ·exact .inr ⟨q,PySem.W.cellsFrom_some _ _ _ (.inl q)⟩
 refine codeAny_call_function hr.depth (KX _ _ lk) rfl S.co S.gen rfl (PySem.W.codeRec_of KX Ce) (hb _ _ _ _ ?_);refine wpAny_newFunctionEnv_cells S.kind NH fun env he s1 x=>?_
 subst he;refine⟨lim.keeps x.toInCall.keep,codeAny_func ?_⟩;obtain⟨t,ht,hq⟩:=yw A outer s H vs Q E (hr.deeper _) Gr;have I:Inv (zZ CX cm P w K mg base N qual scope f bU A outer s H E) [] (start N vs) H s1:=Cn S hr.hd e0 hl r x;refine wpAny_mono (ht [] s1 (start N vs) H _ I hq) (fun fl s' hs=>?_) fun e s' hs=>hs
 have fin:∀{bq:St}{H':Hp}{v:V}{u:Value},Inv (zZ CX cm P w K mg base N qual scope f bU A outer s H E) [] bq H' s'→RelV v u→Q v H'→CE outer P w H s Q u s':=
  fun{bq H' v u} J rv q=>⟨v,H',J.os,J.bare,J.base,J.bY,rv,q⟩
 cases fl with
 |ret u=>
  obtain⟨v,bq,H',J,rv,q⟩:=hs;exact fin J rv q
 |next=>
  obtain⟨bq,H',J,q⟩:=hs;exact fin (v:=V.cR) (u:=Value.none) J rfl q
 |brk=>
  obtain⟨_,_,_,q⟩:=hs;exact False.elim q
 |cont=>
  obtain⟨_,_,_,q⟩:=hs;exact False.elim q
section
variable{X:Cx}{x:Str}{p pos:Pos}{e:Expr}{es:List Expr}{t:TA}{id T:String}{r:List V→Hp→VK→Prop}
def UG(r:List V→Hp→VK→Prop)(t:TA):TE:=fun σ H Q=>t σ H fun vs H1=>r vs H1 Q
theorem aO(hc:iZ X (.builtin id) r)(hg:Gl X x)(hm:X.mg x=none)(hv:bootBuiltins x=some (.builtin id))(ha:PA X (e::es) t)(hn:x≠"__name__":=by decide)(we:(x==("__debug__":Str))=false:=by decide)
  (he:starEach (e::es) X.env=(false,eval e X.env)::starEach es X.env:=by rfl) (rq:(backTo pos (starEach es X.env)).any (·.1)=false:=by rfl):PE X (.Call (.Name x p) (e::es) [] pos) (UG r t):=by
 intro pins s σ H Q I h;refine wpAny_Call_Name_kw (lF I hg hm hv ?_ hn we);exact PyProof.Rows.callWith_builtin1 (cI (ha pos pins s σ H _ I h) fun us s1 ⟨vs,H1,I1,r1,q1⟩=>hc pins s1 σ H1 vs us Q I1 r1 q1) he rq
theorem fZ(hc:iZ X (.type T) r)(hg:Gl X x)(hm:X.mg x=none)(hv:bootBuiltins x=some (.type T))(ha:PA X (e::es) t)(hn:x≠"__name__":=by decide)(we:(x==("__debug__":Str))=false:=by decide)
  (he:starEach (e::es) X.env=(false,eval e X.env)::starEach es X.env:=by rfl) (rq:(backTo pos (starEach es X.env)).any (·.1)=false:=by rfl):PE X (.Call (.Name x p) (e::es) [] pos) (UG r t):=by
 intro pins s σ H Q I h;refine wpAny_Call_Name_kw (lF I hg hm hv ?_ hn we);exact PyProof.Rows.callWith_type1 (cI (ha pos pins s σ H _ I h) fun us s1 ⟨vs,H1,I1,r1,q1⟩=>hc pins s1 σ H1 vs us Q I1 r1 q1) he rq
end
section
variable{κ:Type}[DecidableEq κ]
def bC(kvs:List (κ×V))(k:κ):Option V:=(kvs.find? fun kv=>decide (kv.1=k)).map (·.2)
def putK(kvs:List (κ×V))(k:κ)(v:V):List (κ×V):=
 if (kvs.any fun kv=>decide (kv.1=k))=true then kvs.map (fun kv=>if kv.1=k then(kv.1,v)else kv)else kvs++[(k,v)]
def i4(kvs:List (κ×V))(k:κ):List (κ×V):=kvs.filter fun kv=>decide (kv.1≠k)
theorem sP{k:κ}:bC ([]:List (κ×V)) k=none:=rfl
theorem cH{p:κ×V}{r:List (κ×V)}{k:κ}(e:p.1=k):bC (p::r) k=some p.2:=by simp[bC,List.find?_cons,e]
theorem cB{p:κ×V}{r:List (κ×V)}{k:κ}(e:¬p.1=k):bC (p::r) k=bC r k:=by simp[bC,List.find?_cons,e]
theorem ij(k:κ):∀kvs:List (κ×V),(kvs.any fun kv=>decide (kv.1=k))=(bC kvs k).isSome
 |[]=>rfl
 |p::r=>by
  rw[List.any_cons];by_cases e:p.1=k
  ·simp only[cH e,decide_eq_true e,Bool.true_or,Option.isSome_some]
  ·rw[cB e,decide_eq_false e,Bool.false_or];exact ij k r
theorem yx(k j:κ)(y:V):∀kvs:List (κ×V),bC (kvs.map fun kv=>if kv.1=k then(kv.1,y)else kv) j=(bC kvs j).map fun x=>if j=k then y else x
 |[]=>rfl
 |p::r=>by
  have ih:=yx k j y r;rw[List.map_cons];by_cases h:p.1=k
  ·rw[Z7 h];by_cases e:p.1=j
   ·rw[cH (p:=(p.1,y)) e,cH e,Option.map_some,Z7 (e.symm.trans h)]
   ·rw[cB (p:=(p.1,y)) e,cB e,ih]
  ·rw[Z5 h];by_cases e:p.1=j
   ·rw[cH (p:=p) e,cH e,Option.map_some,Z5 (fun z=>h (e.trans z))]
   ·rw[cB (p:=p) e,cB e,ih]
theorem vx(k j:κ)(y:V):∀kvs:List (κ×V),bC kvs k=none→bC (kvs++[(k,y)]) j=if j=k then some y else bC kvs j
 |[],_=>by
  by_cases e:k=j
  ·rw[Z7 e.symm];exact cH (p:=(k,y)) e
  ·rw[Z5 (fun z=>e z.symm)];exact cB (p:=(k,y)) e
 |p::r,hn=>by
  rw[List.cons_append];have hk:¬p.1=k:=fun z=>by rw[cH z]at hn;cases hn
  rw[cB hk]at hn;have ih:=vx k j y r hn;by_cases e:p.1=j
  ·rw[cH e,cH e,Z5 (fun z=>hk (e.trans z))]
  ·rw[cB e,cB e,ih]
theorem i5(kvs:List (κ×V))(k j:κ)(y:V):bC (putK kvs k y) j=if j=k then some y else bC kvs j:=by
 unfold putK;by_cases a:(kvs.any fun kv=>decide (kv.1=k))=true
 ·rw[Z7 a,yx];rw[ij]at a;by_cases e:j=k
  ·obtain⟨x,hx⟩:=Option.isSome_iff_exists.mp a;rw[Z7 e,e,hx,Option.map_some,if_pos rfl]
  ·rw[Z5 e];cases bC kvs j with
   |none=>rfl
   |some x=>rw[Option.map_some,Z5 e]
 ·rw[Z5 a];refine vx k j y kvs ?_;rw[ij]at a;cases q:bC kvs k with
  |none=>rfl
  |some x=>rw[q]at a;exact(a rfl).elim
theorem eZ(kvs:List (κ×V))(k:κ)(v:V):(putK kvs k v).length≤kvs.length+1:=by
 unfold putK;split
 ·rw[List.length_map];omega
 ·rw[List.length_append,List.length_cons,List.length_nil];omega
theorem sQ{kvs:List (κ×V)}{k:κ}(v:V)(h:bC kvs k=none):putK kvs k v=kvs++[(k,v)]:=by
 unfold putK;rw[ij,h];exact if_neg (ZD)
theorem kx.j7{o:Option V}{u:Option Value}(r:kx o u):o.isSome=u.isSome:=by
 cases o with
 |none=>cases u with
  |none=>rfl
  |some _=>exact(show False from r).elim
 |some _=>cases u with
  |none=>exact(show False from r).elim
  |some _=>rfl
theorem kx.getD{o:Option V}{u:Option Value}{d:V}{d':Value}(r:kx o u)(rd:RelV d d'):RelV (o.getD d) (u.getD d'):=by
 cases o with
 |none=>cases u with
  |none=>exact rd
  |some _=>exact(show False from r).elim
 |some _=>cases u with
  |none=>exact(show False from r).elim
  |some _=>exact r
theorem KV.val{kvs:List (κ×V)}{vs:List (κ×Value)}(r:KV kvs vs)(k:κ):kx (bC kvs k) (valueAt vs k):=by
 unfold KV at r
 induction r with
 |nil=>exact True.intro
 |@cons p q ps qs h t ih=>
  obtain⟨h1,h2⟩:=h;by_cases e:p.1=k
  ·have e':q.1=k:=h1.symm.trans e;have b:valueAt (q::qs) k=some q.2:=by simp[valueAt,List.find?_cons,e']
   rw[cH e,b];exact h2
  ·have e':¬q.1=k:=fun z=>e (h1.trans z)
   have b:valueAt (q::qs) k=valueAt qs k:=by simp[valueAt,List.find?_cons,e']
   rw[cB e,b];exact ih
theorem KV.any{kvs:List (κ×V)}{vs:List (κ×Value)}(r:KV kvs vs)(k:κ):(kvs.any fun kv=>decide (kv.1=k))=vs.any fun kv=>decide (kv.1=k):=by
 unfold KV at r
 induction r with
 |nil=>rfl
 |cons h t ih=>rw[List.any_cons,List.any_cons,ih,h.1]
theorem KV.Kn{kvs:List (κ×V)}{vs:List (κ×Value)}(r:KV kvs vs)(k:κ){y:V}{u:Value}(ry:RelV y u):
  KV (kvs.map fun kv=>if kv.1=k then(kv.1,y)else kv) (vs.map fun kv=>if kv.1=k then(kv.1,u)else kv):=by
 unfold KV at r⊢
 induction r with
 |nil=>exact .nil
 |@cons p q ps qs h t ih=>
  rw[List.map_cons,List.map_cons];refine .cons ?_ ih;obtain⟨h1,h2⟩:=h;by_cases e:p.1=k
  ·rw[Z7 e,Z7 (h1.symm.trans e)];exact⟨h1,ry⟩
  ·rw[Z5 e,Z5 (fun z=>e (h1.trans z))];exact⟨h1,h2⟩
theorem KV.put{kvs:List (κ×V)}{vs:List (κ×Value)}(r:KV kvs vs)(k:κ){y:V}{u:Value}(ry:RelV y u):KV (putK kvs k y) (stored vs k u):=by
 unfold putK stored;rw[r.any k];by_cases e:(vs.any fun kv=>decide (kv.1=k))=true
 ·rw[Z7 e,Z7 e];exact r.Kn k ry
 ·rw[Z5 e,Z5 e];exact Paired.snoc r ⟨rfl,ry⟩
theorem KV.length{kvs:List (κ×V)}{vs:List (κ×Value)}(r:KV kvs vs):kvs.length=vs.length:=Paired.length r
theorem yy(kvs:List (κ×V))(k:κ):(i4 kvs k).length≤kvs.length:=List.length_filter_le _ _
end
theorem vy{P:Program}{w:World}{k:Key}{u:Value}(r:RelV (kV k) u):(cZ P w).is k u=true:=by
 cases k with
 |inl i=>obtain⟨t,e⟩:=(show ∃t,u=Value.int i t from r);subst e;exact yl P w i t
 |inr x=>obtain⟨t,e⟩:=(show ∃t,u=Value.str x t from r);subst e;exact ym P w x t
theorem vz{P:Program}{w:World}:∀{ks:List Key}{us:List Value},Vals (ks.map kV) us→ItemsAre (cZ P w) ks us
 |[],_,r=>by rw[List.map_nil]at r;cases r;exact .nil
 |k::ks,_,r=>by
  rw[List.map_cons]at r;cases r with
  |cons h t=>exact .cons (vy h) (vz t)
abbrev KT(H:Hp):List (List Key×V)→List (List Key×Addr×Value)→Prop:=Paired fun p q=>p.1=q.1∧H q.2.1=some (.tup (p.1.map kV))∧RelV p.2 q.2.2
theorem KT.val{H:Hp}{kvs:List (List Key×V)}{xs:List (List Key×Addr×Value)}(r:KT H kvs xs)(k:List Key):kx (bC kvs k) ((atKey xs k).map (·.2)):=by
 induction r with
 |nil=>exact True.intro
 |@cons p q ps qs h t ih=>
  obtain⟨h1,_,h2⟩:=h;by_cases e:p.1=k
  ·have e':q.1=k:=h1.symm.trans e;have b:atKey (q::qs) k=some q.2:=by simp[atKey,List.find?_cons,e']
   rw[cH e,b];exact h2
  ·have e':¬q.1=k:=fun z=>e (h1.trans z)
   have b:atKey (q::qs) k=atKey qs k:=by simp[atKey,List.find?_cons,e']
   rw[cB e,b];exact ih
theorem KT.Kn{H:Hp}{kvs:List (List Key×V)}{xs:List (List Key×Addr×Value)}(r:KT H kvs xs)(k:List Key){y:V}{u:Value}(ry:RelV y u):
  KT H (kvs.map fun kv=>if kv.1=k then(kv.1,y)else kv) (xs.map (putAt k u)):=by
 induction r with
 |nil=>exact .nil
 |@cons p q ps qs h t ih=>
  rw[List.map_cons,List.map_cons];refine .cons ?_ ih;obtain⟨h1,h2,h3⟩:=h;unfold putAt;by_cases e:p.1=k
  ·rw[Z7 e,Z7 (h1.symm.trans e)];exact⟨h1,h2,ry⟩
  ·rw[Z5 e,Z5 (fun z=>e (h1.trans z))];exact⟨h1,h2,h3⟩
theorem KT.put{H:Hp}{kvs:List (List Key×V)}{xs:List (List Key×Addr×Value)}(r:KT H kvs xs)(k:List Key){b:Addr}{y:V}{u:Value}(hb:H b=some (.tup (k.map kV)))(ry:RelV y u):
  KT H (putK kvs k y) (storedH xs k b u):=by
 have e:(kvs.any fun kv=>decide (kv.1=k))=(atKey xs k).isSome:=by
  rw[ij,(r.val k).j7,Option.isSome_map]
 unfold putK storedH;rw[e];by_cases q:(atKey xs k).isSome=true
 ·rw[Z7 q,Z7 q];exact r.Kn k ry
 ·rw[Z5 q,Z5 q];exact Paired.snoc r ⟨rfl,hb,ry⟩
theorem KT.keeps{H H':Hp}{kvs:List (List Key×V)}{xs:List (List Key×Addr×Value)}(r:KT H kvs xs)(ht:∀b ys,H b=some (.tup ys)→H' b=some (.tup ys)):KT H' kvs xs:=
 Paired.J1 r fun _ _ z=>⟨z.1,ht _ _ z.2.1,z.2.2⟩
section
variable{P:Program}{w:World}{H:Hp}{h:Heap}{a:Addr}
theorem IY{u:HO}(ok:lE P w H h)(e:Rd H a u):cS P w H h a u:=e.ok ok
theorem sT{kvs:List (Key×V)}(ok:lE P w H h)(e:Rd H a (.dK kvs)):kvs.length≤sizeLine∧(a==sysModules)=false∧∃vs,KV kvs vs∧h.DictOf (cZ P w) a vs:=
 show cS P w H h a (.dK kvs)from IY ok e
theorem NI{kvs:List (Key×V)}(ok:lE P w H h)(e:H a=some (.dK kvs)):kvs.length≤sizeLine∧(a==sysModules)=false∧∃vs,KV kvs vs∧h.DictOf (cZ P w) a vs:=sT ok (.inl e)
theorem nC{ks:List Key}(ok:lE P w H h)(e:H a=some (.tup (ks.map kV))):(tupleKind (cZ P w)).is h ks a:=by
 obtain⟨_,its,r,o,h1,h2,n,h3⟩:=(show cS P w H h a (.tup (ks.map kV))from ok a _ e)
 exact⟨o,its.toArray,n,h1,h2,h3,by simpa using vz r⟩
theorem sU{kvs:List (List Key×V)}(ok:lE P w H h)(e:Rd H a (.dT kvs)):kvs.length≤sizeLine∧(a==sysModules)=false∧
  ∃xs,KT H kvs xs∧h.DictOfH (tupleKind (cZ P w)) a xs:=by
 obtain⟨z,y,xs,r,o,es,ep,h1,h2,h3,h4,h5⟩:=(show cS P w H h a (.dT kvs)from IY ok e)
 refine⟨z,y,xs,r,o,es,ep,h1,h2,h3,h4,fun x hx=>?_,h5⟩;have all:∀{l:List (List Key×V)}{m:List (List Key×Addr×Value)},KT H l m→∀x∈m,(tupleKind (cZ P w)).is h x.1 x.2.1:=by
  intro l m q
  induction q with
  |nil=>intro x hx;exact nomatch hx
  |@cons p q ps qs hq t ih=>
   intro x hx;rcases List.mem_cons.mp hx with e|hx
   ·subst e;exact nC ok (by rw[←hq.1];exact hq.2.1)
   ·exact ih x hx
 exact all r x hx
theorem IZ{kvs:List (List Key×V)}(ok:lE P w H h)(e:H a=some (.dT kvs)):kvs.length≤sizeLine∧(a==sysModules)=false∧
  ∃xs,KT H kvs xs∧h.DictOfH (tupleKind (cZ P w)) a xs:=sU ok (.inl e)
end
def j8(H:Hp)(a:Addr)(y:V)(r:Option V):Prop:=
 (∃kvs k,Rd H a (.dK kvs)∧y=kV k∧r=bC kvs k)∨∃kvs k b,Rd H a (.dT kvs)∧y= .ref b∧H b=some (.tup (k.map kV))∧r=bC kvs k
def GX(H:Hp)(a:Addr)(y v:V)(H':Hp):Prop:=
 (∃kvs k,H a=some (.dK kvs)∧y=kV k∧kvs.length<sizeLine∧H'=upd H a (.dK (putK kvs k v)))∨
 ∃kvs k b,H a=some (.dT kvs)∧y= .ref b∧H b=some (.tup (k.map kV))∧kvs.length<sizeLine∧H'=upd H a (.dT (putK kvs k v))
theorem j8.t{H:Hp}{a b:Addr}{kvs:List (List Key×V)}{k:List Key}(e:H a=some (.dT kvs))(eb:H b=some (.tup (k.map kV))):j8 H a (.ref b) (bC kvs k):= .inr ⟨kvs,k,b, .inl e,rfl,eb,rfl⟩
theorem GX.t{H:Hp}{a b:Addr}{kvs:List (List Key×V)}{k:List Key}{v:V}(e:H a=some (.dT kvs))(eb:H b=some (.tup (k.map kV)))(hl:kvs.length<sizeLine):
  GX H a (.ref b) v (upd H a (.dT (putK kvs k v))):= .inr ⟨kvs,k,b,e,rfl,eb,hl,rfl⟩
section
variable{X:Cx}{pins:List (Addr×Obj)}{σ:St}{H:Hp}{s:Shared}{a:Addr}{y v:V}{u r:Value}{o:Option V}{A:Around}{E:Value→Shared→Prop}
theorem Inv.big(I:Inv X pins σ H s):sysModules<s.heap.objs.size:=by
 have h:mainGlobals<s.heap.objs.size:=(I.mod.glob.keeps I.bk).lt;exact Nat.lt_trans (ZD) h
theorem Co{Q:Value→Shared→Prop}(hu:A.units+1<cLine)(I:Inv X pins σ H s)(g:j8 H a y (some v))(ry:RelV y u)(h:∀w' s',Inv X pins σ H s'→RelV v w'→Q w' s'):
  wpAny (model X.prog X.w) A (getItem (.ref a) u) Q E s:=by
 rcases g with⟨kvs,k,e,ey,l⟩|⟨kvs,k,b,e,ey,eb,l⟩
 ·subst ey;obtain⟨z,hd,vs,rel,dd⟩:=sT I.bY e;obtain⟨w',hw,iE⟩:=kx.some_of (v:=v) (o:=valueAt vs k) (by rw[l];exact rel.val k);exact wpAny_getItem_of (vy ry) dd.mapOf hw (h w' _ (I.tok _) iE)
 ·subst ey;cases(show u=Value.ref b from ry);obtain⟨z,hd,xs,rel,dd⟩:=sU I.bY e;obtain⟨w',hw,iE⟩:=kx.some_of (v:=v) (o:=(atKey xs k).map (·.2)) (by rw[l];exact rel.val k);obtain⟨p,hp,Cp⟩:=Option.map_eq_some_iff.mp hw;refine wpAny_getItem_heap (tupleKind_room_in1 hu) (nC I.bY eb) dd hp ?_;rw[Cp];exact h w' _ (I.tok _) iE
theorem Rt{Q:Value→Shared→Prop}(hu:A.units+1<cLine)(I:Inv X pins σ H s)(g:j8 H a y o)(ry:RelV y u)(h:∀s',Inv X pins σ H s'→Q (.bool o.isSome) s'):
  wpAny (model X.prog X.w) A (compareOp .In u (.ref a)) Q E s:=by
 rcases g with⟨kvs,k,e,ey,l⟩|⟨kvs,k,b,e,ey,eb,l⟩
 ·subst ey;obtain⟨z,hd,vs,rel,dd⟩:=sT I.bY e;refine wpAny_in_of (vy ry) hd dd.mapOf ?_;rw[←(rel.val k).j7,←l];exact h _ (I.tok _)
 ·subst ey;cases(show u=Value.ref b from ry);obtain⟨z,hd,xs,rel,dd⟩:=sU I.bY e;refine wpAny_in_heap (tupleKind_room_in1 hu) (nC I.bY eb) hd dd ?_;have q:=(rel.val k).j7;rw[Option.isSome_map]at q;rw[←q,←l];exact h _ (I.tok _)
theorem GY{Q:Value→Shared→Prop}(hu:A.units+1<cLine)(I:Inv X pins σ H s)(g:j8 H a y o)(ry:RelV y u)(h:∀s',Inv X pins σ H s'→Q (.bool (!o.isSome)) s'):
  wpAny (model X.prog X.w) A (compareOp .NotIn u (.ref a)) Q E s:=by
 rcases g with⟨kvs,k,e,ey,l⟩|⟨kvs,k,b,e,ey,eb,l⟩
 ·subst ey;obtain⟨z,hd,vs,rel,dd⟩:=sT I.bY e;refine wpAny_notIn_of (vy ry) hd dd.mapOf ?_;rw[←(rel.val k).j7,←l];exact h _ (I.tok _)
 ·subst ey;cases(show u=Value.ref b from ry);obtain⟨z,hd,xs,rel,dd⟩:=sU I.bY e;refine wpAny_notIn_heap (tupleKind_room_in1 hu) (nC I.bY eb) hd dd ?_;have q:=(rel.val k).j7;rw[Option.isSome_map]at q;rw[←q,←l];exact h _ (I.tok _)
theorem wj{h':Heap}{t':Nat}{ob:HO}(I:Inv X pins σ H s)(mu:Nb (H a))(hs:Heap.SameBut a s.heap h')(he:∃q,h'.get? a=some q)(new:cS X.prog X.w (upd H a ob) h' a ob):
  Inv X pins σ (upd H a ob) {s with heap:=h',toks:=t'}:=
 I.write (x:=a) (e:=a) mu (.inl rfl) (fun b q hb z=>(hs.2 b hb).trans z) he new
theorem Ko{P:Program}{w:World}{H':Hp}{h':Heap}{kvs:List (Key×V)}{vs:List (Key×Value)}(z:kvs.length≤sizeLine)(hd:(a==sysModules)=false)(rel:KV kvs vs)(dd:h'.DictOf (cZ P w) a vs):
  cS P w H' h' a (.dK kvs):=⟨z,hd,vs,rel,dd⟩
theorem Cq{H':Hp}{Q:Unit→Shared→Prop}(hu:A.units+1<cLine)(I:Inv X pins σ H s)(g:GX H a y v H')(ry:RelV y u)(rv:RelV v r)(h:∀s',Inv X pins σ H' s'→Q () s'):
  wpAny (model X.prog X.w) A (setItem (.ref a) u r) Q E s:=by
 rcases g with⟨kvs,k,e,ey,l,eH⟩|⟨kvs,k,b,e,ey,eb,l,eH⟩
 ·subst ey eH;obtain⟨z,hd,vs,rel,dd⟩:=NI I.bY e;have hz:vs.length≤sizeLine:=by rw[←rel.length];exact z
  have hl:(putK kvs k v).length≤sizeLine:=by have:=eZ kvs k v;omega
  refine wpAny_setItem_pairs (hsz:=hz) (vy ry) dd fun h' I0 hs=>h _ ?_
  have he:∃q,h'.get? a=some q:=let ⟨q,_,_,hq,_⟩:=I0;⟨q,hq⟩
  exact wj I (by rw[e];exact True.intro) hs he (Ko hl hd (rel.put k rv) I0)
 ·subst ey eH;cases(show u=Value.ref b from ry);obtain⟨z,hd,xs,rel,dd⟩:=IZ I.bY e;have hz:xs.length≤sizeLine:=by rw[←Paired.length rel];exact z
  have hl:(putK kvs k v).length≤sizeLine:=by have:=eZ kvs k v;omega
  refine wpAny_setItem_heap (hsz:=hz) (tupleKind_room_in1 hu) (nC I.bY eb) dd fun h' I0 hs=>h _ ?_
  obtain⟨q,es,ep,hq,h2,h3,h4,_,h5⟩:=I0;refine wj I (by rw[e];exact True.intro) hs ⟨q,hq⟩ ⟨hl,hd,_,(rel.put k eb rv).keeps fun c ys ec=>?_,q,es,ep,hq,h2,h3,h4,h5⟩;rw[aj (iY ec e (fun z=>nomatch z))];exact ec
end
section
variable{X:Cx}{pins:List (Addr×Obj)}{σ:St}{H:Hp}{s:Shared}{a:Addr}{kvs:List (Key×V)}{k:Key}{u:Value}{A:Around}{E:Value→Shared→Prop}
end
def NJ(i:Expr):Prop:=∀ov iv,subscripted i false ov iv=operate [ov,iv] (getItem ov iv)
theorem GZ{prog:Program}{w:World}{A:Around}{E:Value→Shared→Prop}{s:Shared}{env:Env}{value slice:Expr}{pos:Pos}{T id:String}{Q:Value→Shared→Prop}
  (hl:typeLookup (.type T) "__getitem__"=pure (some (.builtin id))) (hs:NJ slice)
  (h:wpAny (model prog w) A (eval value env) (fun o cn=>wpAny (model prog w) A (eval slice env) (fun i qe=>qe.TypeIs o T∧wpAny (model prog w) A (getItem o i) Q E qe) E cn) E s):
  wpAny (model prog w) A (eval (.Subscript value slice pos) env) Q E s:=by
 refine Subscript_ (wpAny_mono h (fun o cn Cr=>wpAny_mono Cr (fun i qe Ee=>?_) fun _ _ x=>x) fun _ _ x=>x);obtain⟨hT,Ee⟩:=Ee;unfold subscriptTail;refine wpAny_bind ?_;rw[getitemInPython_of_ne hT.not_modules];refine wpAny_bind (wpAny_specialOf hT hl ?_);have fin:wpAny (model prog w) A (subscripted slice false o i) (fun r Cs=>wpAny (model prog w) A (letTemporaryGo value o r>>=fun _=>pure r) Q E Cs) E qe:=by
  rw[hs o i];exact wpAny_operating (wpAny_mono Ee (fun r Cs G0=>Ζ (wpAny_letTemporaryGo (Ε G0))) fun _ _ x=>x)
 first
  |exact Ε (Ζ fin)
  |exact Ζ (Ε (Ζ fin))
  |exact Ζ fin
theorem yz{X:Cx}{pins:List (Addr×Obj)}{σ:St}{H:Hp}{s:Shared}{a:Addr}{y:V}{o:Option V}(I:Inv X pins σ H s)(g:j8 H a y o):s.TypeIs (.ref a) "dict":=by
 rcases g with⟨kvs,k,e,_,_⟩|⟨kvs,k,b,e,_,_,_⟩
 ·obtain⟨_,_,vs,_,dd⟩:=sT I.bY e;exact dd.typeIs
 ·obtain⟨_,_,xs,_,dd⟩:=sU I.bY e;exact dd.typeIs
def NK(td ty:TE):TE:=fun σ H Q=>td σ H fun x H1=>ty σ H1 fun y H2=>∃a v,x= .ref a∧j8 H2 a y (some v)∧Q v H2
def Ru(ty td:TE):TE:=fun σ H Q=>ty σ H fun y H1=>td σ H1 fun x H2=>∃a o,x= .ref a∧j8 H2 a y o∧Q (.bl o.isSome) H2
def G6(ty td:TE):TE:=fun σ H Q=>ty σ H fun y H1=>td σ H1 fun x H2=>∃a o,x= .ref a∧j8 H2 a y o∧Q (.bl (!o.isSome)) H2
def NL(td ty tv:TE):TS:=fun D σ H=>tv σ H fun v H1=>td σ H1 fun x H2=>ty σ H2 fun y H3=>∃a H4,x= .ref a∧GX H3 a y v H4∧D.nx σ H4
section
variable{X:Cx}{o i e value:Expr}{pos pos' Rp:Pos}{td ty tv:TE}
theorem iH(hu:X.A.units+1<cLine)(ho:PE X o td)(hi:PE X i ty)(hs:NJ i):PE X (.Subscript o i pos) (NK td ty):=by
 intro pins s σ H Q I h;refine GZ PySem.F.slot_dict_getitem.lookup hs (cI (ho pins s σ H _ I h) fun u s1 ⟨x,H1,I1,rx,q1⟩=>cI (hi pins s1 σ H1 _ I1 q1) fun iv s2 ⟨y,H2,I2,ry,a,v,ex,g,q2⟩=>?_);subst ex;obtain rfl:u=Value.ref a:=rx;exact⟨yz I2 g,Co hu I2 g ry fun w' s3 I3 iE=>⟨v,H2,I3,iE,q2⟩⟩
theorem qk(hu:X.A.units+1<cLine)(hi:PE X i ty)(ho:PE X o td):PC X .In i o (Ru ty td):=by
 intro pins s σ H Q I h;refine cI (hi pins s σ H _ I h) fun iv s1 ⟨y,H1,I1,ry,q1⟩=>cI (ho pins s1 σ H1 _ I1 q1) fun u s2 ⟨x,H2,I2,rx,a,ov,ex,g,q2⟩=>?_
 subst ex;obtain rfl:u=Value.ref a:=rx;exact Rt hu I2 g ry fun s3 I3=>⟨.bl ov.isSome,H2,I3,rfl,q2⟩
theorem vA(hu:X.A.units+1<cLine)(hi:PE X i ty)(ho:PE X o td):PC X .NotIn i o (G6 ty td):=by
 intro pins s σ H Q I h;refine cI (hi pins s σ H _ I h) fun iv s1 ⟨y,H1,I1,ry,q1⟩=>cI (ho pins s1 σ H1 _ I1 q1) fun u s2 ⟨x,H2,I2,rx,a,ov,ex,g,q2⟩=>?_
 subst ex;obtain rfl:u=Value.ref a:=rx;exact GY hu I2 g ry fun s3 I3=>⟨.bl (!ov.isSome),H2,I3,rfl,q2⟩
theorem ky(hu:X.A.units+1<cLine)(ho:PE X o td)(hi:PE X i ty)(hv:PE X value tv)(hs:swapsWith value (some (.Subscript o i pos')) pos.line X.env=pure false):
  PS X (.Assign [.Subscript o i pos'] value pos) (NL td ty tv):=by
 intro pins s σ H D I h;refine wpAny_Assign_Subscript (cI (hv pins s σ H _ I h) fun r s1 ⟨v,H1,I1,rv,q1⟩=>cI (ho pins s1 σ H1 _ I1 q1) fun u s2 ⟨x,H2,I2,rx,q2⟩=>cI (hi pins s2 σ H2 _ I2 q2) fun iv s3 ⟨y,H3,I3,ry,a,H4,ex,g,q3⟩=>?_) hs;subst ex;obtain rfl:u=Value.ref a:=rx;exact Cq hu I3 g ry rv fun s4 I4=>⟨σ,H4,I4,q3⟩
end
theorem Ef{P:Program}{w:World}{H:Hp}(h:Heap)(hb:sysModules<h.objs.size):cS P w H (h.push {cls:= .type "dict",data:= .dict #[]}) h.objs.size (.dT []):=
 ⟨Nat.zero_le _,beq_eq_false_iff_ne.mpr (Ne.symm (Nat.ne_of_lt hb)),[], .nil,_,#[],0,Heap.get?_push_size _ rfl,⟨rfl,rfl,rfl⟩,rfl,rfl,List.nodup_nil⟩
def Kq:TE:=fun _ H Q=>∀p,H p=none→Q (.ref p) (upd H p (.dT []))
section
variable{X:Cx}{pos:Pos}
theorem j9:PE X (.Dict [] [] pos) Kq:=fun pins s σ H Q I h=>
 wpAny_Dict_empty ⟨.ref s.heap.objs.size,_,I.laid (a:=s.heap.objs.size) (o:= .dT []) (t':=s.toks) (fun _ _ q=>Z6 q) (Nat.le_refl _) (Ef s.heap I.big),rfl,h _ (I.bY.fresh Λ)⟩
end
structure M1(X:Cx)(o:Expr)(m:Str)(apos:Pos)(e:Expr)(eI:Pos):Prop where
 base:attributeBase o m X.env (eval o X.env)=eval o X.env
 vB:((backTo eI (starEach [e] X.env)).all (fun x=>!x.1)&&(backToKw eI (keywordEach [] X.env)).all (fun x=>x.1.isSome)
  &&decide (([e]:List Expr).length+([]:List Keyword).length+(if ([]:List Keyword).isEmpty then 0 else 1)<30))=true
 line:(apos.endLine==eI.line)=true
 trees:backTo eI (starEach [e] X.env)=[(false,eval e X.env)]
def Rv(H:Hp)(a:Addr):Prop:=(∃kvs,Rd H a (.dK kvs))∨∃kvs,Rd H a (.dT kvs)
theorem Eh{X:Cx}{pins:List (Addr×Obj)}{σ:St}{H:Hp}{s:Shared}{a:Addr}(I:Inv X pins σ H s)(d:Rv H a):
  s.TypeIs (.ref a) "dict"∧(∀b,Value.ref a= .ref b→∃ob,s.heap.get? b=some ob∧ob.dict=none)∧(a==sysModules)=false:=by
 rcases d with⟨kvs,e⟩|⟨kvs,e⟩
 ·obtain⟨_,hd,vs,_,dd⟩:=sT I.bY e;refine⟨dd.typeIs,fun b q=>?_,hd⟩;cases q;obtain⟨ob,_,_,h1,h2,_⟩:=dd;exact⟨ob,h1,h2.2.1⟩
 ·obtain⟨_,hd,xs,_,dd⟩:=sU I.bY e;refine⟨dd.typeIs,fun b q=>?_,hd⟩;cases q;obtain⟨ob,_,_,h1,h2,_⟩:=dd;exact⟨ob,h1,h2.2.1⟩
section
variable{X:Cx}{pins:List (Addr×Obj)}{σ:St}{H:Hp}{s:Shared}{a:Addr}{y d:V}{u r:Value}{o:Option V}{A:Around}{E:Value→Shared→Prop}
theorem Kr{Q:Value→Shared→Prop}(hu:A.units+1<cLine)(I:Inv X pins σ H s)(g:j8 H a y o)(ry:RelV y u)(h:∀w' s',Inv X pins σ H s'→RelV (o.getD .cR) w'→Q w' s'):
  wpAny (model X.prog X.w) A (call (.builtin "dict.get") [.ref a,u]) Q E s:=by
 rcases g with⟨kvs,k,e,ey,l⟩|⟨kvs,k,b,e,ey,eb,l⟩
 ·subst ey;obtain⟨z,hd,vs,rel,dd⟩:=sT I.bY e;refine call_meetsIn PySem.F.slot_dict_get dd.typeIs PySem.F.entry_dict_get (PySem.F.args_dict_get_2 _ _) (meets_dict_get (cZ X.prog X.w) a (vy ry) hd) ⟨_,dd.mapOf,h _ _ (I.tok _) ?_⟩;rw[l];exact(rel.val k).getD rfl
 ·subst ey;cases(show u=Value.ref b from ry);obtain⟨z,hd,xs,rel,dd⟩:=sU I.bY e;refine call_meetsIn PySem.F.slot_dict_get dd.typeIs PySem.F.entry_dict_get (PySem.F.args_dict_get_2 _ _) (meetsH_dict_get (tupleKind (cZ X.prog X.w)) a b hd) ⟨tupleKind_room_in1 hu,k,xs,nC I.bY eb,dd,h _ _ (I.tok _) ?_⟩;rw[l];exact(rel.val k).getD rfl
end
def Kt(td ty:TE):TE:=fun σ H Q=>td σ H fun x H1=>∃a,x= .ref a∧Rv H1 a∧ty σ H1 fun y H2=>∃o,j8 H2 a y o∧Q (o.getD .cR) H2
section
variable{X:Cx}{o e f:Expr}{apos eI:Pos}{td ty tx:TE}
theorem Ei(hu:X.A.units+1<cLine)(ho:PE X o td)(he:PE X e ty)(m:M1 X o "get" apos e eI):PE X (.Call (.Attribute o "get" apos) [e] [] eI) (Kt td ty):=by
 intro pins s σ H Q I h;refine wpAny_Call_method m.base m.vB m.line PySem.F.plainAttrs_dict PySem.F.slot_dict_get PySem.F.type_dict_get (cI (ho pins s σ H _ I h) fun u s1 ⟨x,H1,I1,rx,a,ex,d,q1⟩=>?_);subst ex;obtain rfl:u=Value.ref a:=rx;obtain⟨t1,t2,_⟩:=Eh I1 d;refine⟨t1,t2,?_⟩;rw[m.trees];refine Calls.callWith_builtin rfl (Calls.evalArgs_plain (Calls.spliced_cons (cI (he pins s1 σ H1 _ I1 q1) fun iv s2 ⟨y,H2,I2,ry,ov,g,q2⟩=>Calls.spliced_nil ?_)));exact Kr hu I2 g ry fun w' s3 I3 iE=>⟨_,H2,I3,iE,q2⟩
end
section
variable{X:Cx}{pins:List (Addr×Obj)}{σ:St}{H:Hp}{s:Shared}{a:Addr}{kvs:List (Key×V)}{A:Around}{E:Value→Shared→Prop}
end
section
variable{X:Cx}{pins:List (Addr×Obj)}{σ:St}{H:Hp}{s:Shared}{a:Addr}{y:V}{u:Value}{A:Around}{E:Value→Shared→Prop}
end
end L2
namespace HT
open PySem PyProof.Rows
section
open PySem.SeqAt
open PySem.AutoSeq1 (wpAny_loadPart')
open PySem.MeetsSeq PySem.MeetsSeq2 PySem.MeetsSeq3
end
section
variable{prog:Program}{w:World}{A:Around}{E:Value→Shared→Prop}{s:Shared}
def kz(n d:Nat):Option Int→Nat
 |none=>d
 |some v=>if v<0 then(v+(n:Int)).toNat else min v.toNat n
theorem Ej(n d:Nat):kz n d none=d:=rfl
theorem Ek(n d:Nat)(hd:d≤n)(o:Option Int):kz n d o≤n:=by
 cases o with
 |none=>exact hd
 |some v=>
  show(if v<0 then(v+(n:Int)).toNat else min v.toNat n)≤n;by_cases hv:v<0
  ·rw[Z7 hv];omega
  ·rw[Z5 hv];exact Nat.min_le_right _ _
end
end HT
namespace L2
open PySem PySem.Spec PyProof.Rows
abbrev TO:=St→Hp→(Option Int→Hp→Prop)→Prop
def PO(X:Cx)(e:Option Expr)(t:TO):Prop:=
 ∀(pins:List (Addr×Obj))(s:Shared)(σ:St)(H:Hp)(Q:Option Int→Hp→Prop),Inv X pins σ H s→t σ H Q→
  wpAny (model X.prog X.w) X.A (evalPart e X.env) (fun u s'=>∃o H',Inv X pins σ H' s'∧IsPart u o∧Q o H') X.xe s
def G7:TO:=fun _ H Q=>Q none H
def NM(t:TE):TO:=fun σ H Q=>t σ H fun x H1=>∃i,x= .int i∧Q (some i) H1
section
variable{X:Cx}{e:Expr}{te:TE}{lo hi:Option Expr}{tl th:TO}{pos p2:Pos}
theorem wk:PO X none G7:=by
 intro pins s σ H Q I h;rw[evalPart_none];exact Ε ⟨none,H,I, .none,h⟩
theorem oB(h:PE X e te):PO X (some e) (NM te):=by
 intro pins s σ H Q I hw;rw[evalPart_some];refine cI (h pins s σ H _ I hw) fun u s1 ⟨x,H1,I1,r1,q1⟩=>?_
 obtain⟨i,rfl,q⟩:=q1;obtain⟨t,rfl⟩:=r1;exact⟨some i,H1,I1, .int i t,q⟩
def PK(X:Cx)(r:V→Option Int→Option Int→Hp→VK→Prop):Prop:=
 ∀(pins:List (Addr×Obj))(s:Shared)(σ:St)(H:Hp)(x:V)(v vl vu:Value)(lo hi:Option Int)(sl:Addr)(Q:VK),Inv X pins σ H s→RelV x v→s.heap.IsSliceOf sl vl vu .none→IsPart vl lo→IsPart vu hi→r x lo hi H Q→
  ∃T id,typeLookup (.type T) "__getitem__"=pure (some (.builtin id))∧s.TypeIs v T∧wpAny (model X.prog X.w) X.A (getItem v (.ref sl)) (EP X pins σ Q) X.xe s
def WE(r:V→Option Int→Option Int→Hp→VK→Prop)(te:TE)(tl th:TO):TE:=fun σ H Q=>te σ H fun x H1=>tl σ H1 fun l H2=>th σ H2 fun u H3=>r x l u H3 Q
theorem oC{r:V→Option Int→Option Int→Hp→VK→Prop}(hr:PK X r)(he:PE X e te)(hl:PO X lo tl)(hu:PO X hi th):PE X (.Subscript e (.Slice lo hi none p2) pos) (WE r te tl th):=by
 intro pins s σ H Q I h;refine Subscript_ (cI (he pins s σ H _ I h) fun v s1 ⟨x,H1,I1,r1,q1⟩=>?_);refine wpAny_Slice (cI (hl pins s1 σ H1 _ I1 q1) fun vl s2 ⟨l,H2,I2,pl,q2⟩=>cI (hu pins s2 σ H2 _ I2 q2) fun vu s3 ⟨u,H3,I3,pu,q3⟩=>?_);rw[evalPart_none];refine wpAny_pure ?_;have I4:Inv X pins σ H3 {s3 with heap:=s3.heap.push {cls:= .type "slice",data:= .fields #[vl,vu, .none]}}:=I3.kept (t':=s3.toks) fun b ob q=>Z6 q
 obtain⟨T,id,hT,ht,hg⟩:=hr pins {s3 with heap:=s3.heap.push {cls:= .type "slice",data:= .fields #[vl,vu, .none]}} σ H3 x v vl vu l u s3.heap.objs.size Q I4 r1 (Heap.IsSliceOf.new ..) pl pu q3;show wpAny (model X.prog X.w) X.A (subscriptTail e (.Slice lo hi none p2) v (.ref s3.heap.objs.size)) (EP X pins σ Q) X.xe {s3 with heap:=s3.heap.push {cls:= .type "slice",data:= .fields #[vl,vu, .none]}};exact tail_any (ops:=[.ref s3.heap.objs.size,v]) ht hT hg (by with_unfolding_all rfl)
def Ct(xs:List V)(lo hi:Option Int):List V:=(xs.drop (HT.kz xs.length 0 lo)).take (HT.kz xs.length xs.length hi-HT.kz xs.length 0 lo)
theorem yA(xs:List V)(lo hi:Option Int):(Ct xs lo hi).length≤xs.length:=by
 unfold Ct;rw[List.length_take,List.length_drop];omega
end
def El(n:Nat)(i:Int):Option Nat:=if 0≤i then(if i<n then some i.toNat else none)else if-(n:Int)≤i then some (i+n).toNat else none
def rO{α:Type}(xs:List α)(i:Int):Option α:=(El xs.length i).bind fun j=>xs[j]?
theorem Bh{n:Nat}{i:Int}{j:Nat}(h:El n i=some j):seqIndex? i n=some j∧j<n∧-(n:Int)≤i∧i<n:=by
 unfold El at h;by_cases h0:0≤i
 ·rw[Z7 h0]at h;by_cases h1:i<n
  ·rw[Z7 h1]at h;have e:i.toNat=j:=Z' h;exact⟨by rw[seqIndex_of h0 h1,e],Μ,Μ,h1⟩
  ·rw[Z5 h1]at h;cases h
 ·rw[Z5 h0]at h;by_cases h1:-(n:Int)≤i
  ·rw[Z7 h1]at h;have e:(i+n).toNat=j:=Z' h;exact⟨by rw[seqIndex_neg (Μ) h1,e],Μ,h1,Μ⟩
  ·rw[Z5 h1]at h;cases h
theorem wm{α:Type}{xs:List α}{i:Int}{v:α}(h:rO xs i=some v):∃j,seqIndex? i xs.length=some j∧xs[j]?=some v∧j<xs.length∧-(xs.length:Int)≤i∧i<xs.length:=by
 unfold rO at h;cases e:El xs.length i with
 |none=>rw[e]at h;cases h
 |some j=>
  rw[e]at h;obtain⟨h1,h2,h3,h4⟩:=Bh e;exact⟨j,h1,h,h2,h3,h4⟩
theorem au{α:Type}{xs:List α}{j:Nat}{v:α}(h:xs[j]?=some v):rO xs (j:Int)=some v:=by
 have hj:j<xs.length:=(ZO h).1;have e:El xs.length (j:Int)=some j:=by
  unfold El;rw[if_pos (Μ),if_pos (Μ)];simp
 unfold rO;rw[e];exact h
theorem yB{α:Type}(xs:List α)(v:α):rO (xs++[v]) (-1)=some v:=by
 have hl:(xs++[v]).length=xs.length+1:=ZF;have e:El (xs++[v]).length (-1)=some xs.length:=by
  unfold El;rw[hl,if_neg (ZD),if_pos (Μ)]
  congr 1
  omega
 unfold rO;rw[e];show(xs++[v])[xs.length]?=some v;simp
def G8(b:Expr):Prop:=∀o i,subscripted b false o i=operate [o,i] (getItem o i)
def Mr(X:Cx)(r:R2):Prop:=
 ∀(value slice:Expr)(pins:List (Addr×Obj))(s:Shared)(σ:St)(H:Hp)(x y:V)(v u:Value)(Q:VK),Inv X pins σ H s→RelV x v→RelV y u→r x y H Q→
  subscripted slice false v u=operate [v,u] (getItem v u)→wpAny (model X.prog X.w) X.A (subscriptTail value slice v u) (EP X pins σ Q) X.xe s
def PL(X:Cx)(id:String)(r:V→List V→Hp→VK→Prop):Prop:=
 ∀(pins:List (Addr×Obj))(s:Shared)(σ:St)(H:Hp)(x:V)(xs:List V)(v:Value)(us:List Value)(Q:VK),Inv X pins σ H s→RelV x v→Vals xs us→r x xs H Q→
  wpAny (model X.prog X.w) X.A (call (.builtin id) (v::us)) (EP X pins σ Q) X.xe s
section
variable{X:Cx}{a b:Expr}{ta tb:TE}{pos:Pos}
theorem aB{r:R2}(hr:Mr X r)(ha:PE X a ta)(hb:PE X b tb)(hs:G8 b):PE X (.Subscript a b pos) (PH r ta tb):=by
 intro pins s σ H Q I h;exact Subscript_ (Kf ha hb I h fun v u s2 x y H2 I2 rx ry q=>hr a b pins s2 σ H2 x y v u Q I2 rx ry q (hs _ _))
inductive Ku(K:PySem.W.Frag)(x:V)(y:V)(H:Hp)(Q:VK):Prop
 |mk (p:_) (xs:_) (i:_) (v:_) (_:x= .ref p) (_:y= .int i) (_:iD K H p xs) (_:rO xs i=some v) (_:Q v H):Ku K x y H Q
inductive Kv(K:PySem.W.Frag)(x:V)(y:V)(H:Hp)(Q:VK):Prop
 |mk (p:_) (xs:_) (i:_) (v:_) (_:x= .ref p) (_:y= .int i) (_:DZ K H p xs) (_:rO xs i=some v) (_:Q v H):Kv K x y H Q
inductive NN(x:V)(y:V)(H:Hp)(Q:VK):Prop
 |mk (z:_) (i:_) (c:_) (_:x= .str z) (_:y= .int i) (_:z.length≤sizeLine) (_:rO z.cps.toList i=some c) (_:Q (.str ⟨#[c]⟩) H):NN x y H Q
theorem G9:Mr X (Ku X.K):=by
 intro value slice pins s σ H x y v u Q I rx ry h hs;obtain⟨p,xs,i,z,rfl,rfl,hq,he,q⟩:=h;cases rx;obtain⟨t,rfl⟩:=ry;obtain⟨its,r,pl,hz⟩:=I.list hq;obtain⟨j,h1,h2,h3,h4,h5⟩:=wm he;obtain⟨w,ew,iE⟩:=r.get h2;have hl:=r.length;have hn:=qf;have fin:EP X pins σ Q w s:=⟨z,H,I,iE,q⟩
 by_cases h0:0≤i
 ·have hj:i.toNat=j:=by
   rw[seqIndex_of h0 h5]at h1;exact Z' h1
  exact item_listR pl.isList h0 (Μ) (by rw[hj];simpa using ew) fin hs
 ·have hj:(i+(its.toArray.size:Int)).toNat=j:=by
   rw[seqIndex_neg (Μ) h4]at h1;rw[List.size_toArray,←hl];exact Z' h1
  exact subscriptTail_builtinR (x:=w) pl.isList.typeIs slot_list_getitem.lookup
   (wpAny_getItem_list_neg (Q:=fun r s'=>r=w∧EP X pins σ Q r s') pl.isList (Μ) (by rw[List.size_toArray]<;>omega) (Μ) (by rw[hj];simpa using ew) ⟨rfl,fin⟩) hs
theorem Kx:Mr X (Kv X.K):=by
 intro value slice pins s σ H x y v u Q I rx ry h hs;obtain⟨p,xs,i,z,rfl,rfl,hq,he,q⟩:=h;cases rx;obtain⟨t,rfl⟩:=ry;obtain⟨its,r,pl,hz⟩:=I.tuple hq;obtain⟨j,h1,h2,h3,h4,h5⟩:=wm he;obtain⟨w,ew,iE⟩:=r.get h2;have hl:=r.length;have hn:=qf;have fin:EP X pins σ Q w s:=⟨z,H,I,iE,q⟩
 exact subscriptTail_builtinR (x:=w) pl.typeIs slot_tuple_getitem.lookup
  (getItem_tuple (j:=j) (Q:=fun r s'=>r=w∧EP X pins σ Q r s') pl (Μ) (Μ) (by rw[List.size_toArray,←hl];exact h1) (by simpa using ew) ⟨rfl,fin⟩) hs
theorem Em:Mr X NN:=by
 intro value slice pins s σ H x y v u Q I rx ry h hs;obtain⟨z,i,c,rfl,rfl,hz,he,q⟩:=h;obtain⟨t,rfl⟩:=rx;obtain⟨t',rfl⟩:=ry;obtain⟨j,h1,h2,h3,h4,h5⟩:=wm he;have hl:z.cps.toList.length=z.length:=by simp[Str.length]
 rw[hl]at h1 h4 h5;have hn:=qf;exact tail_any (typeIs_str s z t) slot_str_getitem.lookup (getItem_str (c:=c) (by
  have e1:decide (i< -(2^63:Int))=false:=decide_eq_false (Μ);have e2:decide (i≥2^63)=false:=decide_eq_false (Μ);rw[e1,e2,Bool.or_false]) (by rw[h1];simpa using h2) ⟨.str ⟨#[c]⟩,H,I.tok _,⟨_,rfl⟩,q⟩) hs
theorem z9(its:List Value)(n j:Nat)(u:Value):Obj.mapSeq (·.setIfInBounds j u) {cls:= .type "list",data:= .seq its.toArray n}={cls:= .type "list",data:= .seq (its.set j u).toArray n}:=by
 simp[Obj.mapSeq]
theorem Inv.lst{pins:List (Addr×Obj)}{σ:St}{H:Hp}{s:Shared}{p:Addr}{xs:List V}(I:Inv X pins σ H s)(h:H p=some (.lst xs)):
  ∃(its:List Value)(n:Nat),Vals xs its∧s.heap.get? p=some {cls:= .type "list",data:= .seq its.toArray n}∧xs.length≤sizeLine:=by
 obtain⟨z,its,n,r,e⟩:=I.bY p _ h;exact⟨its,n,r,e,z⟩
theorem Inv.Kz{pins:List (Addr×Obj)}{σ:St}{H:Hp}{s:Shared}{p:Addr}{xs ys:List V}{its its':List Value}{n n':Nat}{f:Obj→Obj}(I:Inv X pins σ H s)(h:H p=some (.lst xs))
  (ho:s.heap.get? p=some {cls:= .type "list",data:= .seq its.toArray n}) (hf:f {cls:= .type "list",data:= .seq its.toArray n}={cls:= .type "list",data:= .seq its'.toArray n'}) (r:Vals ys its') (hz:ys.length≤sizeLine) (t:Nat):
  Inv X pins σ (upd H p (.lst ys)) {s with heap:=s.heap.update p f,toks:=t}:=by
 have e:(s.heap.update p f).get? p=some {cls:= .type "list",data:= .seq its'.toArray n'}:=by
  rw[Heap.get?_update_self f ho (by rw[hf]<;>rfl),hf]
 refine I.write (x:=p) (e:=p) (by rw[h];trivial) (.inl rfl) (fun b u hb q=>(Heap.get?_update_other _ _ (Ne.symm hb)).trans q) ⟨_,e⟩ ?_;exact⟨hz,its',n',r,e⟩
inductive I_(o:V)(i:V)(v:V)(H:Hp)(Q:(Hp→Prop)):Prop
 |mk (p:_) (xs:_) (k:_) (j:_) (_:o= .ref p) (_:i= .int k) (_:H p=some (.lst xs)) (_:El xs.length k=some j) (_:Q (upd H p (.lst (xs.set j v)))):I_ o i v H Q
theorem set_list:Nt X I_:=by
 intro pins s σ H o i v ov iv u Q I ro ri rv h;obtain⟨p,xs,k,j,rfl,rfl,hp,hj,q⟩:=h;cases ro;obtain⟨t,rfl⟩:=ri;obtain⟨its,n,r,ho,hz⟩:=I.lst hp;obtain⟨h1,h2,h3,h4⟩:=Bh hj;have hl:=r.length;have hn:=qf;have I':Inv X pins σ (upd H p (.lst (xs.set j v))) {s with heap:=s.heap.update p (Obj.mapSeq (·.setIfInBounds j u))}:=
  I.Kz hp ho (z9 its n j u) (r.set rv j) (by rw[List.length_set];exact hz) s.toks
 by_cases h0:0≤k
 ·have hk:k.toNat=j:=by
   rw[seqIndex_of h0 h4]at h1;exact Z' h1
  exact PySem.W.ki_setAt ho h0 (Μ) (by rw[List.size_toArray,←hl];exact h4) (by rw[hk];exact⟨_,I',q⟩)
 ·have hk:(k+(its.toArray.size:Int)).toNat=j:=by
   rw[seqIndex_neg (Μ) h3]at h1;rw[List.size_toArray,←hl];exact Z' h1
  exact PySem.W.ki_setBack ho (Μ) (by rw[List.size_toArray,←hl];exact h3) (Μ) (by rw[hk];exact⟨_,I',q⟩)
theorem wt(lo hi:Option Int)(n:Nat):(sliceBounds lo hi none n).1=((HT.kz n 0 lo:Nat):Int)∧(sliceBounds lo hi none n).2.1=((HT.kz n n hi:Nat):Int)∧(sliceBounds lo hi none n).2.2=1:=by
 refine⟨?_,?_,rfl⟩
 ·cases lo with
  |none=>simp[sliceBounds,HT.kz]
  |some i=>
   simp only[sliceBounds,HT.kz,Option.getD_none,show(1:Int)>0 by decide,if_true];by_cases h:i<0
   ·simp only[h,if_true]<;>lia
   ·simp only[h,if_false]<;>lia
 ·cases hi with
  |none=>simp[sliceBounds,HT.kz]
  |some i=>
   simp only[sliceBounds,HT.kz,Option.getD_none,show(1:Int)>0 by decide,if_true];by_cases h:i<0
   ·simp only[h,if_true]<;>lia
   ·simp only[h,if_false]<;>lia
theorem uD(its:List Value)(lo hi:Option Int):slicePick its.toArray lo hi none=((its.drop (HT.kz its.length 0 lo)).take (HT.kz its.length its.length hi-HT.kz its.length 0 lo)).toArray:=by
 obtain⟨h1,h2,h3⟩:=wt lo hi its.toArray.size;unfold slicePick;rw[h1,h2,h3];simp only[sliceRange_one,pick_run,List.size_toArray]<;>rfl
inductive KA(K:PySem.W.Frag)(x:V)(lo:Option Int)(hi:Option Int)(H:Hp)(Q:VK):Prop
 |mk (a:_) (xs:_) (_:x= .ref a) (_:iD K H a xs) (_:∀p,H p=none→Q (.ref p) (upd H p (.lst (Ct xs lo hi)))):KA K x lo hi H Q
theorem G_:PK X (KA X.K):=by
 intro pins s σ H x v vl vu lo hi sl Q I rx hs pl pu h;obtain⟨a,xs,rfl,hx,q⟩:=h;cases rx;obtain⟨its,r,ht,hz⟩:=I.list hx;have hlen:=r.length;refine⟨"list",_,slot_list_getitem.lookup,ht.isList.typeIs,?_⟩;refine wpAny_getItem_list_slice ht.isList hs pl pu .none (ZF) ?_ (by rw[List.size_toArray]<;>omega);rw[uD,←hlen];refine⟨.ref s.heap.objs.size,_,I.laid (t':=s.toks) (o:= .lst (Ct xs lo hi)) (fun b ob q=>Z6 q) (Nat.le_refl _) ?_,rfl,q _ (I.bY.fresh Λ)⟩;exact⟨Nat.le_trans (yA xs lo hi) hz,_,0,(r.drop (HT.kz xs.length 0 lo)).take (HT.kz xs.length xs.length hi-HT.kz xs.length 0 lo),Heap.get?_push_size _ rfl⟩
def rz:V→Bool
 | .cR=>true
 | .bl _=>true
 | .int _=>true
 | .str _=>true
 | _=>false
def wu:V→V→Bool
 | .cR, .cR=>true
 | .bl a, .bl b=>a==b
 | .bl a, .int b=>(if a then 1 else 0)==b
 | .int a, .bl b=>a==(if b then 1 else 0)
 | .int a, .int b=>a==b
 | .str a, .str b=>a==b
 | _,_=>false
theorem wz{A:Around}{s:Shared}{y x:V}{u v:Value}(ry:RelV y u)(rx:RelV x v)(fy:rz y=true)(fx:rz x=true):SeqAt.EqAt A s u v (wu y x):=by
 cases y with
 |cR=>
  cases ry;cases x with
  |cR=>cases rx;exact SeqAt.EqAt.same _
  |bl b=>cases rx;exact SeqAt.EqAt.none_bool b
  |int b=>obtain⟨t,rfl⟩:=rx;exact SeqAt.EqAt.none_int b t
  |str b=>obtain⟨t,rfl⟩:=rx;exact SeqAt.EqAt.none_str b t
  | _=>exact Zn (show false=true from fx) Bool.false_ne_true
 |bl a=>
  cases ry;cases x with
  |cR=>cases rx;exact SeqAt.EqAt.bool_none a
  |bl b=>cases rx;exact SeqAt.EqAt.bool_bool a b
  |int b=>obtain⟨t,rfl⟩:=rx;exact SeqAt.EqAt.bool_int a b t
  |str b=>obtain⟨t,rfl⟩:=rx;exact SeqAt.EqAt.bool_str a b t
  | _=>exact Zn (show false=true from fx) Bool.false_ne_true
 |int a=>
  obtain⟨t',rfl⟩:=ry;cases x with
  |cR=>cases rx;exact SeqAt.EqAt.int_none a t'
  |bl b=>cases rx;exact SeqAt.EqAt.int_bool a t' b
  |int b=>obtain⟨t,rfl⟩:=rx;exact SeqAt.EqAt.int_int a t' b t
  |str b=>obtain⟨t,rfl⟩:=rx;exact SeqAt.EqAt.int_str a t' b t
  | _=>exact Zn (show false=true from fx) Bool.false_ne_true
 |str a=>
  obtain⟨t',rfl⟩:=ry;cases x with
  |cR=>cases rx;exact SeqAt.EqAt.str_none a t'
  |bl b=>cases rx;exact SeqAt.EqAt.str_bool a t' b
  |int b=>obtain⟨t,rfl⟩:=rx;exact SeqAt.EqAt.str_int a t' b t
  |str b=>obtain⟨t,rfl⟩:=rx;exact SeqAt.EqAt.str_str a t' b t
  | _=>exact Zn (show false=true from fx) Bool.false_ne_true
 | _=>exact Zn (show false=true from fy) Bool.false_ne_true
theorem wA:iZ X (.builtin "len") (fun xs H Q=>∃p ys,xs=[.ref p]∧(iD X.K H p ys∨DZ X.K H p ys)∧Q (.int ys.length) H):=by
 intro pins s σ H xs us Q I r h;obtain⟨p,ys,rfl,hq,q⟩:=h;obtain⟨u,rfl,rx⟩:=vals1 r;cases rx;have hn:=qf;rcases hq with hq|hq
 ·obtain⟨its,r',pl,hz⟩:=I.list hq;have hlen:=r'.length;exact Calls.call_len_list pl.isList (by simp only[List.size_toArray]<;>omega) ⟨.int ys.length,H,I.tok _,⟨s.toks+1,by rw[List.size_toArray,hlen]⟩,q⟩
 ·obtain⟨its,r',pl,hz⟩:=I.tuple hq;have hlen:=r'.length;exact len_tuple pl (by simp only[List.size_toArray]<;>omega) ⟨.int ys.length,H,I.tok _,⟨s.toks+1,by rw[List.size_toArray,hlen]⟩,q⟩
theorem oE:iZ X (.builtin "len") (fun xs H Q=>∃z,xs=[.str z]∧z.length≤sizeLine∧Q (.int z.length) H):=by
 intro pins s σ H xs us Q I r h;obtain⟨z,rfl,hz,q⟩:=h;obtain⟨u,rfl,t,rfl⟩:=vals1 r;have hn:=qf;exact len_str (Μ) ⟨.int z.length,H,I.tok _,⟨_,rfl⟩,q⟩
theorem wB:iZ X (.type "list") (fun xs H Q=>∃p ys,xs=[.ref p]∧(iD X.K H p ys∨DZ X.K H p ys)∧∀l,H l=none→Q (.ref l) (upd H l (.lst ys))):=by
 intro pins s σ H xs us Q I r h;obtain⟨p,ys,rfl,hq,q⟩:=h;obtain⟨u,rfl,rx⟩:=vals1 r;cases rx;have fin:∀(its:List Value),Vals ys its→ys.length≤sizeLine→∀(h':Heap)(c':Nat),(∀b o',s.heap.get? b=some o'→h'.get? b=some o')→
   h'.get? s.heap.objs.size=some {cls:= .type "list",dict:=none,data:= .seq its.toArray c',slots:=#[]}→EP X pins σ Q (.ref s.heap.objs.size) {s with heap:=h'}:=fun its r' hz h' c' kp e=>
  ⟨.ref s.heap.objs.size,_,I.laid (t':=s.toks) kp Λ (show cS X.prog X.w _ h' _ (.lst ys)from⟨hz,its,c',r',e⟩),rfl,q _ (I.bY.fresh Λ)⟩
 rcases hq with hq|hq
 ·obtain⟨its,r',pl,hz⟩:=I.list hq;have hlen:=r'.length;obtain⟨o,ho,hc,n,hd⟩:=pl.isList;exact call_list_seq p (.inl rfl) ho hc hd (fun h' c' kp e=>fin its r' hz h' c' kp e) (by simp only[List.size_toArray]<;>omega)
 ·obtain⟨its,r',pl,hz⟩:=I.tuple hq;have hlen:=r'.length;obtain⟨o,ho,hc,n,hd⟩:=pl;exact call_list_seq p (.inr rfl) ho hc hd (fun h' c' kp e=>fin its r' hz h' c' kp e) (by simp only[List.size_toArray]<;>omega)
def Rw(K:PySem.W.Frag)(T:String)(x:V)(H:Hp):Prop:=match x with
 | .str _=>T="str"
 | .int _=>T="int"
 | .ref p=>(T="list"∧∃xs,iD K H p xs)∨(T="tuple"∧∃o,K.lookup p=some o∧o.cls= .type "tuple"∧o.dict=none)∨
   (T="dict"∧((∃kvs,H p=some (.dK kvs))∨∃kvs,H p=some (.dT kvs)))∨(T="set"∧∃S n,H p=some (.set S n))
 | _=>False
theorem En{pins:List (Addr×Obj)}{σ:St}{H:Hp}{s:Shared}{T:String}{x:V}{v:Value}(I:Inv X pins σ H s)(r:RelV x v)(ty:Rw X.K T x H):
  s.TypeIs v T∧∀a,v= .ref a→∃ob,s.heap.get? a=some ob∧ob.dict=none:=by
 cases x with
 |str z=>
  obtain⟨t,rfl⟩:=r;cases(show T="str" from ty);exact⟨typeIs_str s z t,fun _ e=>nomatch e⟩
 |int i=>
  obtain⟨t,rfl⟩:=r;cases(show T="int" from ty);exact⟨typeIs_int s i t,fun _ e=>nomatch e⟩
 |ref p=>
  cases r;rcases ty with⟨rfl,xs,hq⟩|⟨rfl,o,hk,hc,hd⟩|⟨rfl,hk⟩|⟨rfl,S,n,hk⟩
  ·obtain⟨its,_,pl,_⟩:=I.list hq;refine⟨pl.isList.typeIs,fun a e=>?_⟩;cases e;obtain⟨o,n,e,c,hd,_⟩:=pl;exact⟨o,e,hd⟩
  ·refine⟨⟨o,I.qd p o hk,hc⟩,fun a e=>?_⟩;cases e;exact⟨o,I.qd _ o hk,hd⟩
  ·have z:∃o,s.heap.get? p=some o∧o.ExactDict:=by
    rcases hk with⟨kvs,hk⟩|⟨kvs,hk⟩
    ·obtain⟨_,_,_,_,o,_,_,e,ex,_⟩:=I.bY p _ hk;exact⟨o,e,ex⟩
    ·obtain⟨_,_,_,_,o,_,_,e,ex,_⟩:=I.bY p _ hk;exact⟨o,e,ex⟩
   obtain⟨o,e,ex⟩:=z;refine⟨⟨o,e,ex.1⟩,fun a e2=>?_⟩;cases e2;exact⟨o,e,ex.2.1⟩
  ·obtain⟨o,_,_,_,e,ex,_⟩:=I.bY p _ hk;refine⟨⟨o,e,ex.1⟩,fun a e2=>?_⟩;cases e2;exact⟨o,e,ex.2.1⟩
 | _=>exact False.elim ty
def NO(K:PySem.W.Frag)(T:String)(r:V→List V→Hp→VK→Prop)(to:TE):TE:=fun σ H Q=>to σ H fun x H1=>Rw K T x H1∧r x [] H1 Q
def UH(K:PySem.W.Frag)(T:String)(r:V→List V→Hp→VK→Prop)(to:TE)(t:TA):TE:=fun σ H Q=>to σ H fun x H1=>Rw K T x H1∧t σ H1 fun xs H2=>r x xs H2 Q
variable{o e:Expr}{es:List Expr}{to:TE}{t:TA}{name:Str}{apos eI:Pos}{T id:String}{r:V→List V→Hp→VK→Prop}
theorem KC(pa:PlainAttrs T)(slot:Slot T name id)(DC:typeOf (.builtin id)=pure (.type "method_descriptor"))(hm:PL X id r)(ho:PE X o to)
  (oF:attributeBase o name X.env (eval o X.env)=eval o X.env:=by rfl) (oG:(apos.endLine==eI.line)=true:=by rfl):PE X (.Call (.Attribute o name apos) [] [] eI) (NO X.K T r to):=by
 intro pins s σ H Q I h;refine wpAny_Call_method0_late oF oG (cI (ho pins s σ H _ I h) fun v s1 ⟨x,H1,I1,r1,ty,q1⟩=>?_);obtain⟨h1,h2⟩:=En I1 r1 ty;exact⟨T,id,pa,slot,DC,h1,h2,Calls.callWith_builtin rfl (PySem.evalArgs_none (hm pins s1 σ H1 x [] v [] Q I1 r1 .nil q1))⟩
theorem NP(pa:PlainAttrs T)(slot:Slot T name id)(DC:typeOf (.builtin id)=pure (.type "method_descriptor"))(hm:PL X id r)(ho:PE X o to)(ha:PA X (e::es) t)
  (oF:attributeBase o name X.env (eval o X.env)=eval o X.env:=by rfl)
  (Eo:((backTo eI (starEach (e::es) X.env)).all (fun x=>!x.1)&&(backToKw eI (keywordEach [] X.env)).all (fun x=>x.1.isSome)
   &&decide ((e::es).length+([]:List Keyword).length+(if ([]:List Keyword).isEmpty then 0 else 1)<30))=true:=by rfl)
  (oG:(apos.endLine==eI.line)=true:=by rfl) (hs:starEach (e::es) X.env=(false,eval e X.env)::starEach es X.env:=by rfl) (z_:(backTo eI (starEach es X.env)).any (·.1)=false:=by rfl):
  PE X (.Call (.Attribute o name apos) (e::es) [] eI) (UH X.K T r to t):=by
 intro pins s σ H Q I h;refine wpAny_Call_method_late oF Eo oG rfl (cI (ho pins s σ H _ I h) fun v s1 ⟨x,H1,I1,r1,ty,q1⟩=>?_);obtain⟨h1,h2⟩:=En I1 r1 ty;refine⟨T,id,pa,slot,DC,h1,h2,?_⟩;have hA:=ha eI pins s1 σ H1 _ I1 q1;rw[hs]at hA⊢;refine Calls.callWith_builtin (by show(false||(backTo eI (starEach es X.env)).any (·.1))=false;rw[z_]<;>rfl) (Calls.evalArgs_plain ?_);exact cI hA fun us s2 ⟨vs,H2,I2,r2,q2⟩=>hm pins s2 σ H2 x vs v us Q I2 r1 r2 q2
end
def Rx(X:Cx)(id:String)(r:V→List V→Hp→VK→Prop):Prop:=
 ∀(pins:List (Addr×Obj))(s:Shared)(σ:St)(H:Hp)(x:V)(xs:List V)(v:Value)(us:List Value)(Q:VK),Inv X pins σ H s→RelV x v→Vals xs us→r x xs H Q→
  wpAny (model X.prog X.w) X.A (call (.builtin id) (v::us)) (EP X pins σ Q) X.xe s
theorem Vals.one:∀{x:V}{us:List Value},Vals [x] us→∃u,us=[u]∧RelV x u
 | _,_, .cons r .nil=>⟨_,rfl,r⟩
theorem Vals.zero:∀{us:List Value},Vals [] us→us=[]
 | _, .nil=>rfl
theorem Vals.reverse{xs:List V}{us:List Value}(h:Vals xs us):Vals xs.reverse us.reverse:=by
 induction h with
 |nil=>exact .nil
 |cons r t ih=>rw[List.reverse_cons,List.reverse_cons];exact Vals.append ih (.cons r .nil)
theorem Vals.rep{xs:List V}{us:List Value}(h:Vals xs us):∀k:Nat,Vals (List.replicate k xs).flatten (List.replicate k us).flatten
 |0=> .nil
 |k+1=>by
  rw[List.replicate_succ,List.replicate_succ,List.flatten_cons,List.flatten_cons];exact Vals.append h (Vals.rep h k)
theorem foldl_rep(its:List Value):∀(k:Nat)(acc:List Value),
  List.foldl (fun x1 x2=>x1++x2) acc.toArray (List.replicate k its.toArray)=(acc++(List.replicate k its).flatten).toArray
 |0,acc=>ZF
 |k+1,acc=>by
  have e:acc.toArray++its.toArray=(acc++its).toArray:=ZF;have e2:(acc++its)++(List.replicate k its).flatten=acc++(List.replicate (k+1) its).flatten:=by
   rw[List.replicate_succ,List.flatten_cons,List.append_assoc]
  rw[←e2,←foldl_rep its k (acc++its),←e,List.replicate_succ,List.foldl_cons]
section
variable{X:Cx}{pins:List (Addr×Obj)}{σ:St}{H:Hp}{s:Shared}{l b:Addr}{xs ys zs:List V}
theorem Inv.KD{its its':List Value}{n:Nat}{f:Array Value→Array Value}{t':Nat}(I:Inv X pins σ H s)(hH:H l=some (.lst xs))
  (e:s.heap.get? l=some {cls:= .type "list",data:= .seq its.toArray n}) (hf:f its.toArray=its'.toArray) (hv:Vals ys its') (hz:ys.length≤sizeLine):
  Inv X pins σ (upd H l (.lst ys)) {s with heap:=s.heap.update l (Obj.mapSeq f),toks:=t'}:=by
 have q:=PySem.IsL.update e f;rw[hf]at q;refine I.write (x:=l) (e:=l) (by rw[hH];exact trivial) (.inl rfl) (fun b' u hb hu=>(Heap.get?_update_other s.heap (Obj.mapSeq f) (Ne.symm hb)).trans hu) ⟨_,q⟩ ?_;exact⟨hz,its',_,hv,q⟩
theorem Inv.Ry{its:List Value}{t':Nat}(I:Inv X pins σ H s)(hv:Vals ys its)(hz:ys.length≤sizeLine):
  Inv X pins σ (upd H s.heap.objs.size (.lst ys)) {s with heap:=s.heap.push {cls:= .type "list",data:= .seq its.toArray},toks:=t'}:=
 I.laid (fun _ _ q=>Z6 q) (Nat.le_refl _) ⟨hz,its,0,hv,Heap.get?_push_size _ rfl⟩
theorem Inv.fresh(I:Inv X pins σ H s):H s.heap.objs.size=none:=I.bY.fresh Λ
theorem Inv.Ep(I:Inv X pins σ H s)(hH:H l=some (.lst xs)):xs.length≤sizeLine∧∃(its:List Value)(n:Nat),Vals xs its∧xs.length=its.length∧s.heap.get? l=some {cls:= .type "list",data:= .seq its.toArray n}:=by
 obtain⟨z,its,n,r,e⟩:=I.bY l _ hH;exact⟨z,its,n,r,r.length,e⟩
theorem yC{n:Nat}(h:n≤sizeLine):Builtin.List.listTooLong n=false:=by
 unfold Builtin.List.listTooLong;exact decide_eq_false (Μ)
end
section
variable{X:Cx}
inductive Bi(x:V)(vs:List V)(H:Hp)(Q:VK):Prop
 |mk (l:_) (xs:_) (y:_) (_:x= .ref l) (_:vs=[y]) (_:H l=some (.lst xs)) (_:xs.length<sizeLine) (_:Q .cR (upd H l (.lst (xs++[y])))):Bi x vs H Q
theorem bS:Rx X "list.append" Bi:=by
 intro pins s σ H x vs v us Q I rx rv h;obtain⟨l,xs,y,rfl,rfl,hH,hz,q⟩:=h;cases rx;obtain⟨u,rfl,ru⟩:=rv.one;obtain⟨z,its,n,r,hl,e⟩:=I.Ep hH;refine call_meets F.slot_list_append ⟨_,e,rfl⟩ F.entry_list_append (F.args_list_append_2 _ _) (PySem.list_append l its.toArray n u (by rw[List.size_toArray];omega)) ⟨e,?_⟩;refine⟨.cR,_,I.KD (its':=its++[u]) hH e ZA (r.append (.cons ru .nil)) ?_,rfl,q⟩;rw[List.length_append,List.length_singleton];omega
def Ha:V→List V→Hp→VK→Prop:=fun x vs H Q=>∃l b xs zs,x= .ref l∧vs=[.ref b]∧H l=some (.lst xs)∧H b=some (.lst zs)∧xs.length+zs.length≤sizeLine∧Q .cR (upd H l (.lst (xs++zs)))
theorem vC:Rx X "list.extend" Ha:=by
 intro pins s σ H x vs v us Q I rx rv h;obtain⟨l,b,xs,zs,rfl,rfl,hH,hB,hz,q⟩:=h;cases rx;obtain⟨u,rfl,ru⟩:=rv.one;cases ru;obtain⟨z,its,n,r,hl,e⟩:=I.Ep hH;obtain⟨z2,eJ,n2,r2,wC,e2⟩:=I.Ep hB;have hsz:its.toArray.size+eJ.toArray.size≤sizeLine:=by rw[List.size_toArray,List.size_toArray];omega
 have Es:¬(!its.toArray.isEmpty&&Builtin.List.listTooLong (its.toArray.size+eJ.toArray.size))=true:=by
  rw[yC hsz,Bool.and_false];exact Bool.false_ne_true
 refine call_meets F.slot_list_extend ⟨_,e,rfl⟩ F.entry_list_extend (F.args_list_extend_2 _ _)
  (AutoSeq1.list_extend_list_list_0 l its.toArray n b eJ.toArray n2 Es (by rw[List.size_toArray];omega) (Μ)) ⟨e,e2,?_⟩
 refine⟨.cR,_,I.KD (its':=its++eJ) hH e ZA (r.append r2) ?_,rfl,q⟩;rw[List.length_append];omega
def Et:V→List V→Hp→VK→Prop:=fun x vs H Q=>∃l xs,x= .ref l∧vs=[]∧H l=some (.lst xs)∧Q .cR (upd H l (.lst xs.reverse))
theorem Aa:Rx X "list.reverse" Et:=by
 intro pins s σ H x vs v us Q I rx rv h;obtain⟨l,xs,rfl,rfl,hH,q⟩:=h;cases rx;have Rz:=rv.zero;subst Rz;obtain⟨z,its,n,r,hl,e⟩:=I.Ep hH;refine call_meets F.slot_list_reverse ⟨_,e,rfl⟩ F.entry_list_reverse (F.args_list_reverse_1 _) (AutoSeq1.list_reverse_list_0 l its.toArray n (by rw[List.size_toArray];omega)) ⟨e,?_⟩;refine⟨.cR,_,I.KD (its':=its.reverse) hH e ZA r.reverse ?_,rfl,q⟩;rw[List.length_reverse];omega
def RA:R2:=fun x y H Q=>∃l k xs,x= .ref l∧y= .int k∧H l=some (.lst xs)∧-(2^63)≤k∧k<2^63∧xs.length*k.toNat≤sizeLine∧
 ∀p,H p=none→Q (.ref p) (upd H p (.lst (List.replicate k.toNat xs).flatten))
theorem len_rep{α:Type}(xs:List α)(k:Nat):(List.replicate k xs).flatten.length=k*xs.length:=by
 induction k with
 |zero=>simp
 |succ k ih=>rw[List.replicate_succ,List.flatten_cons,List.length_append,ih,Nat.succ_mul,Nat.add_comm]
theorem KG:rN X (binaryOp .Mult) RA:=by
 intro pins s σ H x y v u Q I rx ry h;obtain⟨l,k,xs,rfl,rfl,hH,h1,h2,hz,q⟩:=h;cases rx;obtain⟨t,rfl⟩:=ry;obtain⟨z,its,n,r,hl,e⟩:=I.Ep hH;have hlen:its.toArray.size*k.toNat≤sizeLine:=by rw[List.size_toArray,←hl];exact hz
 have RB:¬its.toArray.size*k.toNat>(2^63-1)/8:=by
  have:(sizeLine:Nat)≤(2^63-1)/8:=ZD;omega
 have RD:¬(!Builtin.List.listFitsIndex k)=true:=by
  rw[fitsIndex_both h1 h2];exact Bool.false_ne_true
 have Es:¬Builtin.List.listTooLong (its.toArray.size*k.toNat)=true:=by
  rw[yC hlen];exact Bool.false_ne_true
 have Cu:List.foldl (fun x1 x2=>x1++x2) #[] (List.replicate (if its.toArray.isEmpty=true then 0 else k.toNat) its.toArray)=(List.replicate k.toNat its).flatten.toArray:=by
  have f0:∀m:Nat,List.foldl (fun x1 x2=>x1++x2) #[] (List.replicate m its.toArray)=(List.replicate m its).flatten.toArray:=fun m=>by
   have:=foldl_rep its m [];rw[List.nil_append]at this;exact this
  rw[f0];cases its with
  |nil=>simp
  |cons a r'=>rw[if_neg ZA]
 refine wpAny_binaryOp_repeat_ref (T:="list") (U:="int") (ZD) ⟨_,e,rfl⟩ (fun s'=>typeIs_int s' k t) noFill_list_mul F.fills_int_mul F.slot_int_rmul repeat_list F.slot_int_index.lookup
  (call_meets F.slot_int_rmul (typeIs_int s k t) F.entry_int_rmul (F.args_int_rmul_2 _ _) (int___rmul___int_list k t l its.toArray n)
   ⟨e,rfl,⟨_,e,rfl⟩,call_meets F.slot_list_mul ⟨_,e,rfl⟩ F.entry_list_mul (F.args_list_mul_2 _ _) (AutoListH.list___mul___list_int_3 l its.toArray n k t RD RB Es) ⟨e,?_⟩⟩)
 rw[Cu];exact⟨.ref _,_,I.Ry (t':=s.toks) (r.rep k.toNat) (by rw[len_rep,Nat.mul_comm];exact hz),rfl,q _ I.fresh⟩
end
section
variable{prog:Program}{w:World}{A:Around}{E:Value→Shared→Prop}{s:Shared}
end
section
variable{X:Cx}
end
end L2
namespace UI
open PySem PySem.W PySem.Calls PyProof.Rows
theorem rP{P:Params}{h:Heap}:∀(ns:List Int)(vs:List Value),WellAll P h vs (ns.map WData.int)→IntsAre vs ns:=by
 intro ns
 induction ns with
 |nil=>
  intro vs w;rw[List.map_nil]at w;cases w;exact .nil
 |cons n ns ih=>
  intro vs w;rw[List.map_cons]at w;cases w with
  |cons a b=>
   cases a;exact .cons _ _ (ih _ b)
theorem Cv{l:OpenLaw}{n:Nat}(hn:l.most=some n){P:Params}{h:Heap}{args:List WData}{vals:List Value}
  (Hb:l.row.toRowW.claim.pre args=true) (NQ:WellAll P h vals args):
  ∃a vs ns,vals=[Value.ref a]∧args=[WData.list (ns.map WData.int)]∧h.get? a=some {cls:= .type "list",data:= .seq vs.toArray}∧IntsAre vs ns∧ns.length≤n:=by
 have NR:WShape.hasAll [] args [.list .int]=true:=(pre_splitW Hb).1;have hc:l.pre.holds [] {args:=args}=true:=(pre_splitW Hb).2;obtain⟨d,r,rfl,h1,h2⟩:=hasAllW_cons NR;obtain rfl:=hasAllW_nil h2;obtain⟨xs,rfl,h3⟩:=hasW_list h1;obtain⟨ns,rfl⟩:=items_int h3;have hlen:ns.length≤n:=by
  unfold OpenLaw.pre at hc;have h4:(WTm.not (.lt (.lit (.int (n:Int))) (.len (.arg 0)))).holds [] {args:=[.list (ns.map .int)]}=true:=by
   have h4:=(holds_andW hc).1;rw[hn]at h4;exact h4
  have h5:=condW_of h4 (w_not (w_lt w_lit (w_len_list (w_arg rfl))));rw[List.length_map]at h5;refine Nat.le_of_not_lt fun q=>?_
  have q':(n:Int)<((ns.length:Nat):Int):=Μ;first
   |(rw[decide_eq_true q']at h5;exact absurd h5 (ZD))
   |(simp at h5;omega)
 cases NQ with
 |cons w1 w2=>
  cases w2;cases w1 with
  |list ho RE=>exact⟨_,_,ns,rfl,rfl,ho,rP ns _ RE,hlen⟩
theorem Cw(l:OpenLaw)(args:List WData):l.row.toRowW.claim.post args (.bool true) args=true:=
 postW_of (r:=l.row.toRowW) (X:=(true==true))
  (show WShape.has [] (.bool true) .bool=true by first|rfl|decide|simp[WShape.has,WShape.arms,WShape.armsAll])
  (show(WTm.eq .res (.lit (.bool true))).value [] {args:=args,res:=some (.bool true),after:=args}=some (.bool (true==true))from w_eq_bool (w_res rfl) w_lit) rfl
theorem yD{l:OpenLaw}{n:Nat}{q:Program}{loose:List Str}{XP:(Str→Option Value)→Heap→Prop}{YP:World→Heap→Prop}{d:DefRec}
  (hn:l.most=some n) (NU:d.params.defaults=[])
  (call:∀(w:World)(dF cn:Shared)(mg mb:Str→Option Value)(fa:Addr)(o:Obj)(pm cd doc:Value)(a:Addr)(vs:List Value)(ns:List Int),
   Ground q loose [] XP w dF mg mb cn.heap→YP w cn.heap→
   cn.heap.get? fa=some o→o.data= .func (docDef d.name d.params d.body d.scope pm cd doc)→cn.heap.CodeRec cd d.name→mg d.name=some (.ref fa)→
   cn.heap.get? a=some {cls:= .type "list",data:= .seq vs.toArray}→IntsAre vs ns→ns.length≤n→cn.gens=#[]→
   codeAny (model l.prog w) callerA (.call (.ref fa) ⟨[.ref a],[]⟩) (fun r s'=>r= .ok (.ret (.bool true))∧OldK cn.heap s'.heap∧s'.os=cn.os∧AllBare s'.gens) cn):
  WalkO q loose XP YP l.row.toRowW d [] (fun f vs=>PySem.call f vs):=by
 intro w dF cn mg mb G Y fa o pm cd doc dV kV ho hd Ce hD NV hg args vals as Hb WG Y' NQ Ms;obtain rfl:dV= .none:=Dflts.none hD NU;obtain rfl:kV= .none:=Dflts.noKw hD;obtain⟨a,vs,ns,rfl,rfl,KH,hints,hlen⟩:=Cv hn Hb NQ;refine enter_call (codeAny_mono (call w dF cn mg mb fa o pm cd doc a vs ns G Y ho (fd_plain hd) Ce NV KH hints hlen hg) fun r s' hq=>?_);obtain⟨rfl,h2,h3,h4⟩:=hq;exact⟨.inl ⟨.bool true, .bool true,[],rfl,fun _=>rfl, .bool true,Cw l _,fun _=>⟨List.Pairwise.nil,fun _ hm=>(nomatch hm)⟩⟩,h2,h3,h4⟩
section
variable{prog:Program}{w:World}{A:Around}{E:Value→Shared→Prop}{s:Shared}{K:Frag}
def ledger(h:Heap)(L d:Addr):List (Addr×Obj):=(Ι h.objs.size).filterMap fun a=>if a=L∨a=d then none else(h.get? a).map fun o=>(a,o)
end
end UI
namespace L2
open PySem PySem.Spec PyProof.Rows
theorem vD:∀{vs:List Value}{ns:List Int},IntsAre vs ns→Vals (ns.map V.int) vs
 | _,_, .nil=> .nil
 | _,_, .cons n t h=> .cons ⟨t,rfl⟩ (vD h)
def KI(H:Hp):Prop:=∀b,H b=none∨∃o xs,H b=some (.so o (.lst xs))
theorem Eu{cm:Bool}{P:Program}{w:World}{K:PySem.W.Frag}{mg mb:Str→Option Value}{CX:Eb}{k:Nat}{fa a:Addr}{fd:FuncData}{x:Str}{sp:Sp}{cn:Shared}{vs:List Value}{ns:List Int}
  (KX:K.In cn.heap) (PM:cn.heap.Ns mainGlobals mg) (hb:cn.heap.Ns builtinsNs mb) (WH:∀x:Str,x≠"__name__"→mb x=bootBuiltins x) (RF:cn.heap.NoLimit) (hg:cn.gens=#[])
  (ha:cn.heap.get? a=some {cls:= .type "list",data:= .seq vs.toArray}) (hi:IntsAre vs ns) (hl:ns.length≤sizeLine) (hr:eV cm k callerA)
  (F:∀base:Heap,K.In base→base.Ns mainGlobals mg→a8 P w K mg base CX cm k fa fd [x] sp) (NW:∀(s:Shared)(u:Value),BindsTo s fd ⟨[u],[]⟩ [(x,u)])
  (Gr:∀H:Hp,KI H→iD K H a (ns.map V.int)→sp [.ref a] H (fun v _=>v= .bl true) fun _ _ _=>False)
  (RG:∀H e s',CX [] H cn (fun _ _ _=>False) e s'→False):
  codeAny (model P w) callerA (.call (.ref fa) ⟨[.ref a],[]⟩) (fun r s'=>r= .ok (.ret (.bool true))∧OldK cn.heap s'.heap∧s'.os=cn.os∧AllBare s'.gens) cn:=by
 have rv:=vD hi;have RH:=hi.length;have core:∀H:Hp,KI H→iD K H a (ns.map V.int)→lE P w H cn.heap→(∀b,H b≠none→b=a)→(H a≠none→K.lookup a=none)→
   codeAny (model P w) callerA (.call (.ref fa) ⟨[.ref a],[]⟩) (fun r s'=>r= .ok (.ret (.bool true))∧OldK cn.heap s'.heap∧s'.os=cn.os∧AllBare s'.gens) cn:=by
  intro H hO hS bY hA hK;have Bj:∀{b:Addr}{o:Obj},cn.heap.get? b=some o→H b=none→(v8 cn.heap H).get? b=some o:=fun e n=>DX e n
  have NG:∀{b:Addr}{o:Obj}{es:Array DictEntry}{ep:Nat},cn.heap.get? b=some o→o.data= .dict es ep→H b=none:=fun{b o es ep} e d=>by
   cases q:H b with
   |none=>rfl
   |some u=>
    have e':b=a:=hA b (by rw[q];simp);subst e';rw[ha]at e;cases e;have d':Data.seq vs.toArray _=Data.dict es ep:=d;cases d'
  have PN:∀{b:Addr}{m:Str→Option Value},cn.heap.Ns b m→(v8 cn.heap H).Ns b m:=fun{b m} ⟨o,es,ep,e,d,r⟩=>⟨o,es,ep,Bj e (NG e d),d,r⟩
  have UJ:K.In (v8 cn.heap H):=fun b o e=>Bj (KX b o e) (by
   cases q:H b with
   |none=>rfl
   |some u=>
    have e':b=a:=hA b (by rw[q];simp);subst e';rw[hK (by rw[q];simp)]at e;cases e)
  have hM:Mod K mg (v8 cn.heap H):=⟨UJ,PN PM,⟨mb,PN hb,WH⟩,let ⟨mc,h1,h2⟩:=RF;⟨mc,PN h1,h2⟩⟩
  have e0:zX P w K mg (v8 cn.heap H) callerA [] cn H:=⟨rfl,hM,fun b o e=>GI e,Nat.le_of_eq (Cc _ _),trivial,fun b hb=>absurd (show b∈([]:List Addr)from hb) (ZF),bY, .of_eq hg⟩
  refine codeAny_mono ((F _ UJ (PN PM)).run callerA [] cn H ⟨[.ref a],[]⟩ [.ref a] [.ref a] _ _ hr e0 (NW cn (.ref a)) (.cons rfl .nil) (Gr H hO hS)) fun r s' h=>?_
  cases r with
  |error e=>exact(RG H e s' h).elim
  |ok fl=>
   cases fl with
   |next=>exact False.elim h
   |brk=>exact False.elim h
   |cont=>exact False.elim h
   |ret u=>
    obtain⟨v,H',os,bare,un,RJ,r',q⟩:=h;have q':v= .bl true:=q;subst q';obtain rfl:u=Value.bool true:=r';refine⟨rfl,OldK.of_keep fun b o e=>?_,os,bare⟩;cases q:H b with
    |none=>exact un.keep b o e q (by intro z;exact absurd (show b∈([]:List Addr)from z) (ZF)) (ZF)
    |some u=>
     rcases hO b with z|⟨ob,xs,z⟩
     ·rw[q]at z;cases z
     ·have z2:=un.om b ob _ z;obtain⟨e1,_⟩:=bY b _ z;obtain⟨e2,_⟩:=RJ b _ z2;rw[e]at e1;cases e1;exact e2
 cases hk:K.lookup a with
 |some o=>
  have e:=KX a o hk;rw[ha]at e;cases e;refine core (fun _=>none) (fun _=> .inl rfl) (.inr ⟨_,vs.toArray,_,hk,rfl,rfl,rfl,by rw[List.size_toArray,RH];exact hl,by simpa using rv⟩) (fun b u z=>by have z':(none:Option HO)=some u:=z;cases z') (fun b z=>absurd rfl z) fun z=>absurd rfl z
 |none=>
  refine core (fun b=>if b=a then some (.so {cls:= .type "list",data:= .seq vs.toArray} (.lst (ns.map V.int)))else none) (fun b=>?_) (.inl (.inr ⟨{cls:= .type "list",data:= .seq vs.toArray},if_pos rfl⟩)) (fun b u z=>?_) (fun b z=>?_) fun _=>hk
  ·by_cases hb:b=a
   ·exact .inr ⟨_,_,Z7 hb⟩
   ·exact .inl (Z5 hb)
  ·by_cases hb:b=a
   ·have z':=(Z7 hb).symm.trans z;cases z';subst hb;exact⟨ha,by rw[List.length_map];exact hl,vs,_,rv,ha⟩
   ·have z':=(Z5 hb).symm.trans z;cases z'
  ·by_cases hb:b=a
   ·exact hb
   ·exact Zn (Z5 hb) z
theorem Hd{cm:Bool}{l:PySem.W.OpenLaw}{n k:Nat}{q:Program}{loose:List Str}{XP:(Str→Option Value)→Heap→Prop}{YP:World→Heap→Prop}{d:DefRec}{K:Params→PySem.W.Frag}{CX:World→Eb}{sp:World→Sp}{x:Str}
  (hn:l.most=some n) (yb:n≤sizeLine) (NU:d.params.defaults=[]) (hr:eV cm k callerA)
  (hY:∀(w:World)(h:Heap),YP w h→(K w.params).In h)
  (F:∀(w:World)(mg:Str→Option Value)(fa:Addr)(h:Heap),(K w.params).In h→h.Ns mainGlobals mg→mg d.name=some (.ref fa)→
   ∃fd:FuncData,(∀(s:Shared)(u:Value),BindsTo s fd ⟨[u],[]⟩ [(x,u)])∧
    ∀base:Heap,(K w.params).In base→base.Ns mainGlobals mg→a8 l.prog w (K w.params) mg base (CX w) cm k fa fd [x] (sp w))
  (Gr:∀(w:World)(H:Hp)(a:Addr)(ns:List Int),ns.length≤n→KI H→iD (K w.params) H a (ns.map V.int)→sp w [.ref a] H (fun v _=>v= .bl true) fun _ _ _=>False)
  (RG:∀(w:World)(H:Hp)(s:Shared)(e:Value)(s':Shared),CX w [] H s (fun _ _ _=>False) e s'→False):
  PySem.W.WalkO q loose XP YP l.row.toRowW d [] (fun f vs=>PySem.call f vs):=by
 refine UI.yD hn NU fun w dF cn mg mb fa o pm cd doc a vs ns G Y ho hd Ce NV KH hints hlen hg=>?_
 have KX:=hY w _ Y;obtain⟨fd,hb,hF⟩:=F w mg fa _ KX G.T.g NV;exact Eu KX G.T.g G.T.b G.T.builtins G.T.nolimit hg KH hints (Nat.le_trans hlen yb) hr hF hb (fun H hO hS=>Gr w H a ns hlen hO hS) fun H e s'=>RG w H cn e s'
def inClass(s:Stmt)(j:Nat):Stmt:=match s with
 | .ClassDef _ _ _ body _ _ _ _ _ _ _=>body.getD j (.Pass ⟨0,0,0,0⟩)
 | _=> .Pass ⟨0,0,0,0⟩
def fN(s:Stmt):Arguments:=match s with
 | .FunctionDef _ a _ _ _ _ _ _ _ _=>a
 | _=>{posonlyargs:=[],args:=[],vararg:=none,kwonlyargs:=[],kw_defaults:=[],kwarg:=none,defaults:=[]}
def eM(s:Stmt):List Stmt:=match s with
 | .FunctionDef _ _ b _ _ _ _ _ _ _=>b
 | _=>[]
def ar(s:Stmt):Scope:=match s with
 | .FunctionDef _ _ _ _ _ _ sc _ _ _=>sc
 | _=>{kind:= .function,names:=[],isGenerator:=false,isCoroutine:=false}
abbrev E0:XK:=fun _ _ _=>False
structure jt(K:PySem.W.Frag)(x qual:Str)(st:Stmt)(f:Addr)(fd:FuncData):Prop where
 ex:∃(oc:Value)(od:Option Addr)(kV doc pm:Value)(an:Option Addr)(bU ct:Value)(Bg:Array (Option Value)),
  fd=PySem.W.fnOf x qual (fN st) (eM st) (ar st) .none kV doc pm an bU ct∧K.lookup f=some ⟨oc,od, .func fd,Bg⟩∧PySem.W.codeIn K bU qual=true
 kp:PySem.W.keepIn K (.ref f)=true
section
variable{P:Program}{w:World}{K:PySem.W.Frag}{mg:Str→Option Value}{base:Heap}
theorem jt.binds{x qual:Str}{st:Stmt}{f:Addr}{fd:FuncData}{ps:List Str}(F:jt K x qual st f fd)
  (h:∀(kV doc pm:Value)(an:Option Addr)(bU ct:Value)(us:List Value),us.length=ps.length→bindArgs (PySem.W.fnOf x qual (fN st) (eM st) (ar st) .none kV doc pm an bU ct) ⟨us,[]⟩=pure (ps.zip us)):Binds K fd ps []:=by
 obtain⟨oc,od,kV,doc,pm,an,bU,ct,Bg,rfl,lk,Ce⟩:=F.ex;exact .all (h kV doc pm an bU ct)
theorem Ew{x qual:Str}{st:Stmt}{f:Addr}{oc:Value}{od an:Option Addr}{Bg:Array (Option Value)}{kV doc pm bU ct:Value}(l:K.lookup f=some ⟨oc,od, .func (PySem.W.fnOf x qual (fN st) (eM st) (ar st) .none kV doc pm an bU ct),Bg⟩)
  (c:PySem.W.codeIn K bU qual=true) (k:PySem.W.keepIn K (.ref f)=true):jt K x qual st f (PySem.W.fnOf x qual (fN st) (eM st) (ar st) .none kV doc pm an bU ct):=⟨⟨oc,od,kV,doc,pm,an,bU,ct,Bg,rfl,l,c⟩,k⟩
end
section
variable{X:Cx}
theorem pv(i:Nat){x:Str}{pos:Pos}(hN:X.N[i]?=some x:=by rfl)(hv:QY X.env.scope x:=by first|exact Or.inl rfl|exact Or.inr (Or.inl rfl)|exact Or.inr (Or.inr rfl))(hd:(x==("__debug__":Str))=false:=by decide)
  (Ce:(x==("__classdict__":Str))=false:=by decide):PE X (.Name x pos) (J8 i):=J9 hN hv hd Ce
end
theorem f_{A B:Prop}(h:B):if false=true then A else B:=by
 rw[Z5 Bool.false_ne_true];exact h
theorem jS{A B:Prop}(h:A):if true=true then A else B:=by
 rw[if_pos rfl];exact h
theorem bg{c A B:Prop}[Decidable c](h1:c→A)(h2:¬c→B):if c then A else B:=by
 by_cases h:c
 ·rw[Z7 h];exact h1 h
 ·rw[Z5 h];exact h2 h
def ax(H H':Hp):Prop:=∀b o,H b=some o→H' b=some o
theorem ax.refl(H:Hp):ax H H:=fun _ _ h=>h
theorem ax.trans{H H1 H2:Hp}(a:ax H H1)(b:ax H1 H2):ax H H2:=fun c o h=>b c o (a c o h)
theorem ax.free{H H':Hp}(e:ax H H'){l:Addr}(h:H' l=Option.none):H l=Option.none:=by
 cases q:H l with
 |none=>rfl
 |some o=>
  rw[e l o q]at h;cases h
theorem ax.seq{K:PySem.W.Frag}{H H':Hp}{a:Addr}{xs:List V}(e:ax H H')(h:iD K H a xs):iD K H' a xs:=by
 rcases h with(h|⟨o,h⟩)|h
 ·exact .inl (.inl (e _ _ h))
 ·exact .inl (.inr ⟨o,e _ _ h⟩)
 ·exact .inr h
section
variable{κ:Type}[DecidableEq κ]
theorem yE{kvs:List (κ×V)}{k:κ}(h:bC kvs k=none):¬k∈kvs.map (·.1):=by
 intro m;obtain⟨p,hp,e⟩:=List.mem_map.mp m;have q:(kvs.any fun kv=>decide (kv.1=k))=true:=List.any_eq_true.mpr ⟨p,hp,decide_eq_true e⟩;rw[ij,h]at q;exact absurd q ZA
theorem Bk{kvs:List (κ×V)}{k:κ}{v:V}(h:bC kvs k=some v):k∈kvs.map (·.1):=by
 have q:(kvs.any fun kv=>decide (kv.1=k))=true:=by
  rw[ij,h];all_goals rfl
 obtain⟨p,hp,e⟩:=List.any_eq_true.mp q;exact List.mem_map.mpr ⟨p,hp,of_decide_eq_true e⟩
end
end L2
namespace L2
open PySem PySem.Spec PyProof.Rows PySem.W
def c7(P:Program)(w:World):Eb:=fun outer H s E e s'=>
 ∃(ea:Addr)(cls a0:Value)(B:Heap)(H':Hp),e= .ref ea∧s'.os=s.os∧AllBare s'.gens∧Heap.FlyingW B outer ea cls a0 s'.heap∧
  Un (oh outer) [] H H' s.heap s'.heap∧lE P w H' B∧(∀b o,s.heap.get? b=some o→H b=none→b∉oh outer→B.get? b=some o)∧(∀b o,s.heap.get? b=some o→b∉oh outer→∃o',B.get? b=some o')∧E cls none H'
theorem aR{P:Program}{w:World}{X:Cx}:Passes (c7 P w) X (fun _=>E0):=fun _ _ _ _ _ _ _ ⟨_,_,_,_,_,_,_,_,_,_,_,_,_,h⟩=>h.elim
structure PQ(X:Cx)(E:St→XK):Prop where
 raise:∀(pins:List (Addr×Obj))(σ:St)(H:Hp)(s:Shared)(h':Heap)(e:Addr)(cls:Value)(args:List Value),Inv X pins σ H s→Heap.MadeExcOf s.heap h' e cls args→E σ cls none H→X.xe (.ref e) {s with heap:=h'}
 pass:Passes (c7 X.prog X.w) X E
 own:PassesOwn (model X.prog X.w) X.A X.env X.xe
theorem lE.hide{P:Program}{w:World}{H:Hp}{h:Heap}{as:List Addr}(ok:lE P w H h)(hf:∀b∈as,H b=none):lE P w H (hideAll h as):=fun a o e=>
 (ok a o e).v7 (fun b u hb q=>hideAll_get _ q fun hm=>by
  rcases hb with rfl|hb
  ·rw[hf _ hm]at e;cases e
  ·rw[hf _ hm]at hb;cases hb) (fun b q=>q) fun b xs q=>q
section
variable{P:Program}{w:World}{K:PySem.W.Frag}{mg:Str→Option Value}{base:Heap}{N:List Str}{qual:Str}{scope:Scope}{f:Addr}{cd:Value}{A:Around}{outer:List Env}{s:Shared}{H:Hp}{E:XK}{cm:Bool}
theorem Ab{P:Program}{w:World}{H:Hp}{h:Heap}{a:Addr}{o:HO}(x:cS P w H h a o):∃q,h.get? a=some q:=by
 cases o with
 |lst xs=>obtain⟨_,its,n,_,e⟩:=x;exact⟨_,e⟩
 |tup xs=>obtain⟨_,its,_,o,e,_⟩:=x;exact⟨_,e⟩
 |dK kvs=>obtain⟨_,_,vs,_,o,es,ep,e,_⟩:=x;exact⟨_,e⟩
 |dT kvs=>obtain⟨_,_,xs,_,o,es,ep,e,_⟩:=x;exact⟨_,e⟩
 |set S n=>obtain⟨o,es,ep,t,e,_⟩:=x;exact⟨_,e⟩
 |ins C dx fs=>obtain⟨_,_,_,e,_⟩:=x;exact⟨_,e⟩
 |own y=>exact x
 |xd fs=>obtain⟨mA,⟨o,es,ep,e,_⟩,_⟩:=x;exact⟨_,e⟩
 |met f y=>exact⟨_,x⟩
 |Px lo hi=>obtain⟨t,u,v,e⟩:=x;exact⟨_,e⟩
 |so o u=>exact⟨_,x.1⟩
 |GH ps=>exact⟨_,x⟩
 |ext φ=>exact x.2.1
theorem Bl:PQ (zZ (c7 P w) cm P w K mg base N qual scope f cd A outer s H E) (fun _=>E):=by
 refine⟨?_,?_,PassesOwn.leaving⟩
 ·intro pins σ H1 s1 h' e cls args I hx hE;have RK:(A.deeper (envOfC qual scope s.heap.objs.size f cd)).frames=some (envOfC qual scope s.heap.objs.size f cd::outer):=I.ok.frames;have vk:s1.heap.FunFrames base (envOfC qual scope s.heap.objs.size f cd::outer):=I.stack;have oj:∀env∈(envOfC qual scope s.heap.objs.size f cd::outer),∀b,env.frame=some b→b∈(envOfC qual scope s.heap.objs.size f cd::outer).filterMap (·.frame):=fun env he b hb=>List.mem_filterMap.mpr ⟨env,he,hb⟩
  have A7:∀b∈(envOfC qual scope s.heap.objs.size f cd::outer).filterMap (·.frame),H1 b=none:=I.v9;show wpAny (model P w) (A.deeper (envOfC qual scope s.heap.objs.size f cd)) (leaving (envOfC qual scope s.heap.objs.size f cd) (.ref e)) (fun _ wg=>c7 P w outer H s E (.ref e) wg) (fun e' wg=>c7 P w outer H s E e' wg) {s1 with heap:=h'};have Ac:∀b o,s.heap.get? b=some o→b∉oh outer→b∉(envOfC qual scope s.heap.objs.size f cd::outer).filterMap (·.frame):=fun b o q hb hm=>by
   obtain⟨env,he,hf⟩:=List.mem_filterMap.mp hm;rcases List.mem_cons.mp he with rfl|he
   ·have z:s.heap.objs.size=b:=Option.some.inj hf;exact Zn (Κ q) (by rw[z];exact Nat.lt_irrefl _)
   ·exact hb (List.mem_filterMap.mpr ⟨env,he,hf⟩)
  refine wpAny_leaves_madeW (s:={s1 with heap:=h'}) (h:=s1.heap) (base:=hideAll s1.heap ((envOfC qual scope s.heap.objs.size f cd::outer).filterMap (·.frame))) (L:=s.heap.objs.size) RK rfl (fun b o q=>of_hideAll _ q) (funFrames_hide vk oj) hx fun h2 t x1 x2 x3 x4=>?_
  have bs:Un (oh outer) [] H H1 s.heap s1.heap:=I.base;have kB:∀b o,s.heap.get? b=some o→H b=none→b∉oh outer→(hideAll s1.heap ((envOfC qual scope s.heap.objs.size f cd::outer).filterMap (·.frame))).get? b=some o:=fun b o q hn hb=>
   hideAll_get _ (bs.keep b o q hn hb ZA) (Ac b o q hb)
  have hB:lE P w H1 (hideAll s1.heap ((envOfC qual scope s.heap.objs.size f cd::outer).filterMap (·.frame))):=I.bY.hide A7;refine⟨e,cls, .ref t,_,H1,rfl,I.os,I.bare,x1,?_,hB,kB,fun b o q hb=>?_,hE⟩
  rotate_left
  ·obtain⟨o',e1⟩:=bs.there b o q ZA;exact⟨o',hideAll_get _ e1 (Ac b o q hb)⟩
  refine⟨fun b o q hn hb _=>x1.1 b o (kB b o q hn hb),fun b o q hn hb _=>?_,fun b o q hn _=>bs.free b o q hn ZA,fun b o q _=>?_,bs.cz,bs.om,bs.rM⟩
  ·obtain⟨sl,e1⟩:=bs.slot b o q hn hb ZA;have Ja:s1.heap.FunFrames base outer:=vk.2.2;obtain⟨_,o2,e2,He⟩:=Ja.mem hb;rw[e1]at e2;cases e2;obtain⟨yc,e3⟩:=x4 b _ (hx.keeps _ _ e1) He;exact⟨yc,e3⟩
  ·cases q1:H1 b with
   |some u=>
    obtain⟨oo,z⟩:=Ab (hB b u q1);exact⟨oo,x1.1 b oo z⟩
   |none=>
    cases q0:H b with
    |none=>
     by_cases hb:b∈oh outer
     ·obtain⟨sl,e1⟩:=bs.slot b o q q0 hb ZA;have Ja:s1.heap.FunFrames base outer:=vk.2.2;obtain⟨_,o2,e2,He⟩:=Ja.mem hb;rw[e1]at e2;cases e2;obtain⟨yc,e3⟩:=x4 b _ (hx.keeps _ _ e1) He;exact⟨_,e3⟩
     ·exact⟨o,x1.1 b o (kB b o q q0 hb)⟩
    |some u=>
     obtain⟨o',e1⟩:=bs.there b o q ZA;by_cases hb:b∈oh outer
     ·have Ja:s1.heap.FunFrames base outer:=vk.2.2;obtain⟨_,o2,e2,He⟩:=Ja.mem hb;obtain⟨yc,e3⟩:=x4 b _ (hx.keeps _ _ e2) He;exact⟨_,e3⟩
     ·exact⟨o',x1.1 b o' (hideAll_get _ e1 (Ac b o q hb))⟩
 ·rintro pins σ H1 s1 e s2 I ⟨ea,cls,a0,B,H',rfl,os,bare,PR,un,hB,kB,tB,hE⟩;have RK:(A.deeper (envOfC qual scope s.heap.objs.size f cd)).frames=some (envOfC qual scope s.heap.objs.size f cd::outer):=I.ok.frames;show wpAny (model P w) (A.deeper (envOfC qual scope s.heap.objs.size f cd)) (leaving (envOfC qual scope s.heap.objs.size f cd) (.ref ea)) (fun _ wg=>c7 P w outer H s E (.ref ea) wg) (fun e' wg=>c7 P w outer H s E e' wg) s2;have PR:Heap.FlyingW B (envOfC qual scope s.heap.objs.size f cd::outer) ea cls a0 s2.heap:=PR;have un:Un (oh (envOfC qual scope s.heap.objs.size f cd::outer)) [] H1 H' s1.heap s2.heap:=un;have kB:∀b o,s1.heap.get? b=some o→H1 b=none→b∉oh (envOfC qual scope s.heap.objs.size f cd::outer)→B.get? b=some o:=kB;have Ac:∀b o,s.heap.get? b=some o→b∉oh outer→b∉oh (envOfC qual scope s.heap.objs.size f cd::outer):=fun b o q hb hm=>by
   obtain⟨env,he,hf⟩:=List.mem_filterMap.mp hm;rcases List.mem_cons.mp he with rfl|he
   ·have z:s.heap.objs.size=b:=Option.some.inj hf;exact Zn (Κ q) (by rw[z];exact Nat.lt_irrefl _)
   ·exact hb (List.mem_filterMap.mpr ⟨env,he,hf⟩)
  have RL:∀b,b∈oh outer→b∈oh (envOfC qual scope s.heap.objs.size f cd::outer):=fun b hb=>by
   obtain⟨env,he,hf⟩:=List.mem_filterMap.mp hb;exact List.mem_filterMap.mpr ⟨env,ε he,hf⟩
  have bs:Un (oh outer) [] H H1 s.heap s1.heap:=I.base;refine wpAny_leaves_onW (L:=s.heap.objs.size) RK rfl PR fun h2 x1 x4=>?_
  have UK:∀b o,s.heap.get? b=some o→H b=none→b∉oh outer→B.get? b=some o:=fun b o q hn hb=>kB b o (bs.keep b o q hn hb ZA) (bs.free b o q hn ZA) (Ac b o q hb)
  have Ja:s2.heap.FunFrames B outer:=PR.2.2.1.2.2;refine⟨ea,cls,a0,B,H',rfl,os.trans I.os,bare,x1,?_,hB,UK,fun b o q hb=>?_,hE⟩
  rotate_left
  ·obtain⟨o',e1⟩:=bs.there b o q ZA;exact tB b o' e1 (Ac b o q hb)
  refine⟨fun b o q hn hb _=>x1.1 b o (UK b o q hn hb),fun b o q hn hb _=>?_,fun b o q hn _=>?_,fun b o q _=>?_,fun b xs q=>un.cz b xs (bs.cz b xs q),fun b o u q=>un.om b o u (bs.om b o u q),fun b ps q=>?_⟩
  ·obtain⟨sl,e1⟩:=bs.slot b o q hn hb ZA;obtain⟨Za,e2⟩:=un.slot b _ e1 (bs.free b o q hn ZA) (RL b hb) (ZF);obtain⟨_,o2,e3,He⟩:=Ja.mem hb;rw[e2]at e3;cases e3;obtain⟨yc,e4⟩:=x4 b _ e2 He;exact⟨yc,e4⟩
  ·by_cases hb:b∈oh outer
   ·obtain⟨sl,e1⟩:=bs.slot b o q hn hb ZA;exact un.free b _ e1 (bs.free b o q hn ZA) (ZF)
   ·exact un.free b o (bs.keep b o q hn hb ZA) (bs.free b o q hn ZA) (ZF)
  ·obtain⟨o',e1⟩:=bs.there b o q ZA;obtain⟨o2,e2⟩:=un.there b o' e1 ZA;by_cases hb:b∈oh outer
   ·obtain⟨_,o3,e3,He⟩:=Ja.mem hb;obtain⟨yc,e4⟩:=x4 b _ e3 He;exact⟨_,e4⟩
   ·obtain⟨o3,e3⟩:=tB b o' e1 (Ac b o q hb);exact⟨o3,x1.1 b o3 e3⟩
  ·obtain⟨more,z⟩:=bs.rM b ps q;obtain⟨NX,z2⟩:=un.rM b _ z;exact⟨more++NX,by rw[z2,Array.append_assoc]⟩
end
end L2
namespace L2
open PySem PySem.Spec PyProof.Rows PySem.W PySem.Calls Builtin Builtin.ObjectAttr Builtin.Getset_descriptor
section
variable{prog:Program}{w:World}{A:Around}{E:Value→Shared→Prop}{K:Frag}{x C:Addr}{o:Obj}{hh:Heap}{g:Array GenState}{d:Drawn}{t:Nat}{os:OsState}
end
structure NY(K:Frag)(C:Addr):Prop where
 ex:excIn K C [.type "ValueError", .type "Exception", .type "BaseException", .type "object"] "ValueError.__new__"=true
 cl:findIn K (.ref C) "__class__"=some (some (.builtin "object.__class__"))
 ob:mroIn K C (.type "object")=some true
 be:mroIn K C (.type "BaseException")=some true
 ga:findIn K (.ref C) "__getattribute__"=some (some (.builtin "BaseException.__getattribute__"))
 gn:findIn K (.ref C) "__getattr__"=some none
 tu:instIn K (.ref C) (.type "tuple")=some false
 kp:keepIn K (.ref C)=true
end L2
namespace L2
open PySem PySem.Spec PyProof.Rows PySem.W PySem.Calls
theorem Hf{K:Frag}{h:Heap}{C:Addr}{UL:List Value}{newId:String}(X:K.In h)(q:excIn K C UL newId=true):
  ∃bm N nm qn bs hdct sn sub ab col dd k0 k1 k2 k3 k5 mN,h.get? C=some (excClassObj nm qn C N bs bm hdct sn sub ab col dd k0 k1 k2 k3 k5 newId)∧h.Ns N mN∧mN "__init__"=none∧OwnTail h UL bm:=by
 unfold excIn at q;split at q
 ·rename_i dd cd sl ho
  split at q
  ·rename_i C' bm k0 k1 k2 k3 n k5 hm hs
   simp only[Bool.and_eq_true,beq_iff_eq,Bool.not_eq_true']at q;obtain⟨⟨⟨⟨⟨rfl,rfl⟩,NZ⟩,ht⟩,bY⟩,PU⟩:=q;obtain⟨nm,bs,mro,ns,qn,hd,sn,sub,ab,col,del⟩:=cd;dsimp only at hm NZ bY PU;subst hm NZ;have RM:sl=#[k0,k1,k2,k3,some (.builtin n),k5]:=by
    obtain⟨l⟩:=sl;simp only at hs;rw[hs]
   subst RM;exact⟨bm,ns,nm,qn,bs,hd,sn,sub,ab,col,dd,k0,k1,k2,k3,k5,_,X _ _ ho, .of_isNs (isNs_of_in X bY),nsMap_none_of_in X bY PU,tail_of_in X ht⟩
  ·cases q
 ·cases q
section
variable{X:Cx}{x:Str}{np eI pos:Pos}{e:Expr}{es:List Expr}{t:TA}{C:Addr}{E:St→XK}
def KJ(C:Addr)(E:St→XK)(t:TA):TS:=fun _ σ H=>t σ H fun vs H1=>vs.length≤sizeLine∧E σ (.ref C) none H1
theorem i6(hX:PQ X E)(hc:X.calm=true)(hg:Gl X x)(hm:X.mg x=some (.ref C))(c:NY X.K C)(ha:PA X (e::es) t)(we:(x==("__debug__":Str))=false:=by decide)
  (he:starEach (e::es) X.env=(false,eval e X.env)::starEach es X.env:=by rfl) (rq:(backTo eI (starEach es X.env)).any (·.1)=false:=by rfl):
  PS X (.Raise (some (.Call (.Name x np) (e::es) [] eI)) none pos) (KJ C E t):=by
 intro pins s σ H D I h;obtain⟨bm,N,nm,qn,bs,hdct,sn,sub,ab,col,dd,k0,k1,k2,k3,k5,mN,hC,hN,PU,T⟩:=Hf I.ok.mod.Ml c.ex;refine wpAny_Raise_call_subT (C:=C) (nm:=nm) (q:=qn) (N:=N) (bs:=bs) (bm:=bm) (hdct:=hdct) (sn:=sn) (sub:=sub) (ab:=ab) (col:=col) (dd:=dd) (k0:=k0) (k1:=k1) (k2:=k2) (k3:=k3) (k5:=k5)
  F.excBase_ValueError (mN:=mN) (T.hasType F.excBase_ValueError.hasBase) (I.ok.hd hc) (by rw[he];show(false||(backTo eI (starEach es X.env)).any (·.1))=false;rw[rq];rfl) PU (ot I hg hm ⟨rfl,?_⟩ we)
 have hq:=cI (ha eI pins s σ H _ I h) fun us s2 ⟨vs,H2,I2,r2,q2⟩=>show us.length≤sizeLine∧(∀b o,X.base.get? b=some o→s2.heap.get? b=some o)∧∀h' e,Heap.MadeExcOf s2.heap h' e (.ref C) us→X.xe (.ref e) {s2 with heap:=h'}from
  ⟨by rw[←r2.length];exact q2.1,I2.bk,fun h' e hx=>hX.raise pins σ H2 s2 h' e (.ref C) us I2 hx q2.2⟩
 rw[he]at hq⊢;exact evalArgs_plain (wpAny_mono hq (fun vs s2 h2=>⟨rfl,h2.1,h2.2.1 _ _ hC,hN.keeps h2.2.1,T.keeps h2.2.1,h2.2.2⟩) fun _ _ y=>y)
end
section
variable{X:Cx}{e v1 v2:Expr}{es:List Expr}{te:TE}{pos:Pos}
def RN(te:TE):TE:=fun σ H Q=>te σ H fun x H1=>(∃y,x= .str y∧y.length≤sizeLine∧Q (.str y) H1)∨∃i:Int,x= .int i∧i.natAbs.log2<1920∧Q (.str (toString i)) H1
theorem ql(h:PE X e te):PE X (.FormattedValue e (-1) none pos) (RN te):=by
 intro pins s σ H Q I hq;refine FormattedValue_plain (cI (h pins s σ H _ I hq) fun u s1 ⟨x,H1,I1,r1,q1⟩=>?_);rcases q1 with⟨y,rfl,hy,q⟩|⟨i,rfl,hi,q⟩
 ·obtain⟨t,rfl⟩:=r1;exact formatField_str (fun t' tk=>⟨.str y,H1,I1.tok _,⟨_,rfl⟩,q⟩) hy
 ·obtain⟨t,rfl⟩:=r1;exact formatField_int_small hi ⟨.str (toString i),H1,I1.tok _,⟨_,rfl⟩,q⟩
abbrev TJ:=Str→TE
def PJ(X:Cx)(es:List Expr)(t:TJ):Prop:=
 ∀(acc:Str)(pins:List (Addr×Obj))(s:Shared)(σ:St)(H:Hp)(Q:VK),Inv X pins σ H s→t acc σ H Q→wpAny (model X.prog X.w) X.A (joinParts acc (evalEach es X.env)) (EP X pins σ Q) X.xe s
def N0:TJ:=fun acc _ H Q=>acc.length≤sizeLine∧Q (.str acc) H
def KL(te:TE)(t:TJ):TJ:=fun acc σ H Q=>te σ H fun x H1=>∃y,x= .str y∧(acc++y).length≤sizeLine∧t (acc++y) σ H1 Q
theorem wD:PJ X [] N0:=fun acc _ s σ H Q I h=>joinParts_nil ⟨.str acc,H,I.tok _,⟨_,rfl⟩,h.2⟩ h.1
theorem fv{t:TJ}(h1:PE X e te)(h2:PJ X es t):PJ X (e::es) (KL te t):=by
 intro acc pins s σ H Q I h;refine joinParts_cons (cI (h1 pins s σ H _ I h) fun u s1 ⟨x,H1,I1,r1,y,e,hl,q⟩=>?_);subst e;obtain⟨tk,rfl⟩:=r1;exact⟨hl,h2 _ pins s1 σ H1 Q I1 q⟩
theorem mw{t:TJ}(h:PJ X (v1::v2::es) t):PE X (.JoinedStr (v1::v2::es) pos) (t Str.empty):=fun pins s σ H Q I hq=>JoinedStr_many (h Str.empty pins s σ H Q I hq)
end
abbrev Cx.N1(X:Cx)(e:Addr):Cx:={X with A:=X.A.mark (some (.ref e)),calm:=false,xe:=fun _ _=>False}
section
variable{X:Cx}{pins:List (Addr×Obj)}{σ:St}{H:Hp}{s:Shared}{ea C:Addr}{B:Heap}{a0:Value}
end
abbrev TH:=Addr→TS
def Ends.drop(D:Ends)(i:Nat):Ends:={nx:=fun σ H=>D.nx (σ.set i none) H,rt:=D.rt,bk:=fun σ H=>D.bk (σ.set i none) H,ct:=fun σ H=>D.ct (σ.set i none) H}
section
variable{X:Cx}{x n:Str}{np pos:Pos}{b0:Stmt}{N1:List Stmt}{rest:List ExceptHandler}{ts:TS}{tr:TH}{Dc:Addr}{i:Nat}
end
def fT(env:Env):List (Str×NameKind)→List (Str×Addr)→List (Str×Addr)
 |[],acc=>acc
 |(n,k)::r,acc=>if k= .free then fT env r ((n,(env.cells.lookup n).getD 0)::acc)else fT env r acc
theorem wF{env:Env}{scope:Scope}(h:∀x∈scope.names,x.2= .free→∃c,env.cells.lookup x.1=some c):closureFor scope env=pure (fT env scope.names []):=by
 unfold closureFor
 suffices H:∀(l:List (Str×NameKind))(acc:List (Str×Addr)),(∀x∈l,x.2= .free→∃c,env.cells.lookup x.1=some c)→
   (forIn l acc fun(x:Str×NameKind)(cs:List (Str×Addr))=>if (x.2==NameKind.free)=true then do let c←cellOf env x.1;pure (ForInStep.yield ((x.1,c)::cs))else pure (ForInStep.yield cs):Sem (List (Str×Addr)))=pure (fT env l acc) by
  have:=H scope.names [] h;simpa using this
 intro l
 induction l with
 |nil=>intro acc _;rfl
 |cons x r ih=>
  intro acc hl;obtain⟨n,k⟩:=x;rw[List.forIn_cons];by_cases hk:k= .free
  ·subst hk;obtain⟨c,hc⟩:=hl (n, .free) List.mem_cons_self rfl;have J7:env.cells.lookup n=some c:=hc;simp only[beq_self_eq_true,if_true,cellOf,J7,fT,Option.getD_some];show(pure _>>=_)=_;rw[pure_bind];exact ih _ fun y hy=>hl y (ε hy)
  ·have hb:(k==NameKind.free)=false:=by simpa using hk
   simp only[hb,Bool.false_eq_true,if_false,fT,hk];rw[pure_bind];exact ih _ fun y hy=>hl y (ε hy)
theorem j_{env:Env}{x:Str}{c:Addr}:∀{l:List (Str×NameKind)}{acc:List (Str×Addr)},(∀y∈l,y.2= .free→∃c,env.cells.lookup y.1=some c)→
  (∀y d,acc.lookup y=some d→env.cells.lookup y=some d)→(fT env l acc).lookup x=some c→env.cells.lookup x=some c
 |[],acc,_,ha,h=>ha x c h
 |(n,k)::r,acc,hl,ha,h=>by
  unfold fT at h;have hr:∀y∈r,y.2= .free→∃c,env.cells.lookup y.1=some c:=fun y hy=>hl y (ε hy)
  split at h
  ·rename_i hk
   obtain⟨d,hd⟩:=hl (n,k) List.mem_cons_self hk;refine j_ hr (fun y e he=>?_) h;rw[List.lookup_cons]at he;split at he
   ·rename_i q
    have q':y=n:=by simpa using q
    subst q';have Mm:env.cells.lookup y=some d:=hd;rw[Mm,Option.getD_some]at he;cases he;exact Mm
   ·exact ha y e he
  ·exact j_ hr ha h
theorem oH{env:Env}{x:Str}:∀{l:List (Str×NameKind)}{acc:List (Str×Addr)},((x,NameKind.free)∈l∨∃c,acc.lookup x=some c)→∃c,(fT env l acc).lookup x=some c
 |[],acc,h=>by
  rcases h with h|h
  ·simp at h
  ·exact h
 |(n,k)::r,acc,h=>by
  unfold fT;split
  ·rename_i hk
   refine oH ?_;rcases h with h|⟨c,h⟩
   ·rcases List.mem_cons.mp h with e|e
    ·injection e with e1 e2;subst e1;exact .inr ⟨(env.cells.lookup x).getD 0,by simp[List.lookup_cons]⟩
    ·exact .inl e
   ·by_cases q:x=n
    ·subst q;exact .inr ⟨(env.cells.lookup x).getD 0,by simp[List.lookup_cons]⟩
    ·refine .inr ⟨c,?_⟩;rw[List.lookup_cons];have:(x==n)=false:=by simpa using q
     rw[this];exact h
  ·rename_i hk
   refine oH ?_;rcases h with h|h
   ·rcases List.mem_cons.mp h with e|e
    ·injection e with e1 e2;exact Zn e2.symm hk
    ·exact .inl e
   ·exact .inr h
theorem oI{env:Env}{x:Str}:∀{names:List (Str×NameKind)},names.lookup x=some .free→
  (names.map fun(n,k)=>if (k==NameKind.free&&env.scope.kind== .function&&env.kindOf n==some .cell)then(n,NameKind.cell)else(n,k)).lookup x=some .cell∨
  (names.map fun(n,k)=>if (k==NameKind.free&&env.scope.kind== .function&&env.kindOf n==some .cell)then(n,NameKind.cell)else(n,k)).lookup x=some .free
 |[],h=>by simp at h
 |(n,k)::r,h=>by
  have ih:=@oI env x r;show List.lookup x ((if (k==NameKind.free&&env.scope.kind== .function&&env.kindOf n==some .cell)=true then(n,NameKind.cell)else(n,k))::_)=_∨List.lookup x ((if (k==NameKind.free&&env.scope.kind== .function&&env.kindOf n==some .cell)=true then(n,NameKind.cell)else(n,k))::_)=_;rw[List.lookup_cons]at h;by_cases hc:(k==NameKind.free&&env.scope.kind== .function&&env.kindOf n==some .cell)=true
  ·rw[Z7 hc,List.lookup_cons];cases hx:x==n with
   |true=>exact .inl rfl
   |false=>rw[hx]at h;exact ih h
  ·rw[Z5 hc,List.lookup_cons];cases hx:x==n with
   |true=>rw[hx]at h;exact .inr h
   |false=>rw[hx]at h;exact ih h
theorem oJ{env:Env}{x:Str}:∀{names:List (Str×NameKind)},(∀y∈names,y.2≠ .cell)→
  ((names.map fun(n,k)=>if (k==NameKind.free&&env.scope.kind== .function&&env.kindOf n==some .cell)then(n,NameKind.cell)else(n,k)).lookup x=some .cell∨
  (names.map fun(n,k)=>if (k==NameKind.free&&env.scope.kind== .function&&env.kindOf n==some .cell)then(n,NameKind.cell)else(n,k)).lookup x=some .free)→(x,NameKind.free)∈names
 |[],_,h=>by simp at h
 |(n,k)::r,hc,h=>by
  have ih:=@oJ env x r fun y hy=>hc y (ε hy)
  have h2:List.lookup x ((if (k==NameKind.free&&env.scope.kind== .function&&env.kindOf n==some .cell)=true then(n,NameKind.cell)else(n,k))::_)=_∨List.lookup x ((if (k==NameKind.free&&env.scope.kind== .function&&env.kindOf n==some .cell)=true then(n,NameKind.cell)else(n,k))::_)=_:=h;clear h;by_cases hq:(k==NameKind.free&&env.scope.kind== .function&&env.kindOf n==some .cell)=true
  ·rw[Z7 hq,List.lookup_cons]at h2;cases hx:x==n with
   |true=>
    have e:x=n:=by simpa using hx
    subst e;have hk:k= .free:=by
     rw[Bool.and_eq_true,Bool.and_eq_true]at hq;simpa using hq.1.1
    subst hk;exact List.mem_cons_self
   |false=>rw[hx]at h2;exact ε (ih h2)
  ·rw[Z5 hq,List.lookup_cons]at h2;cases hx:x==n with
   |true=>
    rw[hx]at h2;have e:x=n:=by simpa using hx
    subst e;rcases h2 with h|h
    ·have h':some k=some NameKind.cell:=h;exact Zn (Z' h') (hc (x,k) List.mem_cons_self)
    ·have h':some k=some NameKind.free:=h;rw[Z' h'];exact List.mem_cons_self
   |false=>rw[hx]at h2;exact ε (ih h2)
def gh(X:Cx)(scope:Scope)(N:List Str)(dF:Shared)(eY:Hp)(C:Addr)(fp:List Addr)(pn:List (Addr×Obj)):Cx:=
 {X with N:=N,dF:=dF,eY:=eY,env:=compEnvC scope (fT X.env scope.names []) C X.env,outer:=X.stack,ex:=fp,fn:=fun _=>false,pn:=pn,xe:=fun _ _=>False}
structure bh(N:List Str)(sc:Scope)(scope:Scope)(ls:List Str)(js:List Nat)(cs:List Str):Prop where
 kind:scope.kind= .function
 Jb:∀x∈scope.names,x.2≠ .cell
 names:∀x∈scope.names,x.2= .local→scope.names.lookup x.1=some .local
 loc:∀x∈ls,scope.names.lookup x=some .local
 at_:cs=js.filterMap (N[·]?)
 len:cs.length=js.length
 RO:∀x∈cs,scope.names.lookup x=some .free∧(sc.names.lookup x=some .cell∨sc.names.lookup x=some .free)
 free:∀x∈scope.names,x.2= .free→(sc.names.lookup x.1=some .cell∨sc.names.lookup x.1=some .free)
 nd:(ls++cs).Nodup
section
variable{X:Cx}{pins:List (Addr×Obj)}{σ:St}{H:Hp}{s:Shared}{scope:Scope}{ls cs:List Str}{js:List Nat}{fp:List Addr}
theorem bh.has(S:bh X.N X.env.scope scope ls js cs)(ok:X.Ok):∀x∈scope.names,x.2= .free→∃c,X.env.cells.lookup x.1=some c:=fun x hx hf=>ok.has x.1 (S.free x hx hf)
def lJ(ls:List Str)(js:List Nat)(σ:St):St:=ls.map (fun _=>none)++js.map fun j=>(σ[j]?).join
theorem Hg(S:bh X.N X.env.scope scope ls js cs)(I:Inv X pins σ H s)(hf:∀b∈fp,iz X pins H b)(hl:∀b∈fp,b<s.heap.objs.size):(gh X scope (ls++cs) s H s.heap.objs.size fp (X.pn++pins)).Ok:=by
 have sV:∀{x:Str}{c:Addr},(fT X.env scope.names []).lookup x=some c→X.env.cells.lookup x=some c:=fun{x c} h=>j_ (S.has I.ok) (fun y d h=>by simp at h) h
 refine⟨I.ok.mod,S.kind,I.ok.glob,I.ok.blt,Nat.le_refl _,fun x y c h1 h2=>I.ok.inj x y c (sV h1) (sV h2),fun x h=>oH (.inl (oJ S.Jb h)),(fun x c h=>Bool.noConfusion (show false=true from h)),I.ok.hd,I.ok.frames, .inl rfl,fun b hb=>⟨Nat.ne_of_lt (hl b hb),fun x c h=>(hf b hb).2.2.2.2.1 x c (sV h)⟩,
  I.bs,Nat.le_trans I.ok.J3 I.sz,fun b o e hb=>?_,fun b hb hm=>?_,I.stack,I.v9⟩
 ·rcases(hf b hb).2.2.2.1 with z|z
  ·exact I.ok.J4 b o e z
  ·exact Zn (Nat.lt_of_lt_of_le (Κ e) I.ok.J3) (Nat.not_lt.mpr z)
 ·rcases List.mem_cons.mp (I.sL b hm)with z|z
  ·exact(hf b hb).2.1 z
  ·exact(hf b hb).2.2.1 z
theorem Ex{h1:Heap}{m:Str→Option Value}(S:bh X.N X.env.scope scope ls js cs)(I:Inv X pins σ H s)(hf:∀b∈fp,iz X pins H b)(hl:∀b∈fp,b<s.heap.objs.size)
  (hn:h1.Ns s.heap.objs.size m) (hk:∀b o,s.heap.get? b=some o→h1.get? b=some o):
  Inv (gh X scope (ls++cs) s H s.heap.objs.size fp (X.pn++pins)) [] (lJ ls js σ) H {s with heap:=h1}:=by
 have sV:∀{x:Str}{c:Addr},(fT X.env scope.names []).lookup x=some c→X.env.cells.lookup x=some c:=fun{x c} h=>j_ (S.has I.ok) (fun y d h=>by simp at h) h
 have len:(lJ ls js σ).length=(ls++cs).length:=by
  unfold lJ;rw[List.length_append,List.length_append,List.length_map,List.length_map,S.len]
 refine⟨Hg S I hf hl,rfl,I.bare,Un.kept hk,⟨m,hn,fun i x v e1 e2 e3=>?_⟩,fun x c e=>?_,I.bY.fresh Λ,fun x c e=>I.mZ x c (sV e),fun p hp=>?_,I.bY.kept hk,len⟩
 ·have e1:(ls++cs)[i]?=some x:=e1;unfold lJ at e2;by_cases hi:i<ls.length
  ·rw[Υ (by simpa using hi),List.getElem?_map]at e2;cases q:ls[i]? with
   |none=>rw[q]at e2;cases e2
   |some y=>rw[q]at e2;cases e2
  ·have Bm:ls.length≤i:=Nat.not_lt.mp hi;rw[Ω (by simpa using Bm),List.getElem?_map,List.length_map]at e2;rw[Ω Bm]at e1;obtain⟨UM,qm⟩:=S.RO x (Z0 e1);cases q:js[i-ls.length]? with
   |none=>rw[q]at e2;cases e2
   |some j=>
    rw[q]at e2;have e2:(σ[j]?).join=some v:=Z' e2;have eN:X.N[j]?=some x:=by
     have aux:∀(js:List Nat)(cs:List Str)(i:Nat),cs=js.filterMap (X.N[·]?)→cs.length=js.length→∀j x,js[i]?=some j→cs[i]?=some x→X.N[j]?=some x:=by
      intro js
      induction js with
      |nil=>intro cs i _ _ j x hj _;simp at hj
      |cons a r ih=>
       intro cs i he hl j x hj hx;rw[List.filterMap_cons]at he;cases qa:X.N[a]? with
       |none=>
        rw[qa]at he;have hle:=List.length_filterMap_le (X.N[·]?) r;simp only at he;rw[he,List.length_cons]at hl
        lia
       |some y=>
        rw[qa]at he;simp only at he;subst he;cases i with
        |zero=>
         simp at hj hx;subst hj hx;exact qa
        |succ i=>exact ih _ i rfl (by simpa using hl) j x (by simpa using hj) (by simpa using hx)
     exact aux js cs _ S.at_ S.len j x q e1
    obtain⟨mX,_,WI⟩:=I.loc;have WJ:σ[j]?=some (some v):=by
     cases z:σ[j]? with
     |none=>rw[z]at e2;cases e2
     |some w=>rw[z]at e2;rw[show w=some v from e2]
    obtain⟨u,r,l⟩:=WI j x v eN WJ (qm.elim (fun z=> .inr (.inl z)) fun z=> .inr (.inr z));refine⟨u,r,?_⟩;rcases l with⟨z,_⟩|⟨_,c,z1,o,z2,z3⟩
    ·have z:X.env.scope.names.lookup x=some .local:=z;rcases qm with w|w<;>(rw[z]at w;cases w)
    ·refine .inr ⟨oI UM,c,?_,o,hk c o z2,z3⟩;obtain⟨c',J7⟩:=oH (env:=X.env) (l:=scope.names) (acc:=[]) (x:=x) (.inl (PySem.mem_of_lookup UM));have:=sV J7;rw[z1]at this;cases this;exact J7
 ·obtain⟨v,o,z1,z2⟩:=I.cell x c (sV e);exact⟨v,o,hk c o z1,z2⟩
 ·have hp:p∈X.pn++pins:=by simpa[gh]using hp
  obtain⟨e,n,ne,nf,d⟩:=I.pin p hp;refine⟨hk _ _ e,n,Nat.ne_of_lt (Κ e),fun hm=>?_,d⟩;rcases List.mem_cons.mp (I.sL p.1 hm)with z|z
  ·exact ne z
  ·exact nf z
end
section
variable{prog:Program}{w:World}{A:Around}{R:Result→Shared→Prop}{s:Shared}
theorem wG{elt target iter:Expr}{ifs:List Expr}{scope:Scope}{pos:Pos}{it acc:Value}{env:Env}(L:Nat→Shared→Prop)
  (turn:∀n s,L n s→wpAny (model prog w) A (pyNext it) (fun r cn=>match r with
   |none=>R (.ok .next) cn
   |some v=>wpAny (model prog w) A (letOwnedTupleGo target it v) (fun _ Jc=>wpAny (model prog w) A (assign target env v) (fun _ qe=>
     wpAny (model prog w) A (forIn ifs true fun c r=>if r=true then do let ok←isTrue c env (eval c env);pure (ForInStep.yield ok)else pure (ForInStep.yield r)) (fun ok Cs=>
      if ok=true then wpAny (model prog w) A (eval elt env) (fun x N2=>
       wpAny (model prog w) A (call (.builtin "list.append") [acc,x]) (fun _ N3=>∃m,m<n∧L m N3) (fun _ _=>False) N2) (fun _ _=>False) Cs
      else ∃m,m<n∧L m Cs) (fun _ _=>False) qe) (fun _ _=>False) Jc) (fun _ _=>False) cn) (fun _ _=>False) s)
  (n:Nat) (h:L n s):codeAny (model prog w) A (.compLoop (.ListComp elt [⟨target,iter,ifs,0⟩] scope pos) 0 it acc env) R s:=by
 refine codeAny_loop rfl L (fun n s hI=>?_) n h;show wpAny _ A ((compTurn (.ListComp elt [⟨target,iter,ifs,0⟩] scope pos) 0 it acc env).onRaise (fun x=>do noteFrame x env;theTreesLotGoes x)) _ _ s;refine wpAny_noted ?_;rw[compTurn_list];refine wpAny_mono (E:=fun _ _=>False) ?_ (fun _ _ q=>q) fun _ _ z=>False.elim z
 refine wpAny_bind (wpAny_standAt (Ζ (wpAny_mono (turn n s hI) (fun r cn Cr=>?_) fun _ _ h'=>h')));cases r with
 |none=>exact Ε Cr
 |some v=>
  refine wpAny_bind (wpAny_mono Cr (fun _ Jc Cr=>?_) fun _ _ h'=>h');refine wpAny_bind (wpAny_mono Cr (fun _ qe Ee=>Ζ (wpAny_mono Ee (fun ok Cs G0=>?_) fun _ _ h'=>h')) fun _ _ h'=>h');cases ok with
  |false=>exact Ε ⟨rfl,G0⟩
  |true=>
   exact Ζ (Ζ (wpAny_mono G0 (fun x N2 RP=>Ζ (wpAny_mono RP (fun _ N3 RQ=>Ε (Ε ⟨rfl,RQ⟩)) fun _ _ h'=>h')) fun _ _ h'=>h'))
end
def N4(X:Cx)(ifs:List Expr)(t:TT):Prop:=
 ∀(pins:List (Addr×Obj))(s:Shared)(σ:St)(H:Hp)(Q:Bool→Hp→Prop),Inv X pins σ H s→t σ H Q→
  wpAny (model X.prog X.w) X.A (forIn ifs true fun c r=>if r=true then do let ok←isTrue c X.env (eval c X.env);pure (ForInStep.yield ok)else pure (ForInStep.yield r)) (TP X pins σ Q) X.xe s
def KN:TT:=fun _ H Q=>Q true H
theorem fz{X:Cx}:N4 X [] KN:=fun _ _ _ H _ I h=>wpAny_tests_nil ⟨H,I,h⟩
theorem Bn{X:Cx}{c:Expr}{t:TT}(h:PT X c t):N4 X [c] t:=fun pins s σ H Q I hq=>wpAny_tests_one (h pins s σ H Q I hq)
def sW(J:It)(ls:List Str)(js:List Nat)(g:TG)(tt:TT)(te:TE)(σ:St)(H1:Hp)(D:Addr)(Q:VK):Prop:=
 ∃W:Nat→Nat→List V→St→Hp→Prop,(∃m,W 0 m [] (lJ ls js σ) (upd H1 D (.lst [])))∧∀i m ys bq H',W i m ys bq H'→
 (J.stop i H'∧Q (.ref D) H')∨(J.go i H'∧∃N:List V→St→Hp→Prop,(∀Jd gc H2,N Jd gc H2→∃m',m'<m∧W (i+1) m' Jd gc H2)∧∀x H2,J.GK i H' x H2→g x bq H2 fun gc H3=>tt gc H3 fun b H4=>
  if b=true then te gc H4 fun y H5=>H5 D=some (.lst ys)∧ys.length<sizeLine∧N (ys++[y]) gc (upd H5 D (.lst (ys++[y])))else N ys gc H4)
def Ey(wi:TI)(ls:List Str)(js:List Nat)(g:TG)(tt:TT)(te:TE):TE:=fun σ H Q=>wi σ H fun J H1=>∀D,H1 D=none→sW J ls js g tt te σ H1 D Q
section
variable{X:Cx}{tg iter elt:Expr}{ifs:List Expr}{scope:Scope}{pos:Pos}{wi:TI}{g:TG}{tt:TT}{te:TE}{ls cs:List Str}{js:List Nat}
theorem vE{pins:List (Addr×Obj)}{s:Shared}{σ:St}{H:Hp}{Q:VK}{use:Option (Value→Sem Unit)}{QQ:Value→Shared→Prop}(hc:X.calm=true)(S:bh X.N X.env.scope scope ls js cs)(hi:PI X tg iter wi)
  (hg:∀dF eY C fp pn,PG (gh X scope (ls++cs) dF eY C fp pn) tg g) (ht:∀dF eY C fp pn,N4 (gh X scope (ls++cs) dF eY C fp pn) ifs tt) (he:∀dF eY C fp pn,PE (gh X scope (ls++cs) dF eY C fp pn) elt te)
  (I:Inv X pins σ H s) (h:Ey wi ls js g tt te σ H Q)
  (RR:∀(D C:Addr)(H':Hp)(s':Shared)(m:Str→Option Value),Inv X pins σ H' s'→Q (.ref D) H'→s'.heap.Ns C m→iz X pins H' C→compPost (model X.prog X.w) X.A X.xe use QQ (.ref D) C (.ok .next) s')
  (hs:∀x,foldedSetIterable iter X.env x=pure x:=by intro _;rfl):
  wpAny (model X.prog X.w) X.A (comprehension (.ListComp elt [⟨tg,iter,ifs,0⟩] scope pos) scope X.env (firstIterPos [⟨tg,iter,ifs,0⟩] pos) (newList []) false (eval iter X.env) use) QQ X.xe s:=by
 refine wpAny_comprehension_free rfl hs (wF (S.has I.ok)) S.kind S.names (cI (hi pins s σ H _ I h) fun v s1 h1=>cI h1 fun Rj s2 h2=>?_);obtain⟨it,fp,tn,J,H2,rfl,I2,T,dS,f2,hW⟩:=h2;have UN:∀b∈fp,b<s2.heap.objs.size:=fun b hb=>by
  obtain⟨o,e,_⟩:=T.obj 0 _ dS b hb;exact Κ e
 refine wpAny_newObj_type ?_;have hD:H2 s2.heap.objs.size=none:=I2.bY.fresh Λ;obtain⟨W,⟨m0,w0⟩,turn⟩:=hW _ hD;have I3:Inv X pins σ (upd H2 s2.heap.objs.size (.lst [])) {s2 with heap:=s2.heap.push {cls:= .type "list",dict:=none,data:= .seq ([]:List Value).toArray}}:=
  I2.laid (t':=s2.toks) (fun b u e=>Z6 e) (Nat.le_refl _) ⟨Nat.zero_le _,[],0, .nil,Heap.get?_push_size _ rfl⟩
 have f3:∀b∈fp,iz X pins (upd H2 s2.heap.objs.size (.lst [])) b:=fun b hb=>⟨by rw[aj (Nat.ne_of_lt (UN b hb))];exact(f2 b hb).1,(f2 b hb).2⟩
 generalize Zb:upd H2 s2.heap.objs.size (.lst [])=H3 at I3 f3 w0;generalize Je:({s2 with heap:=s2.heap.push {cls:= .type "list",dict:=none,data:= .seq ([]:List Value).toArray}}:Shared)=s3 at I3;have UO:∀b∈fp,b<s3.heap.objs.size:=fun b hb=>by
  rw[←Je];show b<(s2.heap.push _).objs.size;rw[Heap.size_push];exact Nat.lt_succ_of_lt (UN b hb)
 have D5:tn 0 s3.heap:=T.keep 0 _ _ dS fun b hb o e=>by rw[←Je];exact Z6 e
 refine wpAny_newFunctionEnv S.Jb (by intro y hy;simp at hy) (fun h4 PM N5=>?_) S.kind;have k4:∀b o,s3.heap.get? b=some o→h4.get? b=some o:=fun b o e=>N5.extBut b o (Nat.ne_of_lt (Κ e)) (Z6 e)
 have I4:=Ex (h1:=h4) S I3 f3 UO PM k4;have WK:=I4.tok (s3.toks+([]:List (Str×Value)).length);have PV:tn 0 h4:=T.keep 0 _ _ D5 fun b hb o e=>k4 b o e
 show codeAny (model X.prog X.w) X.A (.compStart (.ListComp elt [⟨tg,iter,ifs,0⟩] scope pos) 0 (.ref it) (.ref s2.heap.objs.size) (compEnvC scope (fT X.env scope.names []) s3.heap.objs.size X.env)) (compPost (model X.prog X.w) X.A X.xe use QQ (.ref s2.heap.objs.size) s3.heap.objs.size) _;have zR:∀{H':Hp},(∀b∈fp,H' b=none)→∀b∈fp,iz (gh X scope (ls++cs) s3 H3 s3.heap.objs.size fp (X.pn++pins)) [] H' b:=fun{H'} hn b hb=>by
  obtain⟨q1,q2,q3,q4,q5,q6⟩:=f3 b hb;refine⟨hn b hb,Nat.ne_of_lt (UO b hb),fun hm=>?_, .inl hb,fun x c e=>q5 x c (j_ (S.has I.ok) (fun y d z=>by simp at z) e),fun p hp=>q6 p (by simpa[gh]using hp)⟩;rcases List.mem_cons.mp (I3.sL b hm)with z|z
  ·exact q2 z
  ·exact q3 z
 have loop:codeAny (model X.prog X.w) X.A (.compLoop (.ListComp elt [⟨tg,iter,ifs,0⟩] scope pos) 0 (.ref it) (.ref s2.heap.objs.size) (compEnvC scope (fT X.env scope.names []) s3.heap.objs.size X.env)) (compPost (model X.prog X.w) X.A X.xe use QQ (.ref s2.heap.objs.size) s3.heap.objs.size)
   {s3 with heap:=h4,toks:=s3.toks+([]:List (Str×Value)).length}:=by
  refine wG (fun n s'=>∃i bq H',Inv (gh X scope (ls++cs) s3 H3 s3.heap.objs.size fp (X.pn++pins)) [] bq H' s'∧tn i s'.heap∧(∀b∈fp,H' b=none)∧∃ys,W i n ys bq H') ?_ m0 ⟨0,_,_,WK,PV,fun b hb=>(f3 b hb).1,[],w0⟩;rintro n s5 ⟨i,PX,H5,I5,Mq,PF,ys,w5⟩;rcases turn i n ys PX H5 w5 with⟨stop,qn⟩|⟨go,N,hN,step⟩
  ·refine cI (T.done (gh X scope (ls++cs) s3 H3 s3.heap.objs.size fp (X.pn++pins)) rfl rfl rfl hc i [] s5 PX H5 (fun _ _=>False) I5 (zR PF) Mq stop) fun r s6 ⟨hr,I6⟩=>?_
   subst hr;obtain⟨m,hm,_⟩:=id I6.loc;have un:Un (oh X.stack) fp H3 H5 s3.heap s6.heap:=I6.base;have I7:Inv X pins σ H5 s6:=I3.Nj (ch:=fp) I6.os un I6.bY I6.bare fun b hb=>by
    obtain⟨q1,q2,q3,q4,q5,q6⟩:=f3 b hb;exact⟨q4,q2,q5,q6⟩
   have fc:iz X pins H5 s3.heap.objs.size:=I3.uC Λ I6.free;exact RR _ _ H5 s6 m I7 qn hm fc
  ·refine cI (T.item (gh X scope (ls++cs) s3 H3 s3.heap.objs.size fp (X.pn++pins)) rfl rfl rfl hc i [] s5 PX H5 (fun _ _=>False) I5 (zR PF) Mq go) fun r s6 ⟨u,hr,h6⟩=>?_
   subst hr;refine cI h6 fun _ s7 ⟨x,H7,I7,r7,y7,RS,WL⟩=>?_
   have WM:=I7.pinned (zR WL) (T.obj _ _ RS);refine cI (hg _ _ _ _ _ _ s7 PX H7 x u _ WM r7 (step x H7 y7)) fun _ s8 ⟨PY,H8,I8,q8⟩=>?_
   refine cI (ht _ _ _ _ _ _ s8 PY H8 _ I8 q8) fun b s9 ⟨H9,I9,q9⟩=>?_
   have again:∀{Jd:List V}{bq:St}{H':Hp}{s':Shared},Inv (gh X scope (ls++cs) s3 H3 s3.heap.objs.size fp (X.pn++pins)) ([]++sO fp s7.heap) bq H' s'→N Jd bq H'→
     ∃m,m<n∧∃i bq H',Inv (gh X scope (ls++cs) s3 H3 s3.heap.objs.size fp (X.pn++pins)) [] bq H' s'∧tn i s'.heap∧(∀b∈fp,H' b=none)∧∃ys,W i m ys bq H':=fun{Jd bq H' s'} I' n'=>by
    obtain⟨m',yF,w'⟩:=hN Jd bq H' n';refine⟨m',yF,i+1,bq,H',I'.lH,T.keep _ _ _ RS fun b hb o e=>(I'.pin (b,o) (γ (γ (gR hb e)))).1,fun b hb=>?_,Jd,w'⟩;obtain⟨o,e,d⟩:=T.obj _ _ RS b hb;exact(I'.pin (b,o) (γ (γ (gR hb e)))).2.1
   cases b with
   |false=>exact again I9 q9
   |true=>
    refine cI (he _ _ _ _ _ _ s9 PY H9 _ I9 q9) fun u2 Bo ⟨y,Hh,WN,WO,WQ,hz,WR⟩=>?_
    refine cI (bS _ Bo PY Hh (.ref s2.heap.objs.size) [y] (.ref s2.heap.objs.size) [u2] (fun _ H'=>N (ys++[y]) PY H') WN rfl (.cons WO .nil) ⟨_,ys,y,rfl,rfl,WQ,hz,WR⟩) fun _ Bp ⟨_,Cy,WS,_,WT⟩=>?_
    exact again WS WT
 exact codeAny_compStart_list loop (T.self _ 0 _ _ _ PV loop)
theorem kC(hc:X.calm=true)(S:bh X.N X.env.scope scope ls js cs)(hi:PI X tg iter wi)
  (hg:∀dF eY C fp pn,PG (gh X scope (ls++cs) dF eY C fp pn) tg g) (ht:∀dF eY C fp pn,N4 (gh X scope (ls++cs) dF eY C fp pn) ifs tt) (he:∀dF eY C fp pn,PE (gh X scope (ls++cs) dF eY C fp pn) elt te)
  (hs:∀x,foldedSetIterable iter X.env x=pure x:=by intro _;rfl):PE X (.ListComp elt [⟨tg,iter,ifs,0⟩] scope pos) (Ey wi ls js g tt te):=by
 intro pins s σ H Q I h;rw[eval_ListComp];refine vE (use:=none) hc S hi hg ht he I h (fun D C H' s' m I' q hm fc=>⟨m,hm,fun h' N5=>?_⟩) hs;obtain⟨q1,q2,q3,q4,q5,q6⟩:=fc;exact⟨.ref D,H',I'.turned (t':=s'.toks) (fun b o hb e=>N5.extBut b o hb e) q1 (Ne.symm (Ne.symm q2)) q4 q5 q6,rfl,q⟩
theorem ju{x:Str}{i:Nat}{pos' N6:Pos}(hc:X.calm=true)(hN:X.N.Nodup)(Bm:X.N[i]?=some x)(hx:X.env.scope.names.lookup x=some .local)(S:bh X.N X.env.scope scope ls js cs)(hi:PI X tg iter wi)
  (hg:∀dF eY C fp pn,PG (gh X scope (ls++cs) dF eY C fp pn) tg g) (ht:∀dF eY C fp pn,N4 (gh X scope (ls++cs) dF eY C fp pn) ifs tt) (he:∀dF eY C fp pn,PE (gh X scope (ls++cs) dF eY C fp pn) elt te)
  (RT:swapsWith (.ListComp elt [⟨tg,iter,ifs,0⟩] scope pos) (some (.Name x pos')) N6.line X.env=pure true:=by rfl)
  (hs:∀x,foldedSetIterable iter X.env x=pure x:=by intro _;rfl):PS X (.Assign [.Name x pos'] (.ListComp elt [⟨tg,iter,ifs,0⟩] scope pos) N6) (Kc (Ey wi ls js g tt te) (A9 i)):=by
 intro pins s σ H D I h;rw[exec_Assign_Name_used _ _ _ _ RT];refine wpAny_bind (wpAny_standAt (Ζ ?_));show wpAny _ X.A (do let _←comprehension (.ListComp elt [⟨tg,iter,ifs,0⟩] scope pos) scope X.env (firstIterPos [⟨tg,iter,ifs,0⟩] pos) (newList []) false (eval iter X.env) (some (assign (.Name x pos') X.env))) _ _ s;refine wpAny_bind (wpAny_mono (vE (use:=some (assign (.Name x pos') X.env)) (QQ:=fun _ s'=>SP X pins D .next s') hc S hi hg ht he I h (fun Dl C H' s' m I' q hm fc=>?_) hs) (fun _ s' hq=>Ε (Ε hq)) fun _ _ e=>e);show wpAny _ X.A (assign (.Name x pos') X.env (.ref Dl)) _ _ _;obtain⟨q1,q2,q3,q4,q5,q6⟩:=fc;refine wpAny_assign_Name (vj (v:= .ref Dl) I' hN Bm (.inl hx) rfl (fun s2 I2 ⟨a,N5,ha⟩=>?_) (.inr hx));have eX:C≠a:=by
  rcases ha with rfl|ha
  ·exact q2
  ·exact fun z=>q5 x a ha z.symm
 refine⟨m,hm.sameBut N5 eX,fun h' RU=>?_⟩;exact⟨_,H',I2.turned (t':=s2.toks) (fun b o hb e=>RU.extBut b o hb e) q1 q2 q4 q5 q6,q⟩
end
def PZ(z:Str):It:=⟨fun i _=>i<z.length,fun i H x H'=>H'=H∧∃c,z.cps.toList[i]?=some c∧x= .str ⟨#[c]⟩,fun i _=>z.length≤i⟩
theorem Ez{P:Program}{w:World}{K:Frag}{tg:Expr}{it:Addr}{z:Str}{ty:String}{t:Tok}(DC:ty="str_ascii_iterator"∨ty="str_iterator"):Turn P w K tg (PZ z) [it] it (fun i h=>h.IsStrIter it ty z t i) where
 mem:=ZF
 obj:=fun i h st b hb=>by
  have e:b=it:=by simpa using hb
  subst e;obtain⟨o,e,c,d⟩:=st;exact⟨o,e,fun v z=>by rw[d]at z;cases z⟩
 keep:=fun i h h' st k=>let ⟨o,ho,r⟩:=st;⟨o,k it (ZF) o ho,r⟩
 item:=by
  intro X hP hw hK hc i pins s σ H E I hf st hg;subst hP hw hK;obtain⟨f0,f1,f2,f3,f4,f5⟩:=hf it (ZF);have hg:i<z.cps.size:=hg;have key:∀h',h'.IsStrIter it ty z t (i+1)→Heap.SameBut it s.heap h'→∃u,some (Value.str ⟨#[z.cps[i]]⟩ s.toks)=some u∧
    wpAny (model X.prog X.w) X.A (letOwnedTupleGo tg (.ref it) u) (fun _ s2=>∃x H',Inv X pins σ H' s2∧RelV x u∧(PZ z).GK i H x H'∧s2.heap.IsStrIter it ty z t (i+1)∧∀b∈[it],H' b=none) E {s with heap:=h',toks:=s.toks+1}:=fun h' aT sb=>by
   have I1:Inv X pins σ H {s with heap:=h',toks:=s.toks+1}:=I.turned (fun b o hb e=>(sb.2 b hb).trans e) f0 f1 f3 f4 f5;obtain⟨o,e,c,d⟩:=id aT;refine⟨_,rfl,yt (s:={s with heap:=h',toks:=s.toks+1}) e c d (by rcases DC with rfl|rfl<;>decide) ⟨.str ⟨#[z.cps[i]]⟩,H,I1,⟨_,rfl⟩,⟨rfl,z.cps[i],by simp[hg],rfl⟩,aT,fun b hb=>(hf b hb).1⟩⟩
  rcases DC with rfl|rfl
  ·exact wpAny_pyNext_ascii_item st (c:=z.cps[i]) (by simp[hg]) key
  ·exact wpAny_pyNext_wide_item st (c:=z.cps[i]) (by simp[hg]) key
 done:=by
  intro X hP hw hK hc i pins s σ H E I hf st hg;subst hP hw hK;obtain⟨f0,f1,f2,f3,f4,f5⟩:=hf it (ZF);have hg:z.cps.size≤i:=hg;rcases DC with rfl|rfl
  ·exact wpAny_pyNext_ascii_end (I.ok.hd hc) st (by simp[hg]) fun h' eb=>⟨rfl,I.turned (t':=s.toks) (fun b o hb e=>eb b o hb e) f0 f1 f3 f4 f5⟩
  ·exact wpAny_pyNext_wide_end (I.ok.hd hc) st (by simp[hg]) fun h' eb=>⟨rfl,I.turned (t':=s.toks) (fun b o hb e=>eb b o hb e) f0 f1 f3 f4 f5⟩
 self:=fun _ _ _ _ _ st h=>by
  rcases DC with rfl|rfl
  ·exact wpAny_pyIter_striter_ascii st h
  ·exact wpAny_pyIter_striter_wide st h
section
variable{X:Cx}{tg:Expr}
def RV(tl:TE):TI:=fun σ H R=>tl σ H fun x H1=>∃z,x= .str z∧R (PZ z) H1
theorem KO{l:Expr}{tl:TE}(hl:PE X l tl):PI X tg l (RV tl):=by
 intro pins s σ H R I h;refine cI (hl pins s σ H _ I h) fun v s1 ⟨x,H1,I1,r1,q1⟩=>?_
 obtain⟨z,e,q⟩:=q1;subst e;obtain⟨t,rfl⟩:=r1;refine wpAny_pyIter_strU ?_;refine⟨s1.heap.objs.size,[s1.heap.objs.size],_,_,H1,rfl,I1.kept (t':=s1.toks) fun b o e=>Z6 e,Ez (ty:=strIterType z) (t:=t) (by unfold strIterType;split<;>simp),⟨_,Heap.get?_push_size _ rfl,rfl,rfl⟩,fun b hb=>?_,q⟩;have e:b=s1.heap.objs.size:=by simpa using hb
 subst e;exact I1.uC Λ (I1.bY.fresh Λ)
end
theorem oK{J:It}{n:Nat}{ls:List Str}{js:List Nat}{g:TG}{tt:TT}{te:TE}{σ:St}{H1:Hp}{D:Addr}{Q:VK}(Pv:Nat→List V→St→Hp→Prop)
  (h0:Pv 0 [] (lJ ls js σ) (upd H1 D (.lst []))) (Hi:∀i ys σ H,i<n→Pv i ys σ H→J.go i H) (vk:∀ys σ H,Pv n ys σ H→J.stop n H)
  (hs:∀i ys σ H x H2,i<n→Pv i ys σ H→J.GK i H x H2→g x σ H2 fun gc H3=>tt gc H3 fun b H4=>if b=true then te gc H4 fun y H5=>H5 D=some (.lst ys)∧ys.length<sizeLine∧Pv (i+1) (ys++[y]) gc (upd H5 D (.lst (ys++[y])))else Pv (i+1) ys gc H4)
  (hd:∀ys σ H,Pv n ys σ H→Q (.ref D) H):
  sW J ls js g tt te σ H1 D Q:=by
 refine⟨fun i m ys σ H=>m=n-i∧i≤n∧Pv i ys σ H,⟨n,ZF,Nat.zero_le _,h0⟩,?_⟩;rintro i m ys σ H ⟨rfl,hi,p⟩;by_cases ig:i<n
 ·exact .inr ⟨Hi i ys σ H ig p,Pv (i+1),fun Jd gc H2 p'=>⟨n-(i+1),by lia,rfl,ig,p'⟩,fun x H2 y=>hs i ys σ H x H2 ig p y⟩
 ·have e:i=n:=by lia
  subst e;exact .inl ⟨vk ys σ H p,hd ys σ H p⟩
theorem fA{K:Frag}{a:Addr}{xs:List V}{ls:List Str}{js:List Nat}{g:TG}{tt:TT}{te:TE}{σ:St}{H1:Hp}{D:Addr}{Q:VK}(Pv:Nat→List V→St→Hp→Prop)
  (h0:Pv 0 [] (lJ ls js σ) (upd H1 D (.lst []))) (hl:∀i ys σ H,i≤xs.length→Pv i ys σ H→iD K H a xs)
  (hs:∀i x ys σ H,xs[i]?=some x→Pv i ys σ H→g x σ H fun gc H3=>tt gc H3 fun b H4=>if b=true then te gc H4 fun y H5=>H5 D=some (.lst ys)∧ys.length<sizeLine∧Pv (i+1) (ys++[y]) gc (upd H5 D (.lst (ys++[y])))else Pv (i+1) ys gc H4)
  (hd:∀ys σ H,Pv xs.length ys σ H→Q (.ref D) H):
  sW (Mo K a) ls js g tt te σ H1 D Q:=
 oK (n:=xs.length) Pv h0 (fun i ys σ H hi p=>⟨xs,xs[i],hl i ys σ H (Nat.le_of_lt hi) p,by simp[hi]⟩) (fun ys σ H p=>⟨xs,hl _ ys σ H Λ p,Nat.le_refl _⟩)
  (fun i ys σ H x H2 hi p y=>by
   obtain⟨e,y⟩:=y;subst e;exact hs i x ys σ _ (y xs (hl i ys σ _ (Nat.le_of_lt hi) p)) p) hd
theorem sX{lo:Int}{n:Nat}{ls:List Str}{js:List Nat}{g:TG}{tt:TT}{te:TE}{σ:St}{H1:Hp}{D:Addr}{Q:VK}(Pv:Nat→List V→St→Hp→Prop)
  (h0:Pv 0 [] (lJ ls js σ) (upd H1 D (.lst [])))
  (hs:∀i ys σ H,i<n→Pv i ys σ H→g (.int (lo+i)) σ H fun gc H3=>tt gc H3 fun b H4=>if b=true then te gc H4 fun y H5=>H5 D=some (.lst ys)∧ys.length<sizeLine∧Pv (i+1) (ys++[y]) gc (upd H5 D (.lst (ys++[y])))else Pv (i+1) ys gc H4)
  (hd:∀ys σ H,Pv n ys σ H→Q (.ref D) H):
  sW (Ke lo n) ls js g tt te σ H1 D Q:=
 oK (n:=n) Pv h0 (fun i ys σ H hi p=>hi) (fun ys σ H p=>Nat.le_refl _)
  (fun i ys σ H x H2 hi p y=>by
   obtain⟨e,y⟩:=y;subst e y;exact hs i ys σ _ hi p) hd
theorem EA{z:Str}{ls:List Str}{js:List Nat}{g:TG}{tt:TT}{te:TE}{σ:St}{H1:Hp}{D:Addr}{Q:VK}(Pv:Nat→List V→St→Hp→Prop)
  (h0:Pv 0 [] (lJ ls js σ) (upd H1 D (.lst [])))
  (hs:∀i c ys σ H,z.cps.toList[i]?=some c→Pv i ys σ H→g (.str ⟨#[c]⟩) σ H fun gc H3=>tt gc H3 fun b H4=>if b=true then te gc H4 fun y H5=>H5 D=some (.lst ys)∧ys.length<sizeLine∧Pv (i+1) (ys++[y]) gc (upd H5 D (.lst (ys++[y])))else Pv (i+1) ys gc H4)
  (hd:∀ys σ H,Pv z.length ys σ H→Q (.ref D) H):
  sW (PZ z) ls js g tt te σ H1 D Q:=
 oK (n:=z.length) Pv h0 (fun i ys σ H hi p=>hi) (fun ys σ H p=>Nat.le_refl _)
  (fun i ys σ H x H2 hi p y=>by
   obtain⟨e,c,hc,ex⟩:=y;subst e ex;exact hs i c ys σ _ hc p) hd
theorem vF(z:Str)(lo hi:Option Int):(Txt.slice z lo hi).cps.toList=(z.cps.toList.drop (HT.kz z.length 0 lo)).take (HT.kz z.length z.length hi-HT.kz z.length 0 lo):=by
 have aaE:=HT.Ek z.length 0 (Nat.zero_le _) lo;have WV:=HT.Ek z.length z.length Λ hi;have ix:Builtin.Str.strSliceIndices lo hi 1 z.length=(Ι (HT.kz z.length z.length hi-HT.kz z.length 0 lo)).map (HT.kz z.length 0 lo+·):=by
  rw[←sliceRange_one];have pos:(1:Int)>0:=ZD;cases lo with
  |none=>
   cases hi with
   |none=>rfl
   |some j=>
    simp only[Builtin.Str.strSliceIndices,HT.kz,pos,if_true]
    congr 1
    by_cases h:j<0
    ·simp only[h,if_true];lia
    ·simp only[h,if_false];lia
  |some i=>
   have e1:max 0 (min (if i<0 then i+(z.length:Int)else i) (z.length:Int))=((HT.kz z.length 0 (some i):Nat):Int):=by
    simp only[HT.kz];by_cases h:i<0
    ·simp only[h,if_true];lia
    ·simp only[h,if_false];lia
   cases hi with
   |none=>
    simp only[Builtin.Str.strSliceIndices,pos,if_true];rw[e1];rfl
   |some j=>
    have e2:max 0 (min (if j<0 then j+(z.length:Int)else j) (z.length:Int))=((HT.kz z.length z.length (some j):Nat):Int):=by
     simp only[HT.kz];by_cases h:j<0
     ·simp only[h,if_true];lia
     ·simp only[h,if_false];lia
    simp only[Builtin.Str.strSliceIndices,pos,if_true];rw[e1,e2]
 have hp:=pick_run z.cps (HT.kz z.length 0 lo) (HT.kz z.length z.length hi-HT.kz z.length 0 lo);unfold Txt.slice;rw[ix];split
 ·rename_i h
  simp only[List.length_map,List.length_range,beq_self_eq_true,Bool.true_and,beq_iff_eq]at h;have h0:HT.kz z.length 0 lo=0:=by lia
  have h1:HT.kz z.length z.length hi=z.length:=by lia
  rw[h0,h1,List.drop_zero,Nat.sub_zero,List.take_of_length_le (by simp[Str.length])]
 ·rw[←hp]
theorem vG(z:Str)(lo hi:Option Int):(Txt.slice z lo hi).length≤z.length:=Txt.slice_le z lo hi
section
variable{X:Cx}
def RW:V→Option Int→Option Int→Hp→VK→Prop:=fun x lo hi H Q=>∃z,x= .str z∧z.length≤sizeLine∧Q (.str (Txt.slice z lo hi)) H
theorem Ad:PK X RW:=by
 intro pins s σ H x v vl vu lo hi sl Q I rx hs pl pu h;obtain⟨z,rfl,hz,q⟩:=h;obtain⟨t,rfl⟩:=rx;refine⟨"str",_,F.slot_str_getitem.lookup,typeIs_str _ _ _,?_⟩;have go:∀l u:Option (Int×Tok),vl=partValue l→vu=partValue u→l.map (·.1)=lo→u.map (·.1)=hi→wpAny (model X.prog X.w) X.A (getItem (.str z t) (.ref sl)) (EP X pins σ Q) X.xe s:=by
  rintro l u rfl rfl rfl rfl;obtain⟨o,h1,h2,h3⟩:=hs;refine wpAny_getItem_str_slice (l:=l) (u:=u) (st:=none) ⟨o,h1,h2,h3⟩ rfl ?_;exact post_val_or_str ⟨Nat.le_trans (Txt.slice_le z _ _) hz,fun t' k=>⟨.str (Txt.slice z (l.map (·.1)) (u.map (·.1))),H,I.tok _,⟨_,rfl⟩,q⟩⟩
 cases pl with
 |none=>
  cases pu with
  |none=>exact go none none rfl rfl rfl rfl
  |int j tj=>exact go none (some (j,tj)) rfl rfl rfl rfl
 |int i ti=>
  cases pu with
  |none=>exact go (some (i,ti)) none rfl rfl rfl rfl
  |int j tj=>exact go (some (i,ti)) (some (j,tj)) rfl rfl rfl rfl
theorem vH:rN X (compareOp .LtE) (fun x y H Q=>∃i j,x= .str i∧y= .str j∧Q (.bl (!decide (j.cps.toList<i.cps.toList))) H):=by
 intro pins s σ H x y v u Q I rx ry h;obtain⟨i,j,rfl,rfl,q⟩:=h;obtain⟨t,rfl⟩:=rx;obtain⟨t',rfl⟩:=ry;exact P.le_str (bK I q rfl)
theorem Hj{bs:List Bool}{us:List Value}(r:Vals (bs.map V.bl) us)(i:Nat)(v:Value)(h:us[i]?=some v):v= .bool (bs.getD i false):=by
 induction bs generalizing us i with
 |nil=>cases r;simp at h
 |cons b r' ih=>
  cases r with
  |cons r0 rr=>
   cases i with
   |zero=>
    have h0:some _=some v:=h;cases h0;exact r0
   |succ i=>simpa using ih rr i (by simpa using h)
theorem all_range(bs:List Bool):(Ι bs.length).all (fun i=>bs.getD i false)=bs.all id:=by
 rw[Bool.eq_iff_iff,List.all_eq_true,List.all_eq_true];constructor
 ·intro h b hb;obtain⟨i,hi,rfl⟩:=List.mem_iff_getElem.mp hb;have:=h i (by simpa using hi);simpa[hi]using this
 ·intro h i hi;have hi:i<bs.length:=by simpa using hi
  simpa[hi]using h bs[i] (List.getElem_mem hi)
def N7(K:Frag)(f:List Bool→Bool):List V→Hp→VK→Prop:=fun xs H Q=>∃a bs,xs=[.ref a]∧iD K H a (bs.map V.bl)∧Q (.bl (f bs)) H
theorem EB(hc:X.calm=true):iZ X (.builtin "all") (N7 X.K fun bs=>bs.all id):=by
 intro pins s σ H xs us Q I r h;obtain⟨a,bs,rfl,hq,q⟩:=h;cases r with
 |cons r rr=>
  cases rr;cases r;obtain⟨its,rv,p,hz⟩:=I.list hq;have hl:=rv.length;rw[List.length_map]at hl;refine call_all_walk (wpAny_pyIter_list p.isList ?_);have eX:a≠s.heap.objs.size:=by
   obtain⟨o,n,e,_⟩:=p;exact Nat.ne_of_lt (Κ e)
  refine⟨s.heap.objs.size,_,_,_,_,_,fun i=>bs.getD i false,rfl,Walks.list (A:=X.A.in1) (show X.A.in1.handled=none from I.ok.hd hc) _ a eX its.toArray,⟨⟨_,Heap.get?_push_size _ rfl,rfl,rfl⟩,p.isList.at fun o e=>Z6 e⟩,fun i v s1 Q1 E1 hv q1=>?_,fun h' tk hk=>?_⟩
  ·have hv:=Hj rv i v (by simpa using hv);subst hv;exact wpAny_truthy_bool q1
  ·rw[List.size_toArray,←hl,all_range];refine⟨.bl (bs.all id),H,I.kept fun b o e=>hk b o (fun z=>?_) (Z6 e),rfl,q⟩;have z:b=s.heap.objs.size:=by simpa using z
   exact Zn (z▸Κ e) (Nat.lt_irrefl _)
def Jf:V→Option Value
 | .ty n=>some (.type n)
 | .ref C=>some (.ref C)
 | _=>none
theorem Cz{c:V}{cv u:Value}(h:Jf c=some cv)(r:RelV c u):u=cv:=by
 cases c<;>first
  |(cases h;done)
  |(cases h;exact r)
inductive KP(K:Frag)(xs:List V)(H:Hp)(Q:VK):Prop
 |mk (x:_) (c:_) (t:_) (b:_) (cv:_) (_:xs=[x,c]) (_:Jf c=some cv) (_:qj K H x t) (_:kitOne K t cv=some b) (_:Q (.bl b) H):KP K xs H Q
theorem EC:iZ X (.builtin "isinstance") (KP X.K):=by
 intro pins s σ H xs us Q I r h;obtain⟨x,c,t,b,cv,rfl,rc,ty,hk,q⟩:=h;cases r with
 |cons r1 rr=>
  cases rr with
  |cons r2 rr=>
   cases rr;cases Cz rc r2;exact Cm I r1 ty hk fun tk=>⟨.bl b,H,I.tok _,rfl,q⟩
end
section
variable{P:Program}{w:World}{K:Frag}{mg:Str→Option Value}{base:Heap}
abbrev P0(P:Program)(w:World)(K:Frag)(mg:Str→Option Value)(base:Heap)(cm:Bool)(N:List Str)(qual:Str)(scope:Scope)(f:Addr)(cd:Value)(A:Around)(outer:List Env)(s:Shared)(H:Hp)(E:XK):Cx:=
 zZ (c7 P w) cm P w K mg base N qual scope f cd A outer s H E
theorem jt.gO{cm:Bool}{x qual:Str}{st:Stmt}{f:Addr}{fd:FuncData}{N ps:List Str}{k:Nat}{sp:Sp}(F:jt K x qual st f fd)(S:aL N ps (ar st))(len:∀vs H Q E,sp vs H Q E→vs.length=ps.length)
  (yw:∀(bU:Value)(A:Around)(outer:List Env)(s:Shared)(H:Hp)(vs:List V)(Q:VK)(E:XK),eV cm k (A.deeper (envOfC qual (ar st) s.heap.objs.size f bU))→sp vs H Q E→
   PQ (P0 P w K mg base cm N qual (ar st) f bU A outer s H E) (fun _=>E)→
   ∃t,Cd (P0 P w K mg base cm N qual (ar st) f bU A outer s H E) (eM st) t∧t {nx:=fun _ H'=>Q .cR H',rt:=Q} (start N vs) H):a8 P w K mg base (c7 P w) cm (k+1) f fd ps sp:=by
 obtain⟨oc,od,kV,doc,pm,an,bU,ct,Bg,rfl,lk,Ce⟩:=F.ex;exact IX lk Ce S len fun A outer s H vs Q E hr Gr=>yw bU A outer s H vs Q E hr Gr Bl
end
def bM(P:Program)(w:World)(K:Frag)(mg:Str→Option Value)(base:Heap)(cm:Bool)(k:Nat)(x:Str)(ps:List Str)(sp:Sp):Prop:=
 ∃f fd,a8 P w K mg base (c7 P w) cm k f fd ps sp∧mg x=some (.ref f)∧keepIn K (.ref f)=true∧Binds K fd ps []
theorem ED{P:Program}{w:World}{K:Frag}{mg:Str→Option Value}{base:Heap}{cm:Bool}{k:Nat}{x y:Str}{ps:List Str}{sp:Sp}{st:Stmt}{f:Addr}{fd:FuncData}(F:jt K x y st f fd)(hm:mg x=some (.ref f))(b:Binds K fd ps [])
  (ok:a8 P w K mg base (c7 P w) cm k f fd ps sp):bM P w K mg base cm k x ps sp:=⟨f,fd,ok,hm,F.kp,b⟩
section
variable{X:Cx}{cm:Bool}{k:Nat}{x:Str}{ps:List Str}{sp:Sp}{E:St→XK}{e:Expr}{es:List Expr}{t:TA}{p pos:Pos}
theorem aN(D:bM X.prog X.w X.K X.mg X.base cm k x ps sp)(hr:eV cm k X.A)(hx:Passes (c7 X.prog X.w) X E)(ha:PA X (e::es) t)(hg:Gl X x:=by rfl)(we:(x==("__debug__":Str))=false:=by decide)
  (he:starEach (e::es) X.env=(false,eval e X.env)::starEach es X.env:=by rfl) (rq:(backTo pos (starEach es X.env)).any (·.1)=false:=by rfl):PE X (.Call (.Name x p) (e::es) [] pos) (IW sp [] E t):=by
 obtain⟨f,fd,ok,hm,hk,hb⟩:=D;exact GU ok hr hg hm hk hb .nil hx ha we he rq
theorem fO{v:V}(h:∃u,X.mg x=some u∧RelV v u)(hg:Gl X x:=by rfl)(hd:(x==("__debug__":Str))=false:=by decide):PE X (.Name x pos) (tC v):=by
 obtain⟨u,h1,h2⟩:=h;exact A8 hg h1 h2 hd
end
theorem oM{σ:St}{H:Hp}{A B:Hp→Prop}(h:A H):KN σ H (fun b H4=>if b=true then A H4 else B H4):=by
 show if true=true then A H else B H
 exact jS h
theorem lK{i:Nat}{x:V}{σ:St}{H:Hp}{A B:St→Hp→Prop}(h:A (σ.set i (some x)) H):A9 i x σ H (fun gc H3=>KN gc H3 (fun b H4=>if b=true then A gc H4 else B gc H4)):=by
 show if true=true then A (σ.set i (some x)) H else B (σ.set i (some x)) H
 exact jS h
theorem aF{n:Nat}(h:n≤100000):n≤sizeLine:=Nat.le_trans h (ZD)
theorem aZ{n:Nat}(h:n≤100000):n<sizeLine:=Nat.lt_of_le_of_lt h (ZD)
def RX(t u:TS):TS:=fun D σ H=>∃Pm:St→Hp→Prop,t {D with nx:=Pm} σ H∧∀bq H',Pm bq H'→u D bq H'
theorem aC{X:Cx}{st:Stmt}{rest:List Stmt}{t u:TS}(h1:PS X st t)(h2:Cd X rest u):Cd X (st::rest) (RX t u):=by
 intro pins s σ H D I h;obtain⟨Pm,ht,hu⟩:=h;refine wpAny_execs_cons (cI (h1 pins s σ H {D with nx:=Pm} I ht) fun f s1 q=>?_);cases f with
 |next=>obtain⟨bq,H',I',p⟩:=q;exact h2 pins s1 bq H' D I' (hu bq H' p)
 |brk=>exact q
 |cont=>exact q
 |ret v=>exact q
theorem ax.upd{H:Hp}{a:Addr}{o:HO}(h:H a=none):ax H (upd H a o):=fun b u e=>by rw[aj (aE e h)];exact e
theorem ax.dU{H H':Hp}{a:Addr}{o:HO}(s:ax H H')(h:H a=none):ax H (L2.upd H' a o):=fun b u e=>by rw[aj (aE e h)];exact s b u e
end L2
namespace QF
open PySem L2
theorem qb{n:Nat}{P:List Value→Prop}(h:∀a us,us.length=n→P (a::us)):∀us:List Value,us.length=n+1→P us:=fun us e=>by
 cases us with
 |nil=>cases e
 |cons a r=>exact h a r (Nat.succ.inj e)
theorem KR{P:List Value→Prop}(h:P []):∀us:List Value,us.length=0→P us:=fun us e=>by
 cases us with
 |nil=>exact h
 |cons a r=>cases e
theorem WW{P:List Value→Prop}(h:∀a,P [a]):∀us:List Value,us.length=1→P us:=qb fun a=>KR (h a)
theorem WX{P:List Value→Prop}(h:∀a b,P [a,b]):∀us:List Value,us.length=2→P us:=qb fun a=>qb fun b=>KR (h a b)
theorem WY{P:List Value→Prop}(h:∀a b c,P [a,b,c]):∀us:List Value,us.length=3→P us:=qb fun a=>qb fun b=>qb fun c=>KR (h a b c)
theorem WZ{P:List Value→Prop}(h:∀a b c d,P [a,b,c,d]):∀us:List Value,us.length=4→P us:=qb fun a=>qb fun b=>qb fun c=>qb fun d=>KR (h a b c d)
theorem W0{P:List Value→Prop}(h:∀a b c d e,P [a,b,c,d,e]):∀us:List Value,us.length=5→P us:=qb fun a=>qb fun b=>qb fun c=>qb fun d=>qb fun e=>KR (h a b c d e)
theorem W4{P:List Value→Prop}(h:∀a b c d e f,P [a,b,c,d,e,f]):∀us:List Value,us.length=6→P us:=qb fun a=>qb fun b=>qb fun c=>qb fun d=>qb fun e=>qb fun f=>KR (h a b c d e f)
theorem W5{P:List Value→Prop}(h:∀a b c d e f g,P [a,b,c,d,e,f,g]):∀us:List Value,us.length=7→P us:=qb fun a=>qb fun b=>qb fun c=>qb fun d=>qb fun e=>qb fun f=>qb fun g=>KR (h a b c d e f g)
theorem RY(us:List Value)(e:us.length=7):∃a b c d e f g,us=[a,b,c,d,e,f,g]:=W5 (P:=fun us=>∃a b c d e f g,us=[a,b,c,d,e,f,g]) (fun a b c d e f g=>⟨a,b,c,d,e,f,g,rfl⟩) us e
end QF
namespace L2
open PySem PySem.Spec PyProof.Rows PySem.W PySem.Calls
def notStar:Expr→Bool
 | .Starred _ _=>false
 | _=>true
theorem sY{e:Expr}{es:List Expr}{env:Env}(h:notStar e=true):starEach (e::es) env=(false,eval e env)::starEach es env:=by
 cases e<;>first|rfl|cases h
theorem ak{X:Cx}{e:Expr}{es:List Expr}{te:TE}{t:TA}(ha:PE X e te)(hr:PA X es t)(hn:notStar e=true:=by rfl):PA X (e::es) (IV te t):=GR ha hr (sY hn)
structure iA(K:Frag)(x qual:Str)(st:Stmt)(f:Addr)(fd:FuncData):Prop where
 ex:∃(oc:Value)(od:Option Addr)(dV kV doc pm:Value)(an:Option Addr)(bU ct:Value)(Bg:Array (Option Value)),
  fd=fnOf x qual (fN st) (eM st) (ar st) dV kV doc pm an bU ct∧K.lookup f=some ⟨oc,od, .func fd,Bg⟩∧codeIn K bU qual=true
 kp:keepIn K (.ref f)=true
theorem Br{K:Frag}{x qual:Str}{st:Stmt}{f:Addr}{oc:Value}{od an:Option Addr}{Bg:Array (Option Value)}{dV kV doc pm bU ct:Value}(l:K.lookup f=some ⟨oc,od, .func (fnOf x qual (fN st) (eM st) (ar st) dV kV doc pm an bU ct),Bg⟩)
  (c:codeIn K bU qual=true) (k:keepIn K (.ref f)=true):iA K x qual st f (fnOf x qual (fN st) (eM st) (ar st) dV kV doc pm an bU ct):=⟨⟨oc,od,dV,kV,doc,pm,an,bU,ct,Bg,rfl,l,c⟩,k⟩
section
variable{P:Program}{w:World}{K:Frag}{mg:Str→Option Value}{base:Heap}
theorem iA.gO{cm:Bool}{x qual:Str}{st:Stmt}{f:Addr}{fd:FuncData}{N ps:List Str}{k:Nat}{sp:Sp}(F:iA K x qual st f fd)(S:aL N ps (ar st))(len:∀vs H Q E,sp vs H Q E→vs.length=ps.length)
  (yw:∀(bU:Value)(A:Around)(outer:List Env)(s:Shared)(H:Hp)(vs:List V)(Q:VK)(E:XK),eV cm k (A.deeper (envOfC qual (ar st) s.heap.objs.size f bU))→sp vs H Q E→
   PQ (P0 P w K mg base cm N qual (ar st) f bU A outer s H E) (fun _=>E)→
   ∃t,Cd (P0 P w K mg base cm N qual (ar st) f bU A outer s H E) (eM st) t∧t {nx:=fun _ H'=>Q .cR H',rt:=Q} (start N vs) H):a8 P w K mg base (c7 P w) cm (k+1) f fd ps sp:=by
 obtain⟨oc,od,dV,kV,doc,pm,an,bU,ct,Bg,rfl,lk,Ce⟩:=F.ex;exact IX lk Ce S len fun A outer s H vs Q E hr Gr=>yw bU A outer s H vs Q E hr Gr Bl
end
def eK(P:Program)(w:World)(K:Frag)(mg:Str→Option Value)(base:Heap)(cm:Bool)(k:Nat)(C:Addr)(m:Str)(ps:List Str)(sp:Sp):Prop:=
 ∃f fd,a8 P w K mg base (c7 P w) cm k f fd ps sp∧Meth K C m f∧Binds K fd ps []∧wc K C
def m4(P:Program)(w:World)(K:Frag)(mg:Str→Option Value)(base:Heap)(cm:Bool)(k:Nat)(x:Str)(C:Addr)(ps:List Str)(mq:List V)(sp:Sp):Prop:=
 ∃f fd ds,a8 P w K mg base (c7 P w) cm k f fd ps sp∧Mk K C f∧mg x=some (.ref C)∧Binds K fd ps ds∧Vals mq ds
theorem yG{P:Program}{w:World}{K:Frag}{mg:Str→Option Value}{base:Heap}{cm:Bool}{k:Nat}{x:Str}{C f:Addr}{fd:FuncData}{ps:List Str}{mq:List V}{ds:List Value}{sp:Sp}(h1:a8 P w K mg base (c7 P w) cm k f fd ps sp)(h2:Mk K C f)(h3:mg x=some (.ref C))(h4:Binds K fd ps ds)(h5:Vals mq ds):m4 P w K mg base cm k x C ps mq sp:=⟨f,fd,ds,h1,h2,h3,h4,h5⟩
theorem CA{P:Program}{w:World}{K:Frag}{mg:Str→Option Value}{base:Heap}{cm:Bool}{k:Nat}{m:Str}{C f:Addr}{fd:FuncData}{ps:List Str}{sp:Sp}(h1:a8 P w K mg base (c7 P w) cm k f fd ps sp)(h2:Meth K C m f)(h3:Binds K fd ps [])(h4:wc K C):eK P w K mg base cm k C m ps sp:=⟨f,fd,h1,h2,h3,h4⟩
section
variable{X:Cx}{cm:Bool}{k:Nat}{x m:Str}{ps:List Str}{sp:Sp}{E:St→XK}{e o:Expr}{es:List Expr}{t:TA}{to:TE}{p pos apos:Pos}{C:Addr}{mq:List V}
theorem sr(D:m4 X.prog X.w X.K X.mg X.base cm k x C ps mq sp)(hr:eV cm (k+1) X.A)(hx:Passes (c7 X.prog X.w) X E)(ha:PA X (e::es) t)(hg:Gl X x:=by rfl)(we:(x==("__debug__":Str))=false:=by decide)
  (he:starEach (e::es) X.env=(false,eval e X.env)::starEach es X.env:=by rfl) (rq:(backTo pos (starEach es X.env)).any (·.1)=false:=by rfl):PE X (.Call (.Name x p) (e::es) [] pos) (Bf C sp mq E t):=by
 obtain⟨f,fd,ds,ok,M,hm,hb,hd⟩:=D;exact GW M ok hr hg hm hb hd hx ha we he rq
theorem bO{pl:Sem Bool}(ho:PE X o to)(D:eK X.prog X.w X.K X.mg X.base cm k C m ps sp)(hr:eV cm k X.A)(hx:Passes (c7 X.prog X.w) X E)(ha:PA X (e::es) t)
  (vk:starEach (e::es) X.env=(false,eval e X.env)::starEach es X.env:=by rfl) (rq:(backTo pos (starEach es X.env)).any (·.1)=false:=by rfl)
  (ht:eval (.Call (.Attribute o m apos) (e::es) [] pos) X.env=(do
   let ov←eval o X.env
   standAt apos.atName
   let (f,first)←holding [ov] (getMethod ov m pl)
   callWith pos f first (backTo pos (starEach (e::es) X.env)) (backToKw pos (keywordEach [] X.env))):=by rfl):PE X (.Call (.Attribute o m apos) (e::es) [] pos) (Be C m sp [] E to t):=by
 obtain⟨f,fd,ok,hm,hb,c⟩:=D;exact GV ho c hm ok hr hb .nil hx ha vk rq ht
theorem CB{pl:Sem Bool}(ho:PE X o to)(D:eK X.prog X.w X.K X.mg X.base cm k C m ps sp)(hr:eV cm k X.A)(hx:Passes (c7 X.prog X.w) X E)
  (ht:eval (.Call (.Attribute o m apos) [] [] pos) X.env=(do
   let ov←eval o X.env
   standAt apos.atName
   let (f,first)←holding [ov] (getMethod ov m pl)
   callWith pos f first (backTo pos (starEach [] X.env)) (backToKw pos (keywordEach [] X.env))):=by rfl):PE X (.Call (.Attribute o m apos) [] [] pos) (Be C m sp [] E to Ea):=by
 obtain⟨f,fd,ok,hm,hb,c⟩:=D;exact Ec ho c hm ok hr hb .nil hx ht
end
section
variable{X:Cx}
theorem ba(K:Frag){tg l:Expr}{tl:TE}(hl:PE X l tl)(h:X.K=K:=by rfl):PI X tg l (IQ K tl):=h▸GL hl
theorem aD(K:Frag){e:Expr}{f:Str}{pos:Pos}{ta:TE}(he:PE X e ta)(hb:attributeBase e f X.env (eval e X.env)=eval e X.env:=by rfl)(h:X.K=K:=by rfl):PE X (.Attribute e f pos) (NB K ta f):=h▸Kj he hb
theorem cq(K:Frag){o value:Expr}{f:Str}{pos pos':Pos}{ta tv:TE}(ha:PE X o ta)(hv:PE X value tv)(hs:swapsWith value (some (.Attribute o f pos')) pos.line X.env=pure false:=by rfl)(h:X.K=K:=by rfl):PS X (.Assign [.Attribute o f pos'] value pos) (NC K ta tv f):=h▸Kk ha hv hs
theorem aq(K:Frag)(h:X.K=K:=by rfl):Mr X (Ku K):=h▸G9
theorem bV(K:Frag)(h:X.K=K:=by rfl):Mr X (Kv K):=h▸Kx
theorem EE(K:Frag)(h:X.K=K:=by rfl):PK X (KA K):=h▸G_
inductive Jg(K:Frag)(xs:List V)(H:Hp)(Q:VK):Prop
 |mk (p:_) (ys:_) (_:xs=[.ref p]) (_:(iD K H p ys∨DZ K H p ys)) (_:Q (.int ys.length) H):Jg K xs H Q
theorem aK(K:Frag)(h:X.K=K:=by rfl):iZ X (.builtin "len") (Jg K):=by
 subst h;intro pins s σ H xs us Q I r hq;obtain⟨p,ys,e,d,q⟩:=hq;exact wA pins s σ H xs us Q I r ⟨p,ys,e,d,q⟩
inductive Bs(K:Frag)(xs:List V)(H:Hp)(Q:VK):Prop
 |mk (p:_) (ys:_) (_:xs=[.ref p]) (_:(iD K H p ys∨DZ K H p ys)) (_:∀l,H l=none→Q (.ref l) (upd H l (.lst ys))):Bs K xs H Q
theorem fJ(K:Frag)(h:X.K=K:=by rfl):iZ X (.type "list") (Bs K):=by
 subst h;intro pins s σ H xs us Q I r hq;obtain⟨p,ys,e,d,q⟩:=hq;exact wB pins s σ H xs us Q I r ⟨p,ys,e,d,q⟩
theorem CC(K:Frag)(hc:X.calm=true)(h:X.K=K:=by rfl):iZ X (.builtin "all") (N7 K fun bs=>bs.all id):=h▸EB hc
theorem f6(K:Frag)(h:X.K=K:=by rfl):iZ X (.builtin "isinstance") (KP K):=h▸EC
theorem fB(K:Frag){es:List Expr}{k:Nat}{t:IP}{n:Nat}{pos:Pos}(hc:X.calm=true)(h:Nr X es t)
  (hn:(assignEach es X.env).length=n:=by rfl) (vk:(assignEach es X.env).findIdx? (·.1)=none:=by rfl) (hK:X.K=K:=by rfl):PG X (.Tuple es k pos) (Ka K n t):=hK▸Kb hc h hn vk
theorem e6(K:Frag){T:String}{name:Str}{id:String}{r:V→List V→Hp→VK→Prop}{o e:Expr}{es:List Expr}{apos eI:Pos}{to:TE}{t:TA}(pa:PlainAttrs T)(slot:Slot T name id)(DC:typeOf (.builtin id)=pure (.type "method_descriptor"))(hm:PL X id r)(ho:PE X o to)(ha:PA X (e::es) t)
  (oF:attributeBase o name X.env (eval o X.env)=eval o X.env:=by rfl)
  (Eo:((backTo eI (starEach (e::es) X.env)).all (fun x=>!x.1)&&(backToKw eI (keywordEach [] X.env)).all (fun x=>x.1.isSome)
   &&decide ((e::es).length+([]:List Keyword).length+(if ([]:List Keyword).isEmpty then 0 else 1)<30))=true:=by rfl)
  (oG:(apos.endLine==eI.line)=true:=by rfl) (hs:starEach (e::es) X.env=(false,eval e X.env)::starEach es X.env:=by rfl) (z_:(backTo eI (starEach es X.env)).any (·.1)=false:=by rfl) (hK:X.K=K:=by rfl):
  PE X (.Call (.Attribute o name apos) (e::es) [] eI) (UH K T r to t):=hK▸NP pa slot DC hm ho ha oF Eo oG hs z_
end
section
variable{X:Cx}
end
end L2
namespace QF
open PySem L2
structure TB(mg:Str→Option Value):Prop where
 c_:mg "len"=none
 fC:mg "range"=none
 de:mg "isinstance"=none
 Bt:mg "int"=none
 KS:mg "bool"=none
 UP:mg "str"=none
 jT:mg "list"=none
 Hk:mg "tuple"=none
 RZ:mg "dict"=none
 N8:mg "all"=none
 aaF:mg "any"=none
 EF:mg "min"=none
 Jh:mg "max"=none
 jv:mg "enumerate"=none
 Hl:mg "ValueError"=none
def D_(mg:Str→Option Value)(x:Str)(v:V):Prop:=∃u,mg x=some u∧RelV v u
def cell(ns:List Int)(k:Int):Int:=ns.getD k.toNat 0
theorem Hm{ns:List Int}{k:Int}(h0:0≤k)(h:k<(ns.length:Int)):rO (ns.map V.int) k=some (.int (cell ns k)):=by
 obtain⟨j,rfl⟩:=Int.eq_ofNat_of_zero_le h0;have hj:j<ns.length:=by lia
 refine au ?_;simp[cell,hj]
theorem cell_out{ns:List Int}{k:Int}(h0:0≤k)(h:¬k<(ns.length:Int)):cell ns k=0:=by
 have hj:ns.length≤k.toNat:=by lia
 simp[cell,hj]
def low(c:Nat):Bool:=decide (97≤c)&&decide (c≤122)
def sZ(z:Str):Bool:=decide (1≤z.length)&&decide (z.length≤12)&&z.cps.toList.all low
theorem UR(a b:Nat):(([a]:List Nat)<[b])↔a<b:=by
 constructor
 ·intro h;cases h with
  |rel h=>exact h
  |cons h=>cases h
 ·intro h;exact .rel h
theorem R0(c:Nat):(!decide (([c]:List Nat)<(Str.ofString "a").cps.toList))=decide (97≤c):=by
 have e:(Str.ofString "a").cps.toList=[97]:=by decide+kernel
 rw[e,Bool.eq_iff_iff];simp only[Bool.not_eq_true',decide_eq_false_iff_not,decide_eq_true_eq,UR]
 lia
theorem R1(c:Nat):(!decide ((Str.ofString "z").cps.toList<([c]:List Nat)))=decide (c≤122):=by
 have e:(Str.ofString "z").cps.toList=[122]:=by decide+kernel
 rw[e,Bool.eq_iff_iff];simp only[Bool.not_eq_true',decide_eq_false_iff_not,decide_eq_true_eq,UR]
 lia
theorem len_app(x y:Str):(x++y).length=x.length+y.length:=by
 show(x.cps++y.cps).size=_;rw[Array.size_append];rfl
inductive EG(K:W.Frag)(vs:List V)(H:Hp)(Q:VK)(u3:XK):Prop
 |mk (a:_) (ns:_) (k:_) (_:vs=[.ref a, .int k]) (_:iD K H a (ns.map V.int)) (_:0≤k) (_:Q (.int (cell ns k)) H):EG K vs H Q u3
inductive s_(vs:List V)(H:Hp)(Q:VK)(u3:XK):Prop
 |mk (i:_) (_:vs=[.int i]) (_:Q (.bl true) H):s_ vs H Q u3
inductive Ae(vs:List V)(H:Hp)(Q:VK)(u3:XK):Prop
 |mk (c:Nat) (_:vs=[.str ⟨#[c]⟩]) (_:Q (.bl (low c)) H):Ae vs H Q u3
inductive wH(vs:List V)(H:Hp)(Q:VK)(u3:XK):Prop
 |mk (z:Str) (_:vs=[.str z]) (_:z.length≤100000) (_:∀H',ax H H'→Q (.bl (sZ z)) H'):wH vs H Q u3
inductive nE(vs:List V)(H:Hp)(Q:VK)(u3:XK):Prop
 |mk (l n h:Int) (_:vs=[.int l, .int n, .int h]) (_:Q (.bl (decide (l≤n)&&decide (n≤h))) H):nE vs H Q u3
def Bu(K:W.Frag):Sp:=fun vs H Q _=>∃(a:Addr)(ns:List Int),vs=[.ref a]∧iD K H a (ns.map V.int)∧ns.length≤63∧∀H',Q (.bl true) H'
structure Er(K:W.Frag)(mg:Str→Option Value)(x:Str)(C:Addr):Prop where
 m:mg x=some (.ref C)
 e:NY K C
def inR(l n h:Int):Bool:=decide (l≤n)&&decide (n≤h)
inductive qo(C:Addr)(vs:List V)(H:Hp)(Q:VK)(E:XK):Prop
 |mk (nm:Str) (n l h:Int) (_:vs=[.str nm, .int n, .int l, .int h]) (_:nm.length≤20) (_:(0≤l∧l≤1)) (_:(h=100∨h=999999)) (_:(if inR l n h=true then Q .cR H else E (.ref C) none H)):qo C vs H Q E
theorem oN{i:Int}(h:i=0∨i=1∨i=12∨i=40∨i=60∨i=100∨i=999999):i.natAbs.log2<1920∧(Str.ofString (toString i)).length≤6:=by
 rcases h with rfl|rfl|rfl|rfl|rfl|rfl|rfl<;>exact⟨by decide+kernel,by decide+kernel⟩
theorem my:(Str.empty).length=0:=by decide+kernel
theorem ik{x:V}:[x].length≤sizeLine:=aF ZA
def gi(x y:Str)(p:Int):Bool:=sZ x&&sZ y&&!(x==y)&&inR 0 p 999999
inductive wI(C:Addr)(vs:List V)(H:Hp)(Q:VK)(E:XK):Prop
 |mk (x y:Str) (p:Int) (_:vs=[.str x, .str y, .int p]) (_:x.length≤100000) (_:y.length≤100000) (_:(if gi x y p=true then ∀H',ax H H'→Q .cR H' else ∀H',ax H H'→E (.ref C) none H')):wI C vs H Q E
abbrev Form:=Str×Str×Int
def EH(f:Form):List V:=[.str f.1, .str f.2.1, .int f.2.2]
def jk(f:Form):List Key:=[.inr f.1, .inr f.2.1]
def lL(f:Form):List Key×V:=(jk f, .int f.2.2)
def Bv(f:Form):Bool:=gi f.1 f.2.1 f.2.2
def cT(H:Hp)(xs:List V)(fs:List Form):Prop:=xs.length=fs.length∧∀(i:Nat)(f:Form),fs[i]?=some f→∃t,xs[i]?=some (V.ref t)∧H t=some (.tup (EH f))
def bb(fs:List Form):Bool:=decide (fs.length≤60)&&fs.all Bv&&decide ((fs.map jk).Nodup)
def Short(fs:List Form):Prop:=fs.length≤1000∧∀f∈fs,f.1.length≤100000∧f.2.1.length≤100000
theorem cT.same{H H':Hp}{xs:List V}{fs:List Form}(t:cT H xs fs)(s:ax H H'):cT H' xs fs:=⟨t.1,fun i f e=>let ⟨b,h1,h2⟩:=t.2 i f e;⟨b,h1,s _ _ h2⟩⟩
theorem cT.nil{H:Hp}:cT H [] []:=⟨rfl,fun i f e=>by simp at e⟩
inductive qp(C:Addr)(vs:List V)(H:Hp)(Q:VK)(E:XK):Prop
 |mk (a:Addr) (xs:List V) (fs:List Form) (_:vs=[.ref a]) (_:H a=some (.lst xs)) (_:cT H xs fs) (_:Short fs) (_:(if bb fs=true then ∀H' d,ax H H'→H d=none→H' d=some (.dT (fs.map lL))→Q (.ref d) H' else ∀H',ax H H'→E (.ref C) none H')):qp C vs H Q E
theorem Bw(fs:List Form):(fs.map lL).map (·.1)=fs.map jk:=by rw[List.map_map];rfl
theorem EI{fs:List Form}{i:Nat}{f:Form}(e:fs[i]?=some f)(h:Bv f=false):bb fs=false:=by
 have hm:f∈fs:=Z0 e;have:fs.all Bv=false:=by
  rw[Bool.eq_false_iff];intro z;rw[List.all_eq_true]at z;rw[z f hm]at h;cases h
 simp[bb,this]
theorem CD{fs:List Form}{i:Nat}{f:Form}(e:fs[i]?=some f)(h:jk f∈(fs.take i).map jk):bb fs=false:=by
 have:¬(fs.map jk).Nodup:=fun z=>by
  obtain⟨hi,e'⟩:=ZO e;have e2:fs=fs.take i++f::fs.drop (i+1):=by
   rw[←e',List.getElem_cons_drop,List.take_append_drop]
  rw[e2,List.map_append,List.map_cons,List.nodup_append]at z;exact z.2.2 _ h _ (List.mem_cons_self) rfl
 simp[bb,this]
theorem CH{fs:List Form}{i:Nat}{f:Form}(e:fs[i]?=some f):(fs.take (i+1)).map lL=(fs.take i).map lL++[lL f]:=by
 rw[List.take_succ,e,List.map_append];rfl
theorem N9{fs:List Form}{k:List Key}(h:bC (fs.map lL) k=none):k∉fs.map jk:=by
 have:=yE h;rwa[Bw]at this
theorem KU{fs:List Form}{k:List Key}{v:V}(h:bC (fs.map lL) k=some v):k∈fs.map jk:=by
 have:=Bk h;rwa[Bw]at this
structure EJ(K:W.Frag)(C:Addr):Prop where
 cl:wc K C
 same:b_ K C "same"
 out:b_ K C "out"
 into:b_ K C "into"
 least:b_ K C "least"
 part:b_ K C "part"
 near:b_ K C "near"
 EK:b_ K C "prices"
structure Nums where
 same:Int
 out:Int
 into:Int
 least:Int
 part:Int
def i7(n:Nums):Bool:=inR 1 n.same 999999&&inR 0 n.out 999999&&inR 0 n.into 999999&&inR 1 n.least 999999&&inR 1 n.part 100
def wJ(n:Nums)(l d:Addr):List (Str×V):=[("same", .int n.same),("out", .int n.out),("into", .int n.into),("least", .int n.least),("part", .int n.part),("near", .ref l),("prices", .ref d)]
def m6(n:Nums):List (Str×V):=[("same", .int n.same),("out", .int n.out),("into", .int n.into),("least", .int n.least),("part", .int n.part)]
def SameBut(x:Addr)(H H':Hp):Prop:=∀b u,b≠x→H b=some u→H' b=some u
structure kD(H:Hp)(C x:Addr)(n:Nums)(fs:List Form)(dx l d:Addr)(xs:List V):Prop where
 ob:H x=some (.ins C dx (wJ n l d))
 own:H dx=some (.own x)
 li:H l=some (.lst xs)
 tr:cT H xs fs
 di:H d=some (.dT (fs.map lL))
def N_(H:Hp)(v:V)(xs:List V)(fs:List Form):Prop:=(v= .cR∧xs=[]∧fs=[])∨∃a,v= .ref a∧H a=some (.lst xs)∧cT H xs fs
inductive su(C CT CN:Addr)(vs:List V)(H:Hp)(Q:VK)(E:XK):Prop
 |mk (x dx:Addr) (n:Nums) (nv:V) (xs:List V) (fs:List Form) (_:vs=[.ref x, .int n.same, .int n.out, .int n.into, .int n.least, .int n.part,nv]) (_:H x=some (.ins C dx [])) (_:H dx=some (.own x)) (_:N_ H nv xs fs) (_:Short fs) (_:(if i7 n=true then(if bb fs=true then ∀H' l d,SameBut x H H'→kD H' C x n fs dx l d xs→H l=none→H d=none→Q .cR H' else ∀H',SameBut x H H'→E (.ref CN) none H')else ∀H',SameBut x H H'→E (.ref CT) none H')):su C CT CN vs H Q E
theorem R3(n:Nums):bx "part" (.int n.part) (bx "least" (.int n.least) (bx "into" (.int n.into) (bx "out" (.int n.out) (bx "same" (.int n.same) []))))=m6 n:=by kernel_rfl
theorem R4(n:Nums)(l d:Addr):bx "prices" (.ref d) (bx "near" (.ref l) (m6 n))=wJ n l d:=by kernel_rfl
theorem Oa(n:Nums)(l:Addr):(bx "near" (.ref l) (m6 n)).lookup ("near":Str)=some (V.ref l):=by kernel_rfl
theorem SameBut.refl{x:Addr}{H:Hp}:SameBut x H H:=fun _ _ _ h=>h
theorem SameBut.upd{x:Addr}{H H':Hp}{o:HO}(s:SameBut x H H'):SameBut x H (upd H' x o):=fun b u n h=>by rw[aj n];exact s b u n h
theorem SameBut.same{x:Addr}{H H' H2:Hp}(s:SameBut x H H')(t:ax H' H2):SameBut x H H2:=fun b u n h=>t b u (s b u n h)
theorem SameBut.laid{x a:Addr}{H H':Hp}{o:HO}(s:SameBut x H H')(h:H a=none):SameBut x H (L2.upd H' a o):=fun b u n e=>by rw[aj (aE e h)];exact s b u n e
theorem SameBut.free{x l:Addr}{H H':Hp}{o:HO}(s:SameBut x H H')(hx:H' x=some o)(h:H' l=none):H l=none:=by
 cases e:H l with
 |none=>rfl
 |some u=>
  have n:l≠x:=fun z=>by rw[z,hx]at h;cases h
  rw[s l u n e]at h;cases h
theorem cT.but{x:Addr}{H H':Hp}{xs:List V}{fs:List Form}{C dx:Addr}{gs:List (Str×V)}(t:cT H xs fs)(s:SameBut x H H')(hx:H x=some (.ins C dx gs)):cT H' xs fs:=
 ⟨t.1,fun i f e=>let ⟨b,h1,h2⟩:=t.2 i f e;⟨b,h1,s _ _ (fun z=>by rw[z,hx]at h2;cases h2) h2⟩⟩
def fl(j:Nat):List V:=[.bl (decide (0=j)), .bl (decide (1=j)), .bl (decide (2=j)), .bl (decide (3=j)), .bl (decide (4=j)), .bl (decide (5=j)), .bl (decide (6=j)), .bl (decide (7=j)), .bl (decide (8=j)), .bl (decide (9=j)), .bl (decide (10=j)), .bl (decide (11=j)), .bl (decide (12=j)), .bl (decide (13=j))]
def kinds:List Str:=["word","book","terms","near","way","name","year","taken","full","many","no book","no finding","left","search","another"]
def kindOf(j:Nat):Str:=kinds.getD j ""
theorem int_at(is:List Int){i:Int}(h0:0≤i)(h:i<(is.length:Int)):∃m,m∈is∧rO (is.map V.int) i=some (.int m):=by
 obtain⟨j,rfl⟩:=Int.eq_ofNat_of_zero_le h0;have hj:j<is.length:=by lia
 exact⟨is[j],List.getElem_mem hj,au (by simp[hj])⟩
theorem EL(n:Nums)(l d:Addr):(wJ n l d).lookup ("same":Str)=some (V.int n.same):=by kernel_rfl
theorem l_out(n:Nums)(l d:Addr):(wJ n l d).lookup ("out":Str)=some (V.int n.out):=by kernel_rfl
theorem KW(n:Nums)(l d:Addr):(wJ n l d).lookup ("into":Str)=some (V.int n.into):=by kernel_rfl
theorem Hn(n:Nums)(l d:Addr):(wJ n l d).lookup ("least":Str)=some (V.int n.least):=by kernel_rfl
theorem EM(n:Nums)(l d:Addr):(wJ n l d).lookup ("prices":Str)=some (V.ref d):=by kernel_rfl
theorem wK(n:Nums)(l d:Addr):(wJ n l d).lookup ("pair_worth":Str)=none:=by kernel_rfl
end QF
namespace L2
open PySem PySem.Spec PyProof.Rows PySem.W PySem.Calls
section
variable{X:Cx}
inductive Ob(K:Frag)(x:V)(y:V)(H:Hp)(Q:VK):Prop
 |mk (p:_) (q:_) (xs:_) (_:x= .ref p) (_:y= .ref q) (_:iD K H p xs) (_:iD K H q []) (_:Q (.bl (!xs.isEmpty)) H):Ob K x y H Q
theorem tf(K:Frag)(hu:X.A.units<cLine)(hK:X.K=K:=by rfl):rN X (compareOp .NotEq) (Ob K):=by
 subst hK;intro pins s σ H x y v u Q I rx ry h;obtain⟨p,q,xs,rfl,rfl,hp,hq,k⟩:=h;cases rx;cases ry;obtain⟨its,r,pl,hz⟩:=I.list hp;obtain⟨eJ,r2,Ho,Mt⟩:=I.list hq;cases r2;obtain⟨⟨cls,dd,data,sl⟩,ho,hc,n,hd⟩:=id pl.isList;obtain⟨⟨KY,EN,data2,yc⟩,yd,qm,n2,hd2⟩:=id Ho.isList;simp only at hc hd qm hd2;subst hc hd qm hd2;by_cases e:its=[]
 ·subst e;cases r;refine richCompare_meets_room (op:= .NotEq) ⟨_,ho,rfl⟩ ⟨_,yd,rfl⟩ F.slot_list_ne F.entry_list_ne (F.args_list_ne_2 _ _) (SeqAt.list_neAt p q #[] #[] n n2 dd EN sl yc rfl (fun _=>true)) ⟨ho,yd,fun j h1 _=>absurd h1 ZA,?_⟩ hu;exact⟨(fun x=>nomatch x), .bl false,H,I,rfl,k⟩
 ·have hx:xs≠[]:=fun z=>by subst z;cases r;exact e rfl
  have hsz:(its.toArray.size !=(#[]:Array Value).size)=true:=by simpa using e
  refine richCompare_meets_room (op:= .NotEq) ⟨_,ho,rfl⟩ ⟨_,yd,rfl⟩ F.slot_list_ne F.entry_list_ne (F.args_list_ne_2 _ _) (SeqAt.list_ne_lengthsAt p q its.toArray #[] n n2 dd EN sl yc hsz) ⟨ho,yd,?_⟩ hu;have:(!xs.isEmpty)=true:=by simpa using hx
  rw[this]at k;exact⟨(fun x=>nomatch x), .bl true,H,I,rfl,k⟩
end
end L2
namespace QF
open PySem L2
theorem US{α:Type}{xs:List α}{i:Nat}{v:α}(h:xs[i]?=some v):rO xs (0+(i:Int))=some v:=by
 rw[Int.zero_add];exact au h
def cJ(fs:List Form)(x y:Str):Option Int:=(fs.find? fun f=>decide (f.1=x∧f.2.1=y)).map (·.2.2)
def cK(same:Int)(fs:List Form)(x y:Str):Option Int:=if x=y then some same else(cJ fs x y).map (same-·)
def bG:Option Int→V
 |none=> .cR
 |some i=> .int i
theorem wL(f:Form)(x y:Str):jk f=[.inr x, .inr y]↔f.1=x∧f.2.1=y:=by simp[jk]
theorem vI(x y:Str):∀fs:List Form,bC (fs.map lL) [.inr x, .inr y]=(cJ fs x y).map V.int
 |[]=>rfl
 |f::r=>by
  rw[List.map_cons];by_cases h:jk f=[.inr x, .inr y]
  ·have h':=(wL f x y).mp h;rw[cH (show(lL f).1=_ from h)];simp[cJ,List.find?_cons,h'.1,h'.2,lL]
  ·have h':¬(f.1=x∧f.2.1=y):=fun z=>h ((wL f x y).mpr z)
   rw[cB (show ¬(lL f).1=_ from h),vI x y r];simp[cJ,List.find?_cons,h']
inductive wM(C:Addr)(vs:List V)(H:Hp)(Q:VK)(u3:XK):Prop
 |mk (t:Addr) (x y:Str) (n:Nums) (fs:List Form) (dx l d:Addr) (xs:List V) (_:vs=[.ref t, .str x, .str y]) (_:kD H C t n fs dx l d xs) (_:∀H',ax H H'→Q (bG (cK n.same fs x y)) H'):wM C vs H Q u3
abbrev Oc:Str:=Str.ofString "abcdefghijklmnopqrstuvwxyz"
theorem Hq:Oc.length=26:=by decide+kernel
theorem Af(zs:List Str){i:Int}(h0:0≤i)(h:i<(zs.length:Int)):∃m,m∈zs∧rO (zs.map V.str) i=some (.str m):=by
 obtain⟨j,rfl⟩:=Int.eq_ofNat_of_zero_le h0;have hj:j<zs.length:=by lia
 exact⟨zs[j],List.getElem_mem hj,au (by simp[hj])⟩
theorem oO(x y:Str):(x++y).cps.toList=x.cps.toList++y.cps.toList:=by
 show(x.cps++y.cps).toList=_;simp
def cU(H H':Hp):Prop:=∀t v,H t=some (.tup v)→H' t=some (.tup v)
theorem cU.same{H H':Hp}(s:ax H H'):cU H H':=fun t v h=>s _ _ h
theorem cU.lst{H:Hp}{l:Addr}{xs:List V}{o:HO}(h:H l=some (.lst xs)):cU H (upd H l o):=fun t v e=>by
 rw[aj (iY e h (by intro z;cases z))];exact e
theorem cT.cz{H H':Hp}{xs:List V}{fs:List Form}(T:cT H xs fs)(k:cU H H'):cT H' xs fs:=⟨T.1,fun i f e=>let ⟨b,h1,h2⟩:=T.2 i f e;⟨b,h1,k _ _ h2⟩⟩
theorem cT.snoc{H:Hp}{xs:List V}{fs:List Form}{t:Addr}{f:Form}(T:cT H xs fs)(ht:H t=some (.tup (EH f))):cT H (xs++[.ref t]) (fs++[f]):=by
 refine⟨by simp[T.1],fun i g e=>?_⟩;by_cases h:i<fs.length
 ·rw[Υ h]at e;obtain⟨b,h1,h2⟩:=T.2 i g e;exact⟨b,by rw[Υ (by rw[T.1];exact h)];exact h1,h2⟩
 ·have hi:i=fs.length:=by
   have:=(ZO e).1;simp at this
   lia
  subst hi;have hg:f=g:=by simpa using e
  subst hg;exact⟨t,by rw[←T.1];simp,ht⟩
theorem wN{n j:Nat}(h:j<n):El n (j:Int)=some j:=by
 unfold El;rw[Z7 UQ,Z7 UQ];simp
theorem Hr:Oc.cps.toList=(Ι 26).map (97+·):=by decide+kernel
theorem EO{r:Int}:rO Oc.cps.toList (r%26)=some (97+(r%26).toNat):=by
 have h0:0≤r%26:=by lia
 have h1:r%26<26:=by lia
 generalize r%26=m at h0 h1;obtain⟨j,rfl⟩:=Int.eq_ofNat_of_zero_le h0;refine au ?_;have hj:j<26:=by lia
 rw[Hr];simp[hj]
theorem Bx(r:Int):low (97+(r%26).toNat)=true:=by
 have h1:(r%26).toNat≤25:=by lia
 simp[low]
 lia
def lows(z:Str):Prop:=z.cps.toList.all low=true
def ka(bT:Str)(cell other:Int)(k:Nat):Str:=
 let size:=1+cell/2%12
 if cell%2=1 then Txt.slice bT none (some (1+(size+k)%12))
 else Txt.slice bT none (some (other%size))++⟨#[97+((other/12+k)%26).toNat]⟩++Txt.slice bT (some (other%size+1)) (some size)
theorem wO{n d:Nat}{v:Int}(h0:0≤v)(h:v≤n):HT.kz n d (some v)=v.toNat:=by
 simp only[HT.kz];split<;>lia
theorem lM{z:Str}{v:Int}(h0:0≤v)(h:v≤z.length):(Txt.slice z none (some v)).cps.toList=z.cps.toList.take v.toNat:=by
 rw[vF,wO h0 h,HT.Ej];simp
theorem ER{z:Str}{u v:Int}(h0:0≤u)(h1:u≤v)(h:v≤z.length):(Txt.slice z (some u) (some v)).cps.toList=(z.cps.toList.drop u.toNat).take (v.toNat-u.toNat):=by
 rw[vF,wO h0 UQ,wO UQ h]
theorem len_list(z:Str):z.cps.toList.length=z.length:=by simp[Str.length]
theorem ES{z:Str}(h1:1≤z.length)(h2:z.length≤12)(h:lows z):sZ z=true:=by
 have h:z.cps.toList.all low=true:=h;simp[sZ,h1,h2,h]
theorem ET{bT:Str}(hl:bT.length=12)(hs:lows bT)(cell other:Int)(k:Nat):sZ (ka bT cell other k)=true:=by
 have m7:=List.all_eq_true.mp hs;have Mu:=len_list bT;have z0:1≤1+cell/2%12∧1+cell/2%12≤12:=by lia
 unfold ka;simp only;generalize 1+cell/2%12=size at z0;split
 ·have z1:1≤1+(size+(k:Int))%12∧1+(size+(k:Int))%12≤12:=by lia
  generalize 1+(size+(k:Int))%12=m at z1;have e:=lM (z:=bT) (v:=m) (by lia) (by lia);have el:(Txt.slice bT none (some m)).length=m.toNat:=by rw[←len_list,e,List.length_take,Mu];lia
  refine ES UQ (by lia) ?_;unfold lows;rw[e,List.all_eq_true];exact fun c hc=>m7 c (List.mem_of_mem_take hc)
 ·have z1:0≤other%size∧other%size<size:=⟨Int.emod_nonneg _ (by lia),Int.emod_lt_of_pos _ (by lia)⟩
  generalize other%size=jl at z1;have e1:=lM (z:=bT) (v:=jl) (by lia) (by lia);have e2:=ER (z:=bT) (u:=jl+1) (v:=size) (by lia) (by lia) (by lia);have l1:(Txt.slice bT none (some jl)).length=jl.toNat:=by rw[←len_list,e1,List.length_take,Mu];lia
  have l2:(Txt.slice bT (some (jl+1)) (some size)).length=size.toNat-(jl+1).toNat:=by rw[←len_list,e2,List.length_take,List.length_drop,Mu];lia
  have el:(Txt.slice bT none (some jl)++(⟨#[97+((other/12+(k:Int))%26).toNat]⟩:Str)++Txt.slice bT (some (jl+1)) (some size)).length=size.toNat:=by
   rw[len_app,len_app,l1,l2];show jl.toNat+1+_=_
   lia
  refine ES UQ (by lia) ?_;unfold lows;rw[oO,oO,e1,e2,List.all_append,List.all_append];have a1:(bT.cps.toList.take jl.toNat).all low=true:=List.all_eq_true.mpr fun c hc=>m7 c (List.mem_of_mem_take hc)
  have a2:((bT.cps.toList.drop (jl+1).toNat).take (size.toNat-(jl+1).toNat)).all low=true:=List.all_eq_true.mpr fun c hc=>m7 c (List.mem_of_mem_drop (List.mem_of_mem_take hc))
  have a3:=Bx (other/12+(k:Int));rw[a1,a2];simp[a3]
theorem KZ{A B:List Nat}{c:Nat}:(A++[c]++B)[A.length]?=some c:=ZF
theorem EU{bT:Str}(hl:bT.length=12)(cell other:Int){k k':Nat}(hk:k<12)(EV:k'<12)(e:ka bT cell other k=ka bT cell other k'):k=k':=by
 have Mu:=len_list bT;have z0:1≤1+cell/2%12∧1+cell/2%12≤12:=by lia
 unfold ka at e;simp only at e;generalize 1+cell/2%12=size at z0 e;split at e
 ·have e:=congrArg (fun z:Str=>z.cps.toList.length) e;rw[lM UQ (by lia),lM UQ (by lia),List.length_take,List.length_take,Mu,hl]at e
  lia
 ·have z1:0≤other%size∧other%size<size:=⟨Int.emod_nonneg _ (by lia),Int.emod_lt_of_pos _ (by lia)⟩
  generalize other%size=jl at z1 e;have e1:=lM (z:=bT) (v:=jl) (by lia) (by lia);have l1:(bT.cps.toList.take jl.toNat).length=jl.toNat:=by rw[List.length_take,Mu];lia
  have at_:∀c:Nat,(Txt.slice bT none (some jl)++(⟨#[c]⟩:Str)++Txt.slice bT (some (jl+1)) (some size)).cps.toList[jl.toNat]?=some c:=fun c=>by
   rw[oO,oO,e1];have:=KZ (A:=bT.cps.toList.take jl.toNat) (B:=(Txt.slice bT (some (jl+1)) (some size)).cps.toList) (c:=c);rw[l1]at this;exact this
  have e:=congrArg (fun z:Str=>z.cps.toList[jl.toNat]?) e;have e2:=(at_ _).symm.trans (e.trans (at_ _));have e3:=Z' e2
  lia
theorem Ag{bT:Str}(hl:bT.length=12)(cell other:Int){n:Nat}(hn:n≤12):((Ι n).map (ka bT cell other)).Nodup:=by
 refine List.pairwise_map.mpr ?_;refine List.Pairwise.imp_of_mem (R:=fun a b=>a≠b) (fun{a b} ha hb h e=>h ?_) List.nodup_range;exact EU hl cell other (by have:=List.mem_range.mp ha;lia) (by have:=List.mem_range.mp hb;lia) e
inductive wQ(vs:List V)(H:Hp)(Q:VK)(u3:XK):Prop
 |mk (cell other many:Int) (_:vs=[.int cell, .int other, .int many]) (_:0≤many) (_:many≤12) (_:∀H' b (zs:List Str),ax H H'→H b=none→H' b=some (.lst (zs.map V.str))→zs.length=many.toNat→(∀z∈zs,sZ z=true)→zs.Nodup→Q (.ref b) H'):wQ vs H Q u3
structure dh(zs:List Str)(i j:Nat)(fs:List Form):Prop where
 ok:∀f∈fs,Bv f=true
 nd:(fs.map jk).Nodup
 old:∀f∈fs,∃i' j',(i'<i∨(i'=i∧j'<j))∧zs[i']?=some f.1∧zs[j']?=some f.2.1
 vB:fs.length+(if i<j then 1 else 0)≤i*(zs.length-1)+j
theorem dh.nil{zs:List Str}:dh zs 0 0 []:=⟨ZF,ZF,ZF,ZF⟩
theorem dh.skip{zs:List Str}{i j:Nat}{fs:List Form}(p:dh zs i j fs):dh zs i (j+1) fs:=by
 refine⟨p.ok,p.nd,fun f hf=>?_,?_⟩
 ·obtain⟨i',j',h,r⟩:=p.old f hf;exact⟨i',j',by lia,r⟩
 ·have:=p.vB;split<;>split at this<;>lia
theorem yH{zs:List Str}(hn:zs.Nodup){i j:Nat}{x:Str}(h1:zs[i]?=some x)(h2:zs[j]?=some x):i=j:=by
 obtain⟨a1,b1⟩:=ZO h1;obtain⟨a2,b2⟩:=ZO h2;exact(List.getElem_inj hn).mp (b1.trans b2.symm)
theorem dh.add{zs:List Str}{i j:Nat}{fs:List Form}(p:dh zs i j fs)(hn:zs.Nodup)(hw:∀z∈zs,sZ z=true){x y:Str}(hx:zs[i]?=some x)(hy:zs[j]?=some y)(eX:¬x=y){pr:Int}(h0:0≤pr)(h1:pr≤999999):
  dh zs i (j+1) (fs++[(x,y,pr)]):=by
 have uy:i≠j:=fun e=>eX (by subst e;rw[hx]at hy;exact Z' hy)
 refine⟨fun f hf=>?_,?_,fun f hf=>?_,?_⟩
 ·rcases List.mem_append.mp hf with h|h
  ·exact p.ok f h
  ·have h:f=(x,y,pr):=by simpa using h
   rw[h];have a1:=hw x (Z0 hx);have a2:=hw y (Z0 hy);simp[Bv,gi,a1,a2,eX,inR,h0,h1]
 ·rw[List.map_append];refine List.nodup_append.mpr ⟨p.nd,ZF,fun a ha b hb e=>?_⟩;have hb:b=jk (x,y,pr):=by simpa using hb
  rw[e,hb]at ha;obtain⟨f,hf,ef⟩:=List.mem_map.mp ha;obtain⟨e1,e2⟩:=(wL f x y).mp ef;obtain⟨i',j',h,r1,r2⟩:=p.old f hf;rw[e1]at r1;rw[e2]at r2;have:=yH hn r1 hx;have:=yH hn r2 hy
  lia
 ·rcases List.mem_append.mp hf with h|h
  ·obtain⟨i',j',h,r⟩:=p.old f h;exact⟨i',j',by lia,r⟩
  ·have h:f=(x,y,pr):=by simpa using h
   rw[h];exact⟨i,j,by lia,hx,hy⟩
 ·have:=p.vB;rw[List.length_append];show fs.length+1+_≤_;split<;>split at this<;>lia
theorem dh.row{zs:List Str}{i:Nat}{fs:List Form}(p:dh zs i zs.length fs)(hi:i<zs.length):dh zs (i+1) 0 fs:=by
 refine⟨p.ok,p.nd,fun f hf=>?_,?_⟩
 ·obtain⟨i',j',h,r⟩:=p.old f hf;exact⟨i',j',by lia,r⟩
 ·have h:=p.vB;rw[Z7 hi]at h;rw[Z5 UQ,Nat.succ_mul]
  lia
theorem dh.good{zs:List Str}{fs:List Form}(p:dh zs zs.length 0 fs)(h:zs.length≤8):bb fs=true:=by
 have h1:=p.vB;have h2:zs.length*(zs.length-1)≤8*7:=Nat.mul_le_mul h UQ;rw[Z5 UQ]at h1;have h3:fs.length≤60:=by lia
 have h4:fs.all Bv=true:=List.all_eq_true.mpr p.ok;simp[bb,h3,h4,p.nd]
theorem Ah{fs:List Form}(h:bb fs=true):Short fs:=by
 simp only[bb,Bool.and_eq_true,decide_eq_true_eq,List.all_eq_true]at h;refine⟨by lia,fun f hf=>?_⟩;have h1:=h.1.2 f hf;simp only[Bv,gi,sZ,Bool.and_eq_true,decide_eq_true_eq]at h1
 lia
inductive wR(vs:List V)(H:Hp)(Q:VK)(u3:XK):Prop
 |mk (cell same:Int) (b:Addr) (zs:List Str) (_:vs=[.int cell, .ref b, .int same]) (_:H b=some (.lst (zs.map V.str))) (_:zs.length≤8) (_:(∀z∈zs,sZ z=true)) (_:zs.Nodup) (_:1≤same) (_:same≤999999) (_:∀H' l xs fs,ax H H'→H l=none→H' l=some (.lst xs)→cT H' xs fs→bb fs=true→Q (.ref l) H'):wR vs H Q u3
inductive tq(vs:List V)(H:Hp)(Q:VK)(u3:XK):Prop
 |mk (x y:Str) (same:Int) (l:Addr) (xs:List V) (fs:List Form) (_:vs=[.str x, .str y, .int same, .ref l]) (_:H l=some (.lst xs)) (_:cT H xs fs) (_:Q (bG (cK same fs x y)) H):tq vs H Q u3
theorem mz{zs:List Str}{i:Nat}{v:V}(h:(zs.map V.str)[i]?=some v):∃x,zs[i]?=some x∧v= .str x:=by
 rw[List.getElem?_map]at h;cases e:zs[i]? with
 |none=>rw[e]at h;cases h
 |some x=>rw[e]at h;exact⟨x,rfl,(Z' h).symm⟩
theorem EW{fs:List Form}{x y:Str}(h:∀f∈fs,¬(f.1=x∧f.2.1=y)):cJ fs x y=none:=by
 have:fs.find? (fun f=>decide (f.1=x∧f.2.1=y))=none:=by
  rw[List.find?_eq_none];intro f hf;simpa using h f hf
 unfold cJ;rw[this];rfl
theorem rA:∀{fs:List Form}{i:Nat}{x y x0 y0:Str}{p:Int},fs[i]?=some (x0,y0,p)→(∀f∈fs.take i,¬(f.1=x∧f.2.1=y))→(x0=x∧y0=y)→cJ fs x y=some p
 |f::r,0,x,y,x0,y0,p,h,_,e=>by
  have h:f=(x0,y0,p):=by simpa using h
  rw[h];simp[cJ,List.find?_cons,e.1,e.2]
 |f::r,i+1,x,y,x0,y0,p,h,hn,e=>by
  have h1:¬(f.1=x∧f.2.1=y):=hn f ZA;have:=rA (fs:=r) (i:=i) (x:=x) (y:=y) (by simpa using h) (fun g hg=>hn g (by simp[hg])) e;simpa[cJ,List.find?_cons,h1]using this
def sw(f:Form):Form:=(f.2.1,f.1,f.2.2)
inductive nF(K:W.Frag)(vs:List V)(H:Hp)(Q:VK)(u3:XK):Prop
 |mk (a:Addr) (ns:List Int) (k:Int) (_:vs=[.ref a, .int k]) (_:iD K H a (ns.map V.int)) (_:0≤k) (_:∀H' D (s o i l:Int),ax H H'→H D=none→H' D=some (.lst [.int s, .int o, .int i, .int l])→(1≤s∧s≤999999)→(0≤o∧o≤999999)→(0≤i∧i≤999999)→(1≤l∧l≤999999)→Q (.ref D) H'):nF K vs H Q u3
theorem kD.same{H H':Hp}{C x:Addr}{n:Nums}{fs:List Form}{dx l d:Addr}{xs:List V}(T:kD H C x n fs dx l d xs)(s:ax H H'):kD H' C x n fs dx l d xs:=⟨s _ _ T.ob,s _ _ T.own,s _ _ T.li,T.tr.same s,s _ _ T.di⟩
theorem By{is:List Int}(h:is.length=4):∃a b c d,is=[a,b,c,d]:=by
 match is,h with
 |[a,b,c,d],_=>exact⟨a,b,c,d,rfl⟩
theorem SameBut.Ai{x dx C:Addr}{H H':Hp}(hx:H x=none)(EX:H dx=none)(s:SameBut x (L2.upd (L2.upd H dx (.own x)) x (.ins C dx [])) H'):ax H H':=fun b u e=>by
 have n1:b≠x:=aE e hx;have n2:b≠dx:=aE e EX;exact s b u n1 (by rw[aj n1,aj n2];exact e)
end QF
namespace L2
open PySem PySem.Spec PyProof.Rows PySem.W PySem.Calls
section
variable{X:Cx}{pins:List (Addr×Obj)}{σ:St}{H:Hp}{s:Shared}{h':Heap}
theorem Inv.Hs{t':Nat}{fp:List Addr}(I:Inv X pins σ H s)(hf:∀b∈fp,iz X pins H b)(k:∀b o,b∉fp→s.heap.get? b=some o→h'.get? b=some o):Inv X pins σ H {s with heap:=h',toks:=t'}:=by
 have IJ:∀b u,H b=some u→b∉fp:=fun b u e z=>by rw[(hf b z).1]at e;cases e
 refine I.step (g':=s.gens) (d':=s.drawn) (ch:=fp) (fun b hb=>?_) (fun b o _ _ hc e _=>k b o hc e) (fun b o _ _ hc e _=>⟨o.slots,k b o hc e⟩) (fun _ _ _ _ n=>n)
  (fun b o hc e=>⟨o,k b o hc e⟩) (fun _ _ e=>e) (fun _ _ _ e=>e) (fun b ps e=>⟨#[],by rw[e];simp⟩) (fun m hm=>?_) (fun b u e=>?_) I.bare
 ·obtain⟨_,f1,_,f3,f4,f5⟩:=hf b hb;exact⟨f3,f1,f4,f5⟩
 ·obtain⟨o,es,ep,ho,r⟩:=hm;exact⟨o,es,ep,k _ o (fun z=>(hf _ z).2.1 rfl) ho,r⟩
 ·refine(I.bY b u e).v7 (fun c v hc q=>k c v ?_ q) (fun _ q=>q) fun _ _ q=>q
  rcases hc with z|z
  ·rw[z];exact IJ b u e
  ·exact IJ c _ z
theorem Inv.Bz{t':Nat}{fp:List Addr}{T:Addr}{u:HO}(I:Inv X pins σ H s)(hf:∀b∈fp,iz X pins H b)(hT:iz X pins H T)(k:∀b o,b∉fp→s.heap.get? b=some o→h'.get? b=some o)
  (new:cS X.prog X.w (upd H T u) h' T u):Inv X pins σ (upd H T u) {s with heap:=h',toks:=t'}:=by
 have IJ:∀b u,H b=some u→b∉fp:=fun b u e z=>by rw[(hf b z).1]at e;cases e
 have nT:∀b v,H b=some v→b≠T:=fun b v e z=>by rw[z,hT.1]at e;cases e
 refine I.step (g':=s.gens) (d':=s.drawn) (ch:=T::fp) (fun b hb=>?_) (fun b o _ _ hc e _=>k b o (fun z=>hc (ε z)) e) (fun b o _ _ hc e _=>⟨o.slots,k b o (fun z=>hc (ε z)) e⟩) (fun b _ hc _ n=>?_)
  (fun b o hc e=>⟨o,k b o (fun z=>hc (ε z)) e⟩) (fun b xs e=>by rw[aj (nT b _ e)];exact e) (fun b o v e=>by rw[aj (nT b _ e)];exact e) (fun b ps e=>⟨#[],by rw[aj (nT b _ e),e];simp⟩) (fun m hm=>?_) (fun b v e=>?_) I.bare
 ·rcases List.mem_cons.mp hb with z|z
  ·subst z;obtain⟨_,f1,_,f3,f4,f5⟩:=hT;exact⟨f3,f1,f4,f5⟩
  ·obtain⟨_,f1,_,f3,f4,f5⟩:=hf b z;exact⟨f3,f1,f4,f5⟩
 ·rw[aj (fun z=>hc (by simp[z]))];exact n
 ·obtain⟨o,es,ep,ho,r⟩:=hm;exact⟨o,es,ep,k _ o (fun z=>(hf _ z).2.1 rfl) ho,r⟩
 ·by_cases hb:b=T
  ·subst hb;rw[ae]at e;cases e;exact new
  ·rw[aj hb]at e;refine(I.bY b v e).v7 (fun c v' hc q=>k c v' ?_ q) (fun c q=>by rw[aj (nT c _ q)];exact q) fun c xs q=>by rw[aj (nT c _ q)];exact q
   rcases hc with z|z
   ·rw[z];exact IJ b v e
   ·exact IJ c _ z
theorem Inv.swap{d:Addr}{u u':HO}(I:Inv X pins σ H s)(e:H d=some u)(ht:∀xs,u≠ .tup xs)(ho:∀x,u≠ .own x)(hb:∀ps,u≠ .GH ps)(hf:∀o v,X.eY d≠some (.so o v))(new:cS X.prog X.w (upd H d u') s.heap d u'):Inv X pins σ (upd H d u') s:=by
 have nd:∀b,H b=none→b≠d:=fun b n z=>by rw[z,e]at n;cases n
 have nt:∀b xs,H b=some (.tup xs)→b≠d:=fun b xs q z=>by rw[z,e]at q;cases q;exact ht xs rfl
 have no:∀b x,H b=some (.own x)→b≠d:=fun b xs q z=>by rw[z,e]at q;cases q;exact ho xs rfl
 refine⟨I.ok,I.os,I.bare,⟨I.base.keep,I.base.slot,fun b o q n hx=>?_,I.base.there,fun b xs q=>?_,fun b o v q=>?_,fun b ps q=>?_⟩,I.loc,I.cell,?_,fun x c q=>?_,fun p hp=>?_,fun b v q=>?_,I.len⟩
 ·have z:=I.base.free b o q n hx;rw[aj (nd b z)];exact z
 ·have z:=I.base.cz b xs q;rw[aj (nt b xs z)];exact z
 ·have z:=I.base.om b o v q;rw[aj (fun y=>by subst y;exact hf o v q)];exact z
 ·obtain⟨m,z⟩:=I.base.rM b ps q;exact⟨m,by rw[aj (fun y=>by rw[y,e]at z;cases z;exact hb _ rfl)];exact z⟩
 ·rw[aj (nd _ I.free)];exact I.free
 ·rw[aj (nd _ (I.mZ x c q))];exact I.mZ x c q
 ·obtain⟨p1,p2,p3⟩:=I.pin p hp;exact⟨p1,by rw[aj (nd _ p2)];exact p2,p3⟩
 ·by_cases UT:b=d
  ·subst UT;rw[ae]at q;cases q;exact new
  ·rw[aj UT]at q;exact(I.bY b v q).v7 (fun c v' _ z=>z) (fun c z=>by rw[aj (no c _ z)];exact z) fun c xs z=>by rw[aj (nt c _ z)];exact z
end
def Mv(K:Frag)(a:Addr):It:=
 ⟨fun i H=>∃xs x,iD K H a xs∧xs[i]?=some x,fun i H x H'=>∃T y,x= .ref T∧H T=none∧H'=upd H T (.tup [.int i,y])∧∀xs,iD K H a xs→xs[i]?=some y,fun i H=>∃xs,iD K H a xs∧xs.length≤i⟩
theorem CI{P:Program}{w:World}{K:Frag}{elts:List Expr}{n:Nat}{pos:Pos}(a e it:Addr)(eX:e≠it):
  Turn P w K (.Tuple elts n pos) (Mv K a) [e,it] e (fun i h=>(∃old,IsEnum h e it (i:Nat) old)∧h.IsListIter it a i) where
 mem:=ZF
 obj:=fun i h st b hb=>by
  obtain⟨⟨old,s1⟩,o,s2,_,s3⟩:=st;rcases List.mem_cons.mp hb with z|z
  ·subst z;exact⟨_,s1,fun v z=>by
    have z':Data.fields _=Data.cell v:=z;cases z'⟩
  ·have e:b=it:=by simpa using z
   subst e;exact⟨o,s2,fun v z=>by rw[s3]at z;cases z⟩
 keep:=fun i h h' st k=>⟨⟨st.1.choose,k e ZA _ st.1.choose_spec⟩,st.2.at fun o q=>k it (ZF) o q⟩
 item:=by
  intro X hP hw hK hc i pins s σ H E I hf st hg;subst hP hw hK;obtain⟨xs,x,hq,hx⟩:=hg;obtain⟨⟨old,s1⟩,s2⟩:=st;obtain⟨its,rv,p,hz⟩:=I.list hq;obtain⟨u,hu,ru⟩:=rv.get hx;refine wpAny_pyNext_enum_item s1 s2 p.isList (x:=u) (by simpa using hu) eX fun h' o1 o2 o3 o4 o5=>?_
  refine⟨_,rfl,wpAny_letOwnedTupleGo_enum (s:={s with heap:=h',toks:=s.toks+1}) o1 fun h2 q1 q2=>?_⟩;have wC:h2.get? s.heap.objs.size=some {cls:=Value.type "tuple",data:=Data.seq #[Value.int (↑i) s.toks,u]}:=by
   exact(q2.2 _ (Nat.ne_of_gt (Κ s1))).trans o3
  have hT:iz X pins H s.heap.objs.size:=I.uC Λ (I.bY.fresh Λ);have I1:Inv X pins σ (upd H s.heap.objs.size (.tup [.int i,x])) {s with heap:=h2,toks:=s.toks+1}:=by
   refine I.Bz hf hT (fun b o hb q=>?_) ⟨by simp[sizeLine],[Value.int (↑i) s.toks,u], .cons ⟨_,rfl⟩ (.cons ru .nil),?_⟩
   ·have b1:b≠e:=fun z=>hb (by simp[z])
    have b2:b≠it:=fun z=>hb (by simp[z])
    exact(q2.2 b b1).trans (o5 b o b1 b2 q)
   ·exact⟨_,wC,rfl,_,rfl⟩
  refine⟨.ref s.heap.objs.size,_,I1,rfl,⟨_,x,rfl,hT.1,rfl,fun ys hy=>by rw[I.yr hy hq];exact hx⟩,⟨⟨u,by simpa using q1⟩,o2.at fun o q=>(q2.2 it (Ne.symm eX)).trans q⟩,fun b hb=>?_⟩;rw[aj (fun z=>?_)]
  ·exact(hf b hb).1
  ·have h1:=Heap.lt_size s1;obtain⟨_,h2,_⟩:=s2;have h3:=Κ h2;rcases List.mem_cons.mp hb with y|y
   ·rw[z.symm.trans y]at h1;exact Zn h1 (Nat.lt_irrefl _)
   ·have:b=it:=by simpa using y
    rw[z.symm.trans this]at h3;exact Zn h3 (Nat.lt_irrefl _)
 done:=by
  intro X hP hw hK hc i pins s σ H E I hf st hg;subst hP hw hK;obtain⟨xs,hq,hx⟩:=hg;obtain⟨⟨old,s1⟩,s2⟩:=st;obtain⟨its,rv,p,hz⟩:=I.list hq;have hl:=rv.length;exact wpAny_pyNext_enum_end (I.ok.hd hc) s1 s2 p.isList (by simp;lia) fun h' eb=>⟨rfl,I.Hs (t':=s.toks) hf (fun b o hb q=>eb b o (fun z=>hb (by simp[z])) q)⟩
 self:=fun _ _ _ _ _ st h=>wpAny_pyIter_enum st.1.choose_spec h
section
variable{X:Cx}{tg:Expr}
def Ji(K:Frag)(ta:TA):TI:=fun σ H R=>ta σ H fun vs H1=>∃a,vs=[.ref a]∧(∃xs,iD K H1 a xs)∧R (Mv K a) H1
theorem Ht{elts:List Expr}{n:Nat}{tp:Pos}{a:Expr}{ta:TA}{p pos:Pos}(hg:Gl X "enumerate")(hm:X.mg "enumerate"=none)(ha:PA X [a] ta)(hs:starEach [a] X.env=[(false,eval a X.env)]:=by rfl):
  PI X (.Tuple elts n tp) (.Call (.Name "enumerate" p) [a] [] pos) (Ji X.K ta):=by
 intro pins s σ H R I h;refine Call_ (lF I hg hm boot_enumerate (PyProof.Rows.callWith_type1 (cI (ha pos pins s σ H _ I h) fun us s1 ⟨vs,H1,I1,r1,q1⟩=>?_) hs rfl));obtain⟨l,e,⟨xs,hq⟩,q⟩:=q1;subst e;cases r1 with
 |cons r rr=>
  cases rr;cases r;obtain⟨its,rv,p,hz⟩:=I1.list hq;refine call_enumerate_list p.isList fun h' o1 o2 o3 o4=>?_
  refine wpAny_pyIter_enum (s:={s1 with heap:=h'}) o1 ?_;refine⟨s1.heap.objs.size+1,[s1.heap.objs.size+1,s1.heap.objs.size],_,_,H1,rfl,I1.kept (t':=s1.toks) o4,CI l _ _ (Nat.succ_ne_self _),⟨⟨_,o1⟩,o2⟩,fun b hb=>?_,q⟩;have Mw:s1.heap.objs.size≤b:=by
   rcases List.mem_cons.mp hb with y|y
   ·rw[y];exact Nat.le_succ _
   ·have:b=s1.heap.objs.size:=by simpa using y
    exact Nat.le_of_eq this.symm
  exact I1.uC Mw (I1.bY.fresh Mw)
end
theorem oP{X:Cx}(K:Frag){elts:List Expr}{n:Nat}{tp:Pos}{a:Expr}{ta:TA}{p pos:Pos}(hg:Gl X "enumerate")(hm:X.mg "enumerate"=none)(ha:PA X [a] ta)(hs:starEach [a] X.env=[(false,eval a X.env)]:=by rfl)(h:X.K=K:=by rfl):
  PI X (.Tuple elts n tp) (.Call (.Name "enumerate" p) [a] [] pos) (Ji K ta):=h▸Ht hg hm ha hs
theorem yI{K:Frag}{a:Addr}{xs:List V}{g:TG}{tb:TS}{D:Ends}{σ:St}{H:Hp}(Pv:Nat→St→Hp→Prop)(h0:Pv 0 σ H)(hl:∀i σ H,i≤xs.length→Pv i σ H→iD K H a xs)
  (hs:∀i x T σ H,xs[i]?=some x→Pv i σ H→H T=none→g (.ref T) σ (upd H T (.tup [.int i,x])) fun gc H2=>tb {D with nx:=Pv (i+1),ct:=Pv (i+1),bk:=D.nx} gc H2) (hd:∀σ H,Pv xs.length σ H→D.nx σ H):
  ∃W:Nat→Nat→St→Hp→Prop,(∃m,W 0 m σ H)∧∀i m σ H,W i m σ H→
   ((Mv K a).stop i H∧D.nx σ H)∨((Mv K a).go i H∧∃N:St→Hp→Prop,(∀bq H',N bq H'→∃m',m'<m∧W (i+1) m' bq H')∧∀x H',(Mv K a).GK i H x H'→g x σ H' fun gc H2=>tb {D with nx:=N,ct:=N,bk:=D.nx} gc H2):=by
 refine⟨fun i m σ H=>m=xs.length-i∧i≤xs.length∧Pv i σ H,⟨xs.length,ZF,Nat.zero_le _,h0⟩,?_⟩;rintro i m σ H ⟨rfl,hi,p⟩;have hq:=hl i σ H hi p;by_cases ig:i<xs.length
 ·refine .inr ⟨⟨xs,xs[i],hq,by simp[ig]⟩,Pv (i+1),fun bq H' p'=>⟨xs.length-(i+1),by lia,rfl,ig,p'⟩,fun x H' y=>?_⟩;obtain⟨T,y,rfl,hT,rfl,hy⟩:=y;exact hs i y T σ H (hy xs hq) p hT
 ·have e:i=xs.length:=by lia
  subst e;exact .inl ⟨⟨xs,hq,Nat.le_refl _⟩,hd σ H p⟩
def NF(eY:Hp)(d:Addr):Prop:=∀o v,eY d≠some (.so o v)
section
variable{X:Cx}{tg:Expr}
end
end L2
namespace QF
open PySem L2
inductive wU(K:W.Frag)(vs:List V)(H:Hp)(Q:VK)(u3:XK):Prop
 |mk (a b:Addr) (ns:List Int) (zs:List Str) (c p m:Int) (_:vs=[.ref a, .int c, .int p, .int m, .ref b]) (_:iD K H a (ns.map V.int)) (_:H b=some (.lst (zs.map V.str))) (_:(1≤zs.length∧zs.length≤1000)) (_:0≤p) (_:0≤m) (_:m≤1000) (_:∀H' l (ws:List Str),ax H H'→H l=none→H' l=some (.lst (ws.map V.str))→ws.length=m.toNat→(∀w∈ws,w∈zs)→Q (.ref l) H'):wU K vs H Q u3
end QF
namespace L2
open PySem PySem.Spec PyProof.Rows PySem.W PySem.Calls
section
variable{X:Cx}
theorem Hu(K:Frag){T:String}{name:Str}{id:String}{r:V→List V→Hp→VK→Prop}{o:Expr}{apos eI:Pos}{to:TE}(pa:PlainAttrs T)(slot:Slot T name id)(DC:typeOf (.builtin id)=pure (.type "method_descriptor"))(hm:PL X id r)(ho:PE X o to)
  (oF:attributeBase o name X.env (eval o X.env)=eval o X.env:=by rfl) (oG:(apos.endLine==eI.line)=true:=by rfl) (hK:X.K=K:=by rfl):PE X (.Call (.Attribute o name apos) [] [] eI) (NO K T r to):=hK▸KC pa slot DC hm ho oF oG
end
end L2
namespace QF
open PySem L2
def RO(c:Nat):Bool:=decide (65≤c)&&decide (c≤90)
def conv(c:Nat):Nat:=if low c=true then c else if RO c=true then c+32 else 32
abbrev great:Str:=Str.ofString "ABCDEFGHIJKLMNOPQRSTUVWXYZ"
def rd(st:KWd.St)(cs:List Nat):KWd.St:=(cs.map conv).foldl KWd.step st
abbrev both:Str:=Str.ofString "abcdefghijklmnopqrstuvwxyzABCDEFGHIJKLMNOPQRSTUVWXYZ"
abbrev marks:Str:=Str.ofString " .,-'0123456789!?()[]{}@`_~/:;<=>#$&*+|^\\\""
end QF
namespace L2
open PySem PySem.Spec PyProof.Rows PySem.W PySem.Calls
section
variable{X:Cx}
def UU(xs ys:List V)(f:Nat→Bool):Prop:=∀(j:Nat)(x y:V),xs[j]?=some x→ys[j]?=some y→(rz x=true∧rz y=true∧f j=wu x y)∨(∃a,x= .ref a∧y= .ref a∧f j=true)
theorem EY{A:Around}{s:Shared}{xs ys:List V}{its eJ:List Value}{f:Nat→Bool}(r:Vals xs its)(r2:Vals ys eJ)(h:UU xs ys f):
  ∀j (h1:j<its.toArray.size) (h2:j<eJ.toArray.size),SeqAt.EqAt A s its.toArray[j] eJ.toArray[j] (f j):=fun j h1 h2=>by
 have Jj:j<xs.length:=by have:=r.length;simp at h1;lia
 have Jk:j<ys.length:=by have:=r2.length;simp at h2;lia
 obtain⟨a1,e1,q1⟩:=r.get (i:=j) (x:=xs[j]) (by simp[Jj]);obtain⟨a2,e2,q2⟩:=r2.get (i:=j) (x:=ys[j]) (by simp[Jk]);have g1:its.toArray[j]=a1:=by simpa[List.getElem?_eq_some_iff]using(ZO e1).2
 have g2:eJ.toArray[j]=a2:=by simpa[List.getElem?_eq_some_iff]using(ZO e2).2
 rw[g1,g2];rcases h j xs[j] ys[j] (by simp[Jj]) (by simp[Jk])with⟨f1,f2,ef⟩|⟨a,ex,ey,ef⟩
 ·rw[ef];exact wz q1 q2 f1 f2
 ·rw[ef];rw[ex]at q1;rw[ey]at q2;cases q1;cases q2;exact SeqAt.EqAt.same _
inductive Od(K:Frag)(x:V)(y:V)(H:Hp)(Q:VK):Prop
 |mk (p:_) (q:_) (xs:_) (ys:_) (f:_) (_:x= .ref p) (_:y= .ref q) (_:iD K H p xs) (_:iD K H q ys) (_:UU xs ys f) (_:Q (.bl (decide (xs.length=ys.length)&&(Ι xs.length).all f)) H):Od K x y H Q
theorem yJ(K:Frag)(hu:X.A.units<cLine)(hK:X.K=K:=by rfl):rN X (compareOp .Eq) (Od K):=by
 subst hK;intro pins s σ H x y v u Q I rx ry h;obtain⟨p,q,xs,ys,f,rfl,rfl,hp,hq,hf,k⟩:=h;cases rx;cases ry;obtain⟨its,r,pl,hz⟩:=I.list hp;obtain⟨eJ,r2,Ho,Mt⟩:=I.list hq;have l1:=r.length;have l2:=r2.length;obtain⟨⟨cls,dd,data,sl⟩,ho,hc,n,hd⟩:=id pl.isList;obtain⟨⟨KY,EN,data2,yc⟩,yd,qm,n2,hd2⟩:=id Ho.isList;simp only at hc hd qm hd2;subst hc hd qm hd2;by_cases e:xs.length=ys.length
 ·have hsz:its.toArray.size=eJ.toArray.size:=by rw[List.size_toArray,List.size_toArray];lia
  refine richCompare_meets_room (op:= .Eq) ⟨_,ho,rfl⟩ ⟨_,yd,rfl⟩ F.slot_list_eq F.entry_list_eq (F.args_list_eq_2 _ _) (SeqAt.list_eqAt p q its.toArray eJ.toArray n n2 dd EN sl yc hsz f) ⟨ho,yd,EY r r2 hf,?_⟩ hu;rw[decide_eq_true e,Bool.true_and]at k;refine⟨(fun x=>nomatch x), .bl ((Ι xs.length).all f),H,I,?_,k⟩;rw[List.size_toArray,←l1];rfl
 ·have hsz:(its.toArray.size !=eJ.toArray.size)=true:=by
   rw[List.size_toArray,List.size_toArray];simp;lia
  refine richCompare_meets_room (op:= .Eq) ⟨_,ho,rfl⟩ ⟨_,yd,rfl⟩ F.slot_list_eq F.entry_list_eq (F.args_list_eq_2 _ _) (SeqAt.list_eq_lengthsAt p q its.toArray eJ.toArray n n2 dd EN sl yc hsz) ⟨ho,yd,?_⟩ hu;rw[decide_eq_false e,Bool.false_and]at k;exact⟨(fun x=>nomatch x), .bl false,H,I,rfl,k⟩
end
section
variable{X:Cx}
end
end L2
namespace QF
open PySem L2
abbrev Pr:=Int×Int
def jw(p:Pr):List V:=[.int p.1, .int p.2]
def gM(H:Hp)(vs:List V)(ps:List Pr):Prop:=vs.length=ps.length∧∀(i:Nat)(p:Pr),ps[i]?=some p→∃t,vs[i]?=some (V.ref t)∧H t=some (.tup (jw p))
theorem gM.nil{H:Hp}:gM H [] []:=⟨rfl,fun i f e=>by simp at e⟩
theorem gM.cz{H H':Hp}{xs:List V}{fs:List Pr}(T:gM H xs fs)(k:cU H H'):gM H' xs fs:=⟨T.1,fun i f e=>let ⟨b,h1,h2⟩:=T.2 i f e;⟨b,h1,k _ _ h2⟩⟩
theorem gM.same{H H':Hp}{xs:List V}{fs:List Pr}(t:gM H xs fs)(s:ax H H'):gM H' xs fs:=t.cz (cU.same s)
theorem gM.append{H:Hp}{xs ys:List V}{fs gs:List Pr}(T:gM H xs fs)(U:gM H ys gs):gM H (xs++ys) (fs++gs):=by
 refine⟨by simp[T.1,U.1],fun i p e=>?_⟩;by_cases h:i<fs.length
 ·rw[Υ h]at e;obtain⟨b,h1,h2⟩:=T.2 i p e;exact⟨b,by rw[Υ (by rw[T.1];exact h)];exact h1,h2⟩
 ·rw[Ω UQ]at e;obtain⟨b,h1,h2⟩:=U.2 _ p e;exact⟨b,by rw[Ω (by rw[T.1];lia),T.1];exact h1,h2⟩
theorem gM.one{H:Hp}{t:Addr}{p:Pr}(ht:H t=some (.tup (jw p))):gM H [.ref t] [p]:=by
 refine⟨rfl,fun i q e=>?_⟩
 match i,e with
 |0,e=>cases e;exact⟨t,rfl,ht⟩
 |i+1,e=>simp at e
def pr(ps:List Pr)(k:Nat):Pr:=ps.getD k (0,0)
theorem Jl{ps:List Pr}{k:Nat}(h:k<ps.length):ps[k]?=some (pr ps k):=by
 simp[pr,h]
theorem gM.K0{H:Hp}{xs:List V}{ps:List Pr}(T:gM H xs ps){k:Nat}(h:k<ps.length):∃t,xs[k]?=some (V.ref t)∧H t=some (.tup [.int (pr ps k).1, .int (pr ps k).2]):=T.2 k _ (Jl h)
theorem gZ{ps:List Pr}{p:Pr}{k:Nat}(h:k<ps.length):pr (ps++[p]) k=pr ps k:=by
 simp[pr,List.getD_eq_getElem?_getD,Υ h]
theorem sD{ps:List Pr}{p:Pr}:pr (ps++[p]) ps.length=p:=by
 simp[pr,List.getD_eq_getElem?_getD]
structure Case where
 xs:List Str
 ys:List Str
 same:Int
 out:Int
 into:Int
 least:Int
 fs:List Form
structure dX(H:Hp)(a:Addr)(c:Case)(f g m l:Addr)(vs:List V):Prop where
 ca:H a=some (.lst [.ref f, .ref g, .ref m, .ref l])
 fi:H f=some (.lst (c.xs.map V.str))
 se:H g=some (.lst (c.ys.map V.str))
 nu:H m=some (.lst [.int c.same, .int c.out, .int c.into, .int c.least])
 ne:H l=some (.lst vs)
 tr:cT H vs c.fs
theorem dX.keep{H H':Hp}{a:Addr}{c:Case}{f g m l:Addr}{vs:List V}(C:dX H a c f g m l vs)(s:ax H H'):dX H' a c f g m l vs:=⟨s _ _ C.ca,s _ _ C.fi,s _ _ C.se,s _ _ C.nu,s _ _ C.ne,C.tr.same s⟩
structure d7(most:Nat)(c:Case):Prop where
 x:c.xs.length≤most
 y:c.ys.length≤most
 good:bb c.fs=true
 same:1≤c.same∧c.same≤999999
 out:0≤c.out∧c.out≤999999
 into:0≤c.into∧c.into≤999999
 least:1≤c.least∧c.least≤999999
def wd(xs:List Str)(i:Int):Option Str:=if 0≤i then xs[i.toNat]? else none
theorem tw{xs:List Str}{i:Nat}:wd xs (i:Int)=xs[i]?:=by simp[wd]
theorem vJ{xs:List Str}{i:Int}(h0:0≤i)(h:i<(xs.length:Int)):∃x,wd xs i=some x∧rO (xs.map V.str) i=some (.str x):=by
 obtain⟨j,rfl⟩:=Int.eq_ofNat_of_zero_le h0;have hj:j<xs.length:=by lia
 exact⟨xs[j],by rw[tw];simp[hj],au (by simp[hj])⟩
theorem BB{xs:List Str}{i:Int}{x:Str}(h:wd xs i=some x):0≤i∧i<(xs.length:Int):=by
 unfold wd at h;split at h
 ·have:=(ZO h).1
  lia
 ·cases h
def Case.pw(c:Case)(p:Pr):Option Int:=(wd c.xs p.1).bind fun x=>(wd c.ys p.2).bind fun y=>cK c.same c.fs x y
theorem Case.pw_of{c:Case}{p:Pr}{x y:Str}(h1:wd c.xs p.1=some x)(h2:wd c.ys p.2=some y):c.pw p=cK c.same c.fs x y:=by simp[Case.pw,h1,h2]
theorem Case.pw_in{c:Case}{p:Pr}{w:Int}(h:c.pw p=some w):(0≤p.1∧p.1<(c.xs.length:Int))∧(0≤p.2∧p.2<(c.ys.length:Int)):=by
 unfold Case.pw at h;cases e1:wd c.xs p.1 with
 |none=>rw[e1]at h;cases h
 |some x=>
  cases e2:wd c.ys p.2 with
  |none=>rw[e1,e2]at h;cases h
  |some y=>exact⟨BB e1,BB e2⟩
theorem Case.pw_out{c:Case}{p:Pr}(h:¬((0≤p.1∧p.1<(c.xs.length:Int))∧(0≤p.2∧p.2<(c.ys.length:Int)))):c.pw p=none:=by
 cases e:c.pw p with
 |none=>rfl
 |some w=>exact Zn (c.pw_in e) h
def stepOk(q p:Pr):Bool:=decide (q.1<p.1)&&decide (q.2<p.2)
def Case.gap(c:Case)(q p:Pr):Int:=c.out*(p.1-q.1-1)+c.into*(p.2-q.2-1)
def dG(c:Case)(ps:List Pr)(k:Nat):Bool:=(c.pw (pr ps k)).isSome&&(decide (k=0)||stepOk (pr ps (k-1)) (pr ps k))
def lN(c:Case)(ps:List Pr)(n:Nat):Prop:=∀k,k<n→dG c ps k=true
def la(c:Case)(ps:List Pr):Bool:=!ps.isEmpty&&(Ι ps.length).all (dG c ps)
def dI(c:Case)(ps:List Pr):Nat→Int
 |0=>(c.pw (pr ps 0)).getD 0
 |k+1=>(c.pw (pr ps (k+1))).getD 0+dI c ps k-c.gap (pr ps k) (pr ps (k+1))
theorem mB{c:Case}{ps:List Pr}(h:ps≠[])(g:lN c ps ps.length):la c ps=true:=by
 have h1:ps.isEmpty=false:=by simpa using h
 have h2:(Ι ps.length).all (dG c ps)=true:=List.all_eq_true.mpr fun k hk=>g k (by simpa using hk)
 simp[la,h1,h2]
theorem EZ{c:Case}{ps:List Pr}{k:Nat}(hk:k<ps.length)(g:dG c ps k=false):la c ps=false:=by
 have h2:(Ι ps.length).all (dG c ps)=false:=by
  rw[Bool.eq_false_iff];intro z;rw[List.all_eq_true]at z;rw[z k (by simpa using hk)]at g;cases g
 simp[la,h2]
theorem kE{c:Case}{ps:List Pr}(h:la c ps=true):ps≠[]∧lN c ps ps.length:=by
 simp only[la,Bool.and_eq_true,List.all_eq_true]at h;refine⟨fun z=>by subst z;simp at h,fun k hk=>h.2 k (by simpa using hk)⟩
theorem lN.next{c:Case}{ps:List Pr}{n:Nat}(h:lN c ps n)(g:dG c ps n=true):lN c ps (n+1):=fun k hk=>by
 by_cases e:k=n
 ·rw[e];exact g
 ·exact h k (by lia)
theorem Hv{c:Case}{ps:List Pr}{k:Nat}(h:dG c ps k=true):∃w,c.pw (pr ps k)=some w:=by
 simp only[dG,Bool.and_eq_true]at h;exact Option.isSome_iff_exists.mp h.1
theorem CJ{c:Case}{ps:List Pr}{p:Pr}(g:lN c ps ps.length)(h:(c.pw p).isSome=true)(f:ps=[]∨stepOk (pr ps (ps.length-1)) p=true):lN c (ps++[p]) (ps.length+1):=fun k hk=>by
 by_cases e:k<ps.length
 ·have:=g k e;simp only[dG]at this⊢;rw[gZ e];by_cases k0:k=0
  ·subst k0;simpa using this
  ·rw[gZ (by lia:k-1<ps.length)];exact this
 ·have:k=ps.length:=by lia
  subst this;simp only[dG];rw[sD,h];rcases f with f|f
  ·subst f;rfl
  ·by_cases e0:ps.length=0
   ·simp[e0]
   ·rw[gZ UQ,f];simp
structure Jm(c:Case):Prop where
 out:0≤c.out∧c.out≤999999
 into:0≤c.into∧c.into≤999999
theorem d7.num{m:Nat}{c:Case}(h:d7 m c):Jm c:=⟨h.out,h.into⟩
def yK(H:Hp)(CT t:Addr)(c:Case):Prop:=∃n dx l d vs,kD H CT t n c.fs dx l d vs∧n.same=c.same∧n.out=c.out∧n.into=c.into∧n.least=c.least
theorem yK.keep{H H':Hp}{CT t:Addr}{c:Case}(T:yK H CT t c)(s:ax H H'):yK H' CT t c:=by
 obtain⟨n,dx,l,d,vs,T,r⟩:=T;exact⟨n,dx,l,d,vs,T.same s,r⟩
inductive tD(K:W.Frag)(vs:List V)(H:Hp)(Q:VK)(u3:XK):Prop
 |mk (a b x:Addr) (ns:List Int) (zs ws:List Str) (c p m:Int) (_:vs=[.ref a, .int c, .int p, .int m, .ref x, .ref b]) (_:iD K H a (ns.map V.int)) (_:H b=some (.lst (zs.map V.str))) (_:H x=some (.lst (ws.map V.str))) (_:(1≤zs.length∧zs.length≤1000)) (_:ws.length≤1000) (_:(∀w∈ws,w∈zs)) (_:0≤p) (_:0≤m) (_:m≤1000) (_:∀H' l (ws:List Str),ax H H'→H l=none→H' l=some (.lst (ws.map V.str))→ws.length=m.toNat→(∀w∈ws,w∈zs)→Q (.ref l) H'):tD K vs H Q u3
inductive wV(K:W.Frag)(vs:List V)(H:Hp)(Q:VK)(u3:XK):Prop
 |mk (a:Addr) (ns:List Int) (most:Int) (_:vs=[.ref a, .int most]) (_:iD K H a (ns.map V.int)) (_:0≤most) (_:most≤40) (_:∀H' b c f g m l us,ax H H'→H b=none→dX H' b c f g m l us→d7 most.toNat c→Q (.ref b) H'):wV K vs H Q u3
inductive qr(C:Addr)(vs:List V)(H:Hp)(Q:VK)(u3:XK):Prop
 |mk (a:Addr) (c:Case) (f g m l:Addr) (us:List V) (most:Nat) (_:vs=[.ref a]) (_:dX H a c f g m l us) (_:d7 most c) (_:∀H' t,ax H H'→yK H' C t c→Q (.ref t) H'):qr C vs H Q u3
inductive qt(vs:List V)(H:Hp)(Q:VK)(u3:XK):Prop
 |mk (a:Addr) (us:List V) (ps:List Pr) (_:vs=[.ref a]) (_:H a=some (.lst us)) (_:gM H us ps) (_:Q (.bl true) H):qt vs H Q u3
inductive tE(vs:List V)(H:Hp)(Q:VK)(u3:XK):Prop
 |mk (a w:Addr) (c:Case) (f g m l:Addr) (us:List V) (ws:List V) (ps:List Pr) (_:vs=[.ref a, .ref w]) (_:dX H a c f g m l us) (_:H w=some (.lst ws)) (_:gM H ws ps) (_:ps.length≤10000) (_:∀H',ax H H'→Q (.bl (la c ps)) H'):tE vs H Q u3
inductive qu(vs:List V)(H:Hp)(Q:VK)(u3:XK):Prop
 |mk (a w:Addr) (c:Case) (f g m l:Addr) (us:List V) (ws:List V) (ps:List Pr) (_:vs=[.ref a, .ref w]) (_:dX H a c f g m l us) (_:Jm c) (_:H w=some (.lst ws)) (_:gM H ws ps) (_:ps.length≤10000) (_:la c ps=true) (_:Q (.int (dI c ps (ps.length-1))) H):qu vs H Q u3
end QF
namespace L2
open PySem PySem.Spec PyProof.Rows PySem.W PySem.Calls
section
variable{pg:Program}{wd:World}{Ar:Around}{Rs:Result→Shared→Prop}{it:Addr}{fp wr:List Addr}{n:Nat}{Pv:Nat→Value→Prop}{Sv:Nat→Heap→Prop}
def wX:(toString "max"++toString ".loop":String)="max.loop":=ZD
theorem CK(Wk:Walks pg wd Ar.in1 it fp wr n Pv Sv)(bt:Nat→Nat→Bool)(cmp:CmpOf pg wd Ar.in1 .Gt Pv bt)(B:Addr)(nb:B∉fp)(dv:Value):
  ∀(k j:Nat)(st:Shared)(old:List Value)(c:Nat),n-j=k→j≤n→Sv j st.heap→((j=0∧old=[])∨∃vb,0<j∧old=[vb,vb]∧Pv (argBest bt (j-1)) vb)→
  st.heap.get? B=some {cls:= .type "list",dict:=none,data:= .seq old.toArray c,slots:=#[]}→
  (∀v h' tk,((n=0∧v=dv)∨(0<n∧Pv (argBest bt (n-1)) v))→(∀b o,b∉wr→b≠B→st.heap.get? b=some o→h'.get? b=some o)→Rs (.ok (.ret v)) {st with heap:=h',toks:=tk})→
  codeAny (model pg wd) Ar (.builtin "max.loop" ⟨[.ref it, .none, .ref B],[("default",dv)]⟩) Rs st:=by
 have nw:B∉wr:=fun z=>nb (Wk.sub _ z)
 intro k
 induction k with
 |zero=>
  intro j st old c ek lj sv ol eB fin;have ej:j=n:=by lia
  subst ej;refine codeAny_builtin F.entry_max_loop ?_;rw[Around.under_plainId F.plain_max_loop _];show wpAny _ Ar.in1 (seqItems? (.ref B)>>=_) _ _ st;refine wpAny_bind (wpAny_seqItems eB rfl ?_);show wpAny _ Ar.in1 (tryCatch (pyNext (.ref it)) _>>=_) _ _ st;refine wpAny_bind (wpAny_tryCatch (Wk.done st _ _ sv fun h' tk kp=>?_));rcases ol with⟨z0,rfl⟩|⟨vb,z0,rfl,pb⟩
  ·refine wpAny_bind (wpAny_rule (Ε ?_));exact fin dv _ tk (.inl ⟨z0,rfl⟩) fun b o hb _ e=>kp b o hb e
  ·have K1:=kp B _ nw eB;show wpAny _ Ar.in1 (updateSeq B (fun _=>#[])>>=_) _ _ _;refine wpAny_bind ?_;refine wpAny_updateSeq K1 rfl (Ζ (wpAny_letGo (Ε ?_)));exact fin vb _ tk (.inr ⟨z0,pb⟩) fun b o hb hB e=>(Heap.get?_update_other _ _ (Ne.symm hB)).trans (kp b o hb e)
 |succ k ih=>
  intro j st old c ek lj sv ol eB fin;have lt:j<n:=by lia
  refine codeAny_builtin F.entry_max_loop ?_;rw[Around.under_plainId F.plain_max_loop _];show wpAny _ Ar.in1 (seqItems? (.ref B)>>=_) _ _ st;refine wpAny_bind (wpAny_seqItems eB rfl ?_);show wpAny _ Ar.in1 (tryCatch (pyNext (.ref it)) _>>=_) _ _ st;refine wpAny_bind (wpAny_tryCatch (Wk.item j st _ _ lt sv fun v h' tk pv R5 kp=>?_));have K1:=kp B _ nw eB;have up:∀(g:Array Value→Array Value)(b:Addr),b∈fp→∀o,h'.get? b=some o→(h'.update B (Obj.mapSeq g)).get? b=some o:=fun g b hb o e=>(Heap.get?_update_other _ _ (fun z:B=b=>nb (by rw[z];exact hb))).trans e
  rcases ol with⟨rfl,rfl⟩|⟨vb,z0,rfl,pb⟩
  ·show wpAny _ Ar.in1 (updateSeq B (fun _=>#[v,v])>>=_) _ _ _;refine wpAny_bind ?_;refine wpAny_updateSeq K1 rfl ?_;rw[wX];refine wpAny_pure ⟨plainId_quiet F.plain_max_loop _,ih 1 _ [v,v] _ (by lia) lt (Wk.frame _ _ _ R5 (up _)) (.inr ⟨v,ZD,rfl,pv⟩) (Heap.get?_update_self _ K1 rfl) fun v' h2 Oe pf Of=>?_⟩;exact fin v' h2 Oe pf fun b o hb hB e=>Of b o hb hB ((Heap.get?_update_other _ _ (Ne.symm hB)).trans (kp b o hb e))
  ·obtain⟨i,rfl⟩:∃i,j=i+1:=⟨j-1,by lia⟩
   have pb:Pv (argBest bt i) vb:=pb;show wpAny _ Ar.in1 (tryCatch (holding [v,v] (richCompare .Gt v vb>>=_)) _>>=_) _ _ _;refine wpAny_bind (wpAny_tryCatch (wpAny_holding (Ζ (cmp (i+1) (argBest bt i) v vb _ _ _ pv pb ?_))));refine wpAny_bind (wpAny_holding (wpAny_truthy_bool ?_));refine wpAny_bind (wpAny_letGo (Ε ?_));cases hb:bt (i+1) (argBest bt i)with
   |true=>
    simp only[if_true];refine wpAny_bind ?_;refine wpAny_updateSeq K1 rfl (Ζ (wpAny_letGo ?_));rw[wX];refine wpAny_pure ⟨plainId_quiet F.plain_max_loop _,ih (i+2) _ [v,v] _ (by lia) lt (Wk.frame _ _ _ R5 (up _)) (.inr ⟨v,by lia,rfl,?_⟩) (Heap.get?_update_self _ K1 rfl) fun v' h2 Oe pf Of=>?_⟩
    ·show Pv (argBest bt (i+1)) v;simp only[argBest,hb,if_true];exact pv
    ·exact fin v' h2 Oe pf fun b o hb hB e=>Of b o hb hB ((Heap.get?_update_other _ _ (Ne.symm hB)).trans (kp b o hb e))
   |false=>
    simp only[Bool.false_eq_true,if_false];refine wpAny_bind (wpAny_letGo ?_);rw[wX];refine wpAny_pure ⟨plainId_quiet F.plain_max_loop _,ih (i+2) _ [vb,vb] c (by lia) lt R5 (.inr ⟨vb,by lia,rfl,?_⟩) K1 fun v' h2 Oe pf Of=>?_⟩
    ·show Pv (argBest bt (i+1)) vb;simp only[argBest,hb,Bool.false_eq_true,if_false];exact pb
    ·exact fin v' h2 Oe pf fun b o hb hB e=>Of b o hb hB (kp b o hb e)
theorem CL(a d:Value):argsOk "max" ⟨[a],[("default",d)]⟩:=by unfold argsOk;kernel_rfl
end
section
variable{X:Cx}
def K2:Option Int→V
 |none=> .cR
 |some i=> .int i
theorem Aj{is:List Int}{us:List Value}(r:Vals (is.map V.int) us):us.length=is.length∧∀(j:Nat)(v:Value),us[j]?=some v→∃t,v= .int (is.getD j 0) t:=by
 have hl:=r.length;rw[List.length_map]at hl;refine⟨hl.symm,fun j v e=>?_⟩;have hj:j<is.length:=by have:=(ZO e).1;lia
 obtain⟨u,eu,ru⟩:=r.get (i:=j) (x:= .int is[j]) (by simp[hj]);rw[e]at eu;cases eu;obtain⟨t,rfl⟩:=ru;exact⟨t,by simp[hj]⟩
theorem K3{is:List Int}{k:Nat}(hk:k<is.length)(h:∀j,j<is.length→is.getD j 0≤is.getD k 0):is.max?=some (is.getD k 0):=by
 rw[List.max?_eq_some_iff];refine⟨by simp[hk],fun b hb=>?_⟩;obtain⟨j,hj,rfl⟩:=List.mem_iff_getElem.mp hb;have:=h j hj;simpa[hj]using this
theorem CM(hc:X.calm=true){pins:List (Addr×Obj)}{s:Shared}{σ:St}{H:Hp}{a:Addr}{is:List Int}{Q:VK}(I:Inv X pins σ H s)(hq:iD X.K H a (is.map V.int))(q:Q (K2 is.max?) H):
  wpAny (model X.prog X.w) X.A (call (.builtin "max") [.ref a] [("default", .none)]) (EP X pins σ Q) X.xe s:=by
 obtain⟨its,rv,p,hz⟩:=I.list hq;obtain⟨hl,hv⟩:=Aj rv;refine wpAny_call (codeAny_call_builtin F.plain_max F.entry_max ?_);simp only[checkBuiltinCall,F.kind_max];have body:wpAny (model X.prog X.w) X.A.in1 (Builtin.«max» ⟨[.ref a],[("default", .none)]⟩) (fun fin s'=>match fin with
   | .done f=>(match (Except.ok f:Result)with| .ok (.ret v)=>EP X pins σ Q v s'| .ok _=>False| .error e=>X.xe e s')
   | .again c'=>c'.quiet=true∧codeAny (model X.prog X.w) X.A c' (fun r s'=>match r with| .ok (.ret v)=>EP X pins σ Q v s'| .ok _=>False| .error e=>X.xe e s') s') X.xe s:=by
  show wpAny _ X.A.in1 (Builtin.Builtins.bindParams "max" ["key","default"] 0 ⟨[],[("default", .none)]⟩>>=_) _ _ s;refine wpAny_bind (wpAny_of_eq (show Builtin.Builtins.bindParams "max" ["key","default"] 0 ⟨[],[("default", .none)]⟩=pure [none,some .none]from rfl) ?_);refine wpAny_bind (Ε (Ζ (wpAny_pyIter_list p.isList ?_)));have eX:a≠s.heap.objs.size:=by
   obtain⟨o,n,e,_⟩:=p;exact Nat.ne_of_lt (Κ e)
  refine wpAny_bind (wpAny_newObj_type ?_);rw[wX];have eS:(s.heap.push {cls:= .type "list_iterator",data:= .fields #[.ref a, .int 0 0]}).objs.size=s.heap.objs.size+1:=by simp[Heap.push]
  have Wk:=Walks.list (prog:=X.prog) (w:=X.w) (A:=X.A.in1) (show X.A.in1.handled=none from I.ok.hd hc) s.heap.objs.size a eX its.toArray;refine wpAny_pure ⟨plainId_quiet F.plain_max_loop _,CK (pg:=X.prog) (wd:=X.w) Wk _ (CmpOf.ints_gt (fun j=>is.getD j 0) fun j v e=>hv j v (by simpa using e)) (s.heap.push {cls:= .type "list_iterator",data:= .fields #[.ref a, .int 0 0]}).objs.size ?_ .none _ 0 _ [] 0 rfl (Nat.zero_le _) ?_ (.inl ⟨rfl,rfl⟩) ?_ fun v h' tk pf kp=>?_⟩
  ·intro z;simp only[List.mem_cons,List.not_mem_nil,or_false]at z;rw[eS]at z;rcases z with z|z
   ·exact Nat.succ_ne_self _ z
   ·obtain⟨o,n,e,_⟩:=p;have lt:=Κ e;rw[←z]at lt;exact Nat.lt_irrefl _ (Nat.lt_of_succ_lt lt)
  ·exact⟨⟨_,Z6 (Heap.get?_push_size _ rfl),rfl,rfl⟩,p.isList.at fun o e=>Z6 (Z6 e)⟩
  ·exact Heap.get?_push_size _ rfl
  ·have keep:∀b o,s.heap.get? b=some o→h'.get? b=some o:=fun b o e=>by
    have lt:=Κ e;refine kp b o (fun z=>?_) (fun z=>?_) (Z6 (Z6 e))
    ·have z:b=s.heap.objs.size:=by simpa using z
     rw[z]at lt;exact Nat.lt_irrefl _ lt
    ·rw[z,eS]at lt;exact Nat.lt_irrefl _ (Nat.lt_of_succ_lt lt)
   have sz:its.toArray.size=is.length:=by simp[hl]
   rcases pf with⟨h0,rfl⟩|⟨h0,pf⟩
   ·have:is=[]:=List.length_eq_zero_iff.mp UQ;subst this;exact⟨.cR,H,I.kept (t':=tk) keep,rfl,q⟩
   ·rw[List.getElem?_toArray]at pf;obtain⟨t,rfl⟩:=hv _ v pf;obtain⟨b1,b2⟩:=argBest_gt (fun j=>is.getD j 0) (its.toArray.size-1);have em:=K3 (is:=is) (k:=argBest (fun i j=>decide (is.getD i 0>is.getD j 0)) (its.toArray.size-1)) (by lia) fun j hj=>b2 j UQ
    rw[em]at q;exact⟨.int _,H,I.kept (t':=tk) keep,⟨t,rfl⟩,q⟩
 cases R6:Manifest.signature? "max" with
 |none=>exact Ε body
 |some sig=>
  have ha:=CL (.ref a) .none;simp only[argsOk,R6]at ha;have h2:Bind.checkArgs "max" sig ⟨[.ref a],[("default", .none)]⟩=pure ():=ha;show wpAny _ X.A.in1 (Bind.checkArgs "max" sig ⟨[.ref a],[("default", .none)]⟩) _ _ s;rw[h2];exact Ε body
def Og(K:Frag)(ta:TE):TE:=fun σ H Q=>ta σ H fun x H1=>∃(a:Addr)(is:List Int),x= .ref a∧iD K H1 a (is.map V.int)∧Q (K2 is.max?) H1
theorem Hw(K:Frag){e:Expr}{ta:TE}{p pos kp cp:Pos}{j:Nat}(hc:X.calm=true)(hg:Gl X "max")(hm:X.mg "max"=none)(he:PE X e ta)(hs:starEach [e] X.env=[(false,eval e X.env)]:=by rfl)(hK:X.K=K:=by rfl):
  PE X (.Call (.Name "max" p) [e] [⟨some "default", .Constant .none j cp,kp⟩] pos) (Og K ta):=by
 subst hK;intro pins s σ H Q I h;refine wpAny_Call_Name_kw (lF I hg hm (PyProof.Rows.Boot.«max») ?_ (ZD) (ZD));rw[hs];refine callWith_builtin_kwB (first:=[]) rfl rfl (evalArgs_kwB rfl ?_);refine Calls.spliced_cons ?_;show wpAny _ _ (eval e X.env) _ _ s;refine cI (he pins s σ H _ I h) fun v s1 ⟨x,H1,I1,r1,q1⟩=>Calls.spliced_nil ?_
 obtain⟨a,is,rfl,hq,q⟩:=q1;cases r1;refine kws_cons ?_;refine Constant_none ?_;refine kws_nil ?_;exact CM hc I1 hq q
def uE:List V→List V→Bool
 |[],[]=>true
 |x::xs,y::ys=>wu x y&&uE xs ys
 | _,_=>false
theorem kF:∀(xs ys:List V),((Ι (min xs.length ys.length)).all (fun j=>wu (xs.getD j .cR) (ys.getD j .cR))&&xs.length==ys.length)=uE xs ys
 |[],[]=>rfl
 |[],y::ys=>by simp[uE]
 |x::xs,[]=>by simp[uE]
 |x::xs,y::ys=>by
  have ih:=kF xs ys;simp only[uE];rw[←ih];have e:min (x::xs).length (y::ys).length=min xs.length ys.length+1:=by simp[Nat.succ_min_succ]
  rw[e,List.range_succ_eq_map,List.all_cons,List.all_map];simp only[List.getD_cons_zero,Function.comp_def,List.getD_cons_succ,List.length_cons,Bool.and_assoc]
  congr 2
  simp
theorem tF{A:Around}{s:Shared}{xs ys:List V}{its eJ:List Value}(r:Vals xs its)(r2:Vals ys eJ)(f1:xs.all rz=true)(f2:ys.all rz=true):
  ∀j (h1:j<its.toArray.size) (h2:j<eJ.toArray.size),SeqAt.EqAt A s its.toArray[j] eJ.toArray[j] ((fun j=>wu (xs.getD j .cR) (ys.getD j .cR)) j):=by
 refine EY r r2 fun j x y hx hy=> .inl ⟨List.all_eq_true.mp f1 x (Z0 hx),List.all_eq_true.mp f2 y (Z0 hy),?_⟩
 simp[List.getD_eq_getElem?_getD,hx,hy]
open Classical in
end
theorem vK{K:Frag}{a:Addr}{xs:List V}{ls:List Str}{js:List Nat}{g:TG}{tt:TT}{te:TE}{σ:St}{H1:Hp}{D:Addr}{Q:VK}(Pv:Nat→List V→St→Hp→Prop)
  (h0:Pv 0 [] (lJ ls js σ) (upd H1 D (.lst []))) (hl:∀i ys σ H,i≤xs.length→Pv i ys σ H→iD K H a xs)
  (hs:∀i x T ys σ H,xs[i]?=some x→Pv i ys σ H→H T=none→g (.ref T) σ (upd H T (.tup [.int i,x])) fun gc H3=>tt gc H3 fun b H4=>if b=true then te gc H4 fun y H5=>H5 D=some (.lst ys)∧ys.length<sizeLine∧Pv (i+1) (ys++[y]) gc (upd H5 D (.lst (ys++[y])))else Pv (i+1) ys gc H4)
  (hd:∀ys σ H,Pv xs.length ys σ H→Q (.ref D) H):
  sW (Mv K a) ls js g tt te σ H1 D Q:=
 oK (n:=xs.length) Pv h0 (fun i ys σ H hi p=>⟨xs,xs[i],hl i ys σ H (Nat.le_of_lt hi) p,by simp[hi]⟩) (fun ys σ H p=>⟨xs,hl _ ys σ H Λ p,Nat.le_refl _⟩)
  (fun i ys σ H x H2 hi p y=>by
   obtain⟨T,z,rfl,hT,rfl,hy⟩:=y;exact hs i z T ys σ H (hy xs (hl i ys σ H (Nat.le_of_lt hi) p)) p hT) hd
end L2
namespace QF
open PySem L2
def f7(S:Int→Prop):Option Int→Prop
 |none=>∀v,¬S v
 |some m=>S m∧∀v,S v→v≤m
theorem f7.iff{S T:Int→Prop}{a:Option Int}(ha:f7 S a)(h:∀v,S v↔T v):f7 T a:=by
 cases a with
 |none=>exact fun v hv=>ha v ((h v).mpr hv)
 |some m=>exact⟨(h m).mp ha.1,fun v hv=>ha.2 v ((h v).mpr hv)⟩
def bE:Option Int→Int→Option Int
 |none,_=>none
 |some v,p=>some (v-p)
theorem f7.less{S:Int→Prop}{a:Option Int}(ha:f7 S a)(p:Int):f7 (fun v=>∃u,S u∧v=u-p) (bE a p):=by
 cases a with
 |none=>exact fun v ⟨u,hu,_⟩=>ha u hu
 |some m=>
  refine⟨⟨m,ha.1,rfl⟩,?_⟩;rintro v ⟨u,hu,rfl⟩;have:=ha.2 u hu
  lia
def oQ(l:List (Option Int)):Option Int:=(l.filterMap id).max?
theorem kG(l:List (Option Int)):f7 (fun v=>some v∈l) (oQ l):=by
 have key:∀v,v∈l.filterMap id↔some v∈l:=fun v=>by
  rw[List.mem_filterMap];exact⟨fun⟨o,ho,eo⟩=>by have eo:o=some v:=eo;rw[eo]at ho;exact ho,fun h=>⟨some v,h,rfl⟩⟩
 unfold oQ;cases e:(l.filterMap id).max? with
 |none=>
  rw[List.max?_eq_none_iff]at e;intro v hv;have:=(key v).mpr hv;rw[e]at this;cases this
 |some m=>
  rw[List.max?_eq_some_iff]at e;exact⟨(key m).mp e.1,fun v hv=>e.2 v ((key v).mpr hv)⟩
theorem f7.UW{S T:Int→Prop}{a:Option Int}(ha:f7 S a)(h1:∀v,S v→T v)(h2:∀v,T v→∃u,S u∧v≤u):f7 T a:=by
 cases a with
 |none=>
  intro v hv;obtain⟨u,hu,_⟩:=h2 v hv;exact ha u hu
 |some m=>
  refine⟨h1 m ha.1,fun v hv=>?_⟩;obtain⟨u,hu,hle⟩:=h2 v hv;have:=ha.2 u hu
  lia
theorem yL{S1 S2 S3:Int→Prop}{a b c:Option Int}(h1:f7 S1 a)(h2:f7 S2 b)(h3:f7 S3 c):f7 (fun v=>S1 v∨S2 v∨S3 v) (oQ [a,b,c]):=by
 refine(kG [a,b,c]).UW (fun v hv=>?_) (fun v hv=>?_)
 ·simp only[List.mem_cons,List.not_mem_nil,or_false]at hv;rcases hv with e|e|e
  ·rw[←e]at h1;exact .inl h1.1
  ·rw[←e]at h2;exact .inr (.inl h2.1)
  ·rw[←e]at h3;exact .inr (.inr h3.1)
 ·have one:∀{S:Int→Prop}{o:Option Int},f7 S o→S v→o∈[a,b,c]→∃u,some u∈[a,b,c]∧v≤u:=fun{S o} hm hs ho=>by
   cases o with
   |none=>exact Zn hs (hm v)
   |some m=>exact⟨m,ho,hm.2 v hs⟩
  rcases hv with hs|hs|hs
  ·exact one h1 hs ZA
  ·exact one h2 hs ZA
  ·exact one h3 hs ZA
def kb(ps:List Pr):Pr:=pr ps (ps.length-1)
def wW(c:Case)(ps:List Pr):Int:=dI c ps (ps.length-1)
def oR(c:Case)(shut:List Pr)(ps:List Pr):Prop:=la c ps=true∧∀p∈ps,p∉shut
def mO(c:Case)(shut:List Pr)(p:Pr):Option Int:=if p∈shut then none else c.pw p
theorem nG{ps:List Pr}{p:Pr}:kb (ps++[p])=p:=by
 unfold kb;rw[List.length_append];exact sD
theorem tG{c:Case}{ps:List Pr}{p:Pr}:∀{k:Nat},k<ps.length→dI c (ps++[p]) k=dI c ps k
 |0,h=>by simp only[dI];rw[gZ h]
 |k+1,h=>by simp only[dI];rw[gZ h,gZ (by lia:k<ps.length),tG (by lia:k<ps.length)]
theorem K4{c:Case}{p:Pr}{w:Int}(h:c.pw p=some w):wW c [p]=w:=by
 simp[wW,dI,pr,h]
theorem Hx{c:Case}{ps:List Pr}{p:Pr}{w:Int}(eX:ps≠[])(h:c.pw p=some w):wW c (ps++[p])=w+wW c ps-c.gap (kb ps) p:=by
 have hp:0<ps.length:=List.length_pos_iff.mpr eX;obtain⟨k,hk⟩:∃k,ps.length=k+1:=⟨ps.length-1,by lia⟩
 have e1:(ps++[p]).length-1=k+1:=by rw[List.length_append];simp;lia
 unfold wW kb;rw[e1];have e2:pr (ps++[p]) (k+1)=p:=by rw[←hk];exact sD
 simp only[dI,e2,h,Option.getD_some];rw[gZ (by lia:k<ps.length),tG (by lia:k<ps.length),hk];rfl
theorem oR.one{c:Case}{shut:List Pr}{p:Pr}{w:Int}(h:mO c shut p=some w):oR c shut [p]:=by
 unfold mO at h;split at h
 ·cases h
 ·rename_i hs
  refine⟨mB ZA fun k hk=>?_,fun q hq=>?_⟩
  ·have:k=0:=by simp at hk;exact hk
   subst this;simp[dG,pr,h]
  ·have:q=p:=by simpa using hq
   rw[this];exact hs
theorem oR.snoc{c:Case}{shut:List Pr}{ps:List Pr}{p:Pr}{w:Int}(o:oR c shut ps)(h:mO c shut p=some w)(st:stepOk (kb ps) p=true):oR c shut (ps++[p]):=by
 obtain⟨eX,hg⟩:=kE o.1;unfold mO at h;split at h
 ·cases h
 ·rename_i hs
  refine⟨mB ZA ?_,fun q hq=>?_⟩
  ·rw[List.length_append];exact CJ hg (by rw[h];rfl) (.inr st)
  ·rcases List.mem_append.mp hq with hq|hq
   ·exact o.2 q hq
   ·have:q=p:=by simpa using hq
    rw[this];exact hs
theorem yM{c:Case}{ps:List Pr}{p:Pr}{k:Nat}(h:k<ps.length):dG c (ps++[p]) k=dG c ps k:=by
 simp only[dG];rw[gZ h,gZ (by lia:k-1<ps.length)]
theorem oR.split{c:Case}{shut:List Pr}{ps:List Pr}(o:oR c shut ps):∃qs,ps=qs++[kb ps]∧(∃w,mO c shut (kb ps)=some w)∧(qs=[]∨(oR c shut qs∧stepOk (kb qs) (kb ps)=true)):=by
 obtain⟨eX,hg⟩:=kE o.1;obtain⟨qs,p,rfl⟩:∃qs p,ps=qs++[p]:=⟨ps.dropLast,ps.getLast eX,(List.dropLast_concat_getLast eX).symm⟩
 rw[nG];have gl:=hg qs.length ZA;simp only[dG,sD,Bool.and_eq_true]at gl;refine⟨qs,rfl,?_,?_⟩
 ·obtain⟨w,hw⟩:=Option.isSome_iff_exists.mp gl.1;have:=o.2 p ZA;exact⟨w,by simp[mO,this,hw]⟩
 ·by_cases e:qs=[]
  ·exact .inl e
  ·have hp:0<qs.length:=List.length_pos_iff.mpr e;refine .inr ⟨⟨mB e fun k hk=>?_,fun q hq=>o.2 q (List.mem_append_left _ hq)⟩,?_⟩
   ·have:=hg k (by simp;lia);rwa[yM hk]at this
   ·have g2:=gl.2;simp only[Bool.or_eq_true,decide_eq_true_eq]at g2;rcases g2 with g2|g2
    ·lia
    ·rw[gZ (by lia:qs.length-1<qs.length)]at g2;exact g2
def Hy:Option Int→Option Int→Option Int
 |none,_=>none
 |some w,none=>some w
 |some w,some b=>if b<0 then some w else some (w+b)
def Bq(f:Nat→Nat→Option Int)(o p:Int):Nat→Nat→Option Int
 |0,_=>none
 | _+1,0=>none
 |i+1,j+1=>oQ [Hy (f i j) (Bq f o p i j),bE (Bq f o p i (j+1)) o,bE (Bq f o p (i+1) j) p]
termination_by i j=>(i,j)
def dH(f:Nat→Nat→Option Int)(o p:Int)(i j:Nat):Option Int:=Hy (f i j) (Bq f o p i j)
def i8(c:Case)(shut:List Pr)(i j:Nat):Option Int:=mO c shut ((i:Int),(j:Int))
theorem yN{q p:Pr}:stepOk q p=true↔q.1<p.1∧q.2<p.2:=by simp[stepOk]
theorem Hz(o:Option Int):K2 o=bG o:=by cases o<;>rfl
def gj(H:Hp)(vs:List V)(L:List (List Pr)):Prop:=vs.length=L.length∧∀(k:Nat)(ps:List Pr),L[k]?=some ps→∃a us,vs[k]?=some (V.ref a)∧H a=some (.lst us)∧gM H us ps
def Oh(l:Addr)(vs:List V):Prop:=∀k:Nat,vs[k]?≠some (V.ref l)
theorem gj.nil{H:Hp}:gj H [] []:=⟨rfl,fun k ps e=>by simp at e⟩
theorem gj.same{H H':Hp}{vs:List V}{L:List (List Pr)}(w:gj H vs L)(s:ax H H'):gj H' vs L:=⟨w.1,fun k ps e=>let ⟨a,us,h1,h2,h3⟩:=w.2 k ps e;⟨a,us,h1,s _ _ h2,h3.same s⟩⟩
theorem gj.put{H:Hp}{vs:List V}{L:List (List Pr)}{l:Addr}{zs:List V}{o:HO}(w:gj H vs L)(n:Oh l vs)(h:H l=some (.lst zs)):gj (upd H l o) vs L:=⟨w.1,fun k ps e=>by
 obtain⟨a,us,h1,h2,h3⟩:=w.2 k ps e;refine⟨a,us,h1,?_,h3.cz (cU.lst h)⟩;rw[aj (fun z=>n k (by rw[h1,z]))];exact h2⟩
theorem gj.append{H:Hp}{vs ws:List V}{L M:List (List Pr)}(a:gj H vs L)(b:gj H ws M):gj H (vs++ws) (L++M):=by
 refine⟨by simp[a.1,b.1],fun i p e=>?_⟩;by_cases h:i<L.length
 ·rw[Υ h]at e;obtain⟨x,us,h1,h2⟩:=a.2 i p e;exact⟨x,us,by rw[Υ (by rw[a.1];exact h)];exact h1,h2⟩
 ·rw[Ω UQ]at e;obtain⟨x,us,h1,h2⟩:=b.2 _ p e;exact⟨x,us,by rw[Ω (by rw[a.1];lia),a.1];exact h1,h2⟩
theorem gj.one{H:Hp}{a:Addr}{us:List V}{ps:List Pr}(h:H a=some (.lst us))(P:gM H us ps):gj H [.ref a] [ps]:=by
 refine⟨rfl,fun i q e=>?_⟩
 match i,e with
 |0,e=>cases e;exact⟨a,us,rfl,h,P⟩
 |i+1,e=>simp at e
def dj(m:Nat)(f:Nat→Option Int):List V:=(Ι m).map fun j=>bG (f j)
theorem dq(m:Nat)(f:Nat→Option Int):(dj m f).length=m:=by simp[dj]
theorem du{m j:Nat}{f:Nat→Option Int}(h:j<m):(dj m f)[j]?=some (bG (f j)):=by simp[dj,h]
theorem qv(m:Nat)(f:Nat→Option Int):dj (m+1) f=dj m f++[bG (f m)]:=by simp[dj,List.range_succ]
structure i9(H:Hp)(as:List Addr)(f:Nat→Nat→Option Int)(n m:Nat):Prop where
 len:as.length=n
 row:∀(i:Nat)(a:Addr),as[i]?=some a→H a=some (.lst (dj m (f i)))
theorem i9.same{H H':Hp}{as:List Addr}{f:Nat→Nat→Option Int}{n m:Nat}(t:i9 H as f n m)(s:ax H H'):i9 H' as f n m:=⟨t.len,fun i a e=>s _ _ (t.row i a e)⟩
theorem i9.at{H:Hp}{as:List Addr}{f:Nat→Nat→Option Int}{n m i:Nat}(t:i9 H as f n m)(h:i<n):∃a,as[i]?=some a∧(as.map V.ref)[i]?=some (.ref a)∧H a=some (.lst (dj m (f i))):=by
 have hi:i<as.length:=by rw[t.len];exact h
 refine⟨as[i],by simp[hi],by simp[hi],t.row i _ (by simp[hi])⟩
def Tab(H H':Hp)(e:Addr)(f:Nat→Nat→Option Int)(n m:Nat):Prop:=∃as:List Addr,H' e=some (.lst (as.map V.ref))∧H e=none∧i9 H' as f n m∧∀a∈as,H a=none
structure BC(K:W.Frag)(C:Addr):Prop where
 cl:wc K C
 out:b_ K C "out"
 into:b_ K C "into"
 kH:b_ K C "ending"
 jx:b_ K C "brought"
def gP(o p:Int)(e b:Addr):List (Str×V):=[("out", .int o),("into", .int p),("ending", .ref e),("brought", .ref b)]
theorem Jn(o p:Int)(e b:Addr):(gP o p e b).lookup ("out":Str)=some (V.int o):=by kernel_rfl
theorem E2(o p:Int)(e b:Addr):(gP o p e b).lookup ("into":Str)=some (V.int p):=by kernel_rfl
theorem il(o p:Int)(e b:Addr):(gP o p e b).lookup ("ending":Str)=some (V.ref e):=by kernel_rfl
theorem gS(o p:Int)(e b:Addr):(gP o p e b).lookup ("brought":Str)=some (V.ref b):=by kernel_rfl
theorem E3(o p:Int)(e b:Addr):(gP o p e b).lookup ("brought_behind":Str)=none:=by kernel_rfl
theorem Oi(o p:Int)(e b:Addr):bx "brought" (.ref b) (bx "ending" (.ref e) (bx "into" (.int p) (bx "out" (.int o) [])))=gP o p e b:=by kernel_rfl
def rQ(f g:Nat→Option Int)(o p:Int):Nat→Option Int
 |0=>none
 |j+1=>oQ [f j,bE (g (j+1)) o,bE (rQ f g o p j) p]
theorem BD(f:Nat→Nat→Option Int)(o p:Int)(i:Nat):∀j,rQ (dH f o p i) (Bq f o p i) o p j=Bq f o p (i+1) j
 |0=>by unfold rQ Bq;rfl
 |j+1=>by
  rw[rQ,Bq,BD f o p i j];rfl
theorem iI(f:Nat→Nat→Option Int)(o p:Int)(j:Nat):Bq f o p 0 j=none:=by unfold Bq;rfl
inductive lO(vs:List V)(H:Hp)(Q:VK)(u3:XK):Prop
 |mk (a:Addr) (os:List (Option Int)) (_:vs=[.ref a]) (_:H a=some (.lst (os.map bG))) (_:os.length≤1000) (_:∀H',ax H H'→Q (bG (oQ os)) H'):lO vs H Q u3
inductive wY(vs:List V)(H:Hp)(Q:VK)(u3:XK):Prop
 |mk (o:Option Int) (p:Int) (_:vs=[bG o, .int p]) (_:Q (bG (bE o p)) H):wY vs H Q u3
inductive Ak(vs:List V)(H:Hp)(Q:VK)(u3:XK):Prop
 |mk (w b:Option Int) (_:vs=[bG w,bG b]) (_:Q (bG (Hy w b)) H):Ak vs H Q u3
inductive qw(C:Addr)(vs:List V)(H:Hp)(Q:VK)(u3:XK):Prop
 |mk (x e a dx te tb:Addr) (o p:Int) (m:Nat) (f g:Nat→Option Int) (_:vs=[.ref x, .ref e, .ref a]) (_:H x=some (.ins C dx (gP o p te tb))) (_:H e=some (.lst (dj m f))) (_:H a=some (.lst (dj (m+1) g))) (_:m≤1000) (_:∀H' r,ax H H'→H r=none→H' r=some (.lst (dj (m+1) (rQ f g o p)))→Q (.ref r) H'):qw C vs H Q u3
def E4(H:Hp)(v:V)(shut:List Pr):Prop:=(v= .cR∧shut=[])∨∃l us,v= .ref l∧H l=some (.lst us)∧gM H us shut
def bf(p:Pr):List Key:=[.inl p.1, .inl p.2]
def m8(kvs:List (List Key×V))(shut:List Pr):Prop:=∀p:Pr,(bC kvs (bf p)).isSome=decide (p∈shut)
inductive wZ(vs:List V)(H:Hp)(Q:VK)(u3:XK):Prop
 |mk (v:V) (shut:List Pr) (_:vs=[v]) (_:E4 H v shut) (_:shut.length≤1000) (_:∀H' d kvs,ax H H'→H' d=some (.dT kvs)→m8 kvs shut→Q (.ref d) H'):wZ vs H Q u3
theorem gM.last{H:Hp}{xs:List V}{ps:List Pr}(P:gM H xs ps)(eX:ps≠[]):∃t,rO xs (-1)=some (.ref t)∧H t=some (.tup [.int (kb ps).1, .int (kb ps).2]):=by
 have hp:0<ps.length:=List.length_pos_iff.mpr eX;have hl:=P.1;obtain⟨t,h1,h2⟩:=P.K0 (k:=ps.length-1) (by lia);refine⟨t,?_,h2⟩;have e:xs=xs.take (ps.length-1)++[V.ref t]:=by
  apply List.ext_getElem?;intro n;by_cases hn:n<ps.length-1
  ·rw[Υ (by rw[List.length_take];lia),List.getElem?_take,Z7 hn]
  ·rw[Ω (by rw[List.length_take];lia),List.length_take];by_cases yb:n=ps.length-1
   ·subst yb;rw[h1];have:ps.length-1-min (ps.length-1) xs.length=0:=by lia
    rw[this];rfl
   ·rw[List.getElem?_eq_none UQ,List.getElem?_eq_none (by simp;lia)]
 rw[e];exact yB _ _
theorem w6(p q:Pr):uE (jw p) (jw q)=decide (p=q):=by
 simp only[jw,uE,wu,Bool.and_true];rw[Bool.eq_iff_iff];simp[Prod.ext_iff]
theorem E5{m j:Nat}{f:Nat→Option Int}{u:Option Int}:(dj m f).set j (bG u)=dj m (fun k=>if k=j then u else f k):=by
 apply List.ext_getElem?;intro k;by_cases hk:k<m
 ·rw[du hk];by_cases e:j=k
  ·subst e;rw[List.getElem?_set_self (by rw[dq];exact hk)];simp
  ·rw[List.getElem?_set_ne e,du hk];have:¬k=j:=fun z=>e z.symm
   simp[this]
 ·rw[List.getElem?_eq_none (by rw[List.length_set,dq];lia),List.getElem?_eq_none (by rw[dq];lia)]
end QF
namespace L2
open PySem PySem.Spec PyProof.Rows PySem.W PySem.Calls
section
variable{X:Cx}{tg:Expr}
end
section
variable{X:Cx}
end
section
variable{X:Cx}
end
end L2
namespace QF
open PySem L2
def R7(fs:List Form)(x t:Str):Bool:=decide (x=t)||fs.any fun f=>(decide (f.1=x)&&decide (f.2.1=t))||(decide (f.1=t)&&decide (f.2.1=x))
def Oj(fs:List Form)(t:Str):List Str:=[t]++(fs.filter fun f=>decide (f.1=t)).map (·.2.1)++(fs.filter fun f=>decide (f.2.1=t)).map (·.1)
def Jo(p:Nat→Bool):Nat→Int
 |0=> -1
 |n+1=>if p n then(n:Int)else Jo p n
structure NS where
 ws:List Str
 ts:List Str
 fs:List Form
 span:Nat
def NS.p(c:NS)(t:Str)(i:Nat):Bool:=match c.ws[i]? with
 |some x=>R7 c.fs x t
 |none=>false
def NS.Ol(c:NS)(n:Nat):List Int:=c.ts.map fun t=>Jo (c.p t) n
def NS.low(c:NS)(n:Nat):Int:=((c.Ol n).min?).getD (-1)
def NS.at_(c:NS)(h:Nat):Option Pr:=if c.low h<c.low (h+1)∧(h:Int)-c.low (h+1)<c.span then some (c.low (h+1),(h:Int))else none
def NS.told(c:NS)(k:Nat):List Pr:=(Ι k).filterMap c.at_
def NS.holds(c:NS)(l h:Nat):Bool:=c.ts.all fun t=>(((c.ws.map fun x=>decide (x∈Oj c.fs t)).drop l).take (h-l)).any id
def NS.ok(c:NS)(l h:Nat):Bool:=c.holds l (h+1)&&!(c.holds (l+1) (h+1))&&!(c.holds l h)
def NS.row(c:NS)(l k:Nat):List Pr:=(Ι k).filterMap fun d=>if c.ok l (l+d)=true then some ((l:Int),((l+d:Nat):Int))else none
def NS.Zc(c:NS)(i:Nat):List Pr:=(Ι i).flatMap fun l=>c.row l (min c.ws.length (l+c.span)-l)
end QF
namespace L2
open PySem PySem.Spec PyProof.Rows PySem.W PySem.Calls
section
variable{X:Cx}{tg:Expr}
end
section
variable{pg:Program}{wd:World}{Ar:Around}{sh:Shared}{Rs:Result→Shared→Prop}{it:Addr}{fp wr:List Addr}{Gn:Array GenState→Array GenState→Prop}{n:Nat}{Pv:Nat→Value→Prop}{Sv:Nat→Shared→Prop}
end
section
variable{X:Cx}
end
end L2
namespace QF
open PySem L2
def zG(q p:Pr):Prop:=q.1<p.1∧q.2<p.2
def gp(o i:Int)(q p:Pr):Int:=o*(p.1-q.1-1)+i*(p.2-q.2-1)
structure Wy(g:Pr→Option Int)(ps:List Pr):Prop where
 ne:ps≠[]
 ok:∀p∈ps,(g p).isSome=true
 up:ps.Pairwise zG
def vl(g:Pr→Option Int)(o i:Int):List Pr→Int
 |[]=>0
 |[p]=>(g p).getD 0
 |p::q::r=>(g p).getD 0-gp o i p q+vl g o i (q::r)
def lq(ps:List Pr):Pr:=ps.headD (0,0)
def lstP(ps:List Pr):Pr:=ps.getLastD (0,0)
theorem dO{ps:List Pr}{p:Pr}:lstP (ps++[p])=p:=by simp[lstP]
theorem w8(g:Pr→Option Int)(o i:Int)(q:Pr)(bs:List Pr):∀(as:List Pr),vl g o i (as++q::bs)=vl g o i (as++[q])+vl g o i (q::bs)-(g q).getD 0
 |[]=>by simp only[List.nil_append,vl];lia
 |[a]=>by
  simp only[List.cons_append,List.nil_append,vl]
  lia
 |a::b::r=>by
  have ih:=w8 g o i q bs (b::r);simp only[List.cons_append]at ih⊢;simp only[vl];rw[ih]
  lia
theorem oS(g:Pr→Option Int)(o i:Int){ps:List Pr}(eX:ps≠[])(p:Pr):vl g o i (ps++[p])=(g p).getD 0+vl g o i ps-gp o i (lstP ps) p:=by
 obtain⟨qs,q,rfl⟩:∃qs q,ps=qs++[q]:=⟨ps.dropLast,ps.getLast eX,(List.dropLast_concat_getLast eX).symm⟩
 rw[dO,List.append_assoc];have:=w8 g o i q [p] qs;simp only[List.singleton_append]at this⊢;rw[this];simp only[vl]
 lia
theorem Wy.one{g:Pr→Option Int}{p:Pr}(h:(g p).isSome=true):Wy g [p]:=by
 refine⟨ZF,fun q hq=>?_,ZF⟩;have e:q=p:=by simpa using hq
 rw[e];exact h
theorem qx{a b c:Pr}(h1:zG a b)(h2:zG b c):zG a c:=⟨Int.lt_trans h1.1 h2.1,Int.lt_trans h1.2 h2.2⟩
theorem pw_lst{ps:List Pr}(h:ps.Pairwise zG){q:Pr}(hq:q∈ps):q=lstP ps∨zG q (lstP ps):=by
 have eX:ps≠[]:=fun z=>by rw[z]at hq;cases hq
 obtain⟨qs,x,rfl⟩:∃qs x,ps=qs++[x]:=⟨ps.dropLast,ps.getLast eX,(List.dropLast_concat_getLast eX).symm⟩
 rw[dO];rcases List.mem_append.mp hq with hq|hq
 ·exact .inr ((List.pairwise_append.mp h).2.2 q hq x (ZF))
 ·exact .inl (by simpa using hq)
theorem Wy.snoc{g:Pr→Option Int}{ps:List Pr}{p:Pr}(w:Wy g ps)(h:(g p).isSome=true)(s:zG (lstP ps) p):Wy g (ps++[p]):=by
 refine⟨ZF,fun q hq=>?_,List.pairwise_append.mpr ⟨w.up,ZF,fun a ha b hb=>?_⟩⟩
 ·rcases List.mem_append.mp hq with hq|hq
  ·exact w.ok q hq
  ·have:q=p:=by simpa using hq
   rw[this];exact h
 ·have:b=p:=by simpa using hb
  rw[this];rcases pw_lst w.up ha with e|e
  ·rw[e];exact s
  ·exact qx e s
theorem Wy.split{g:Pr→Option Int}{ps:List Pr}(w:Wy g ps):∃qs,ps=qs++[lstP ps]∧(∃v,g (lstP ps)=some v)∧(qs=[]∨(Wy g qs∧zG (lstP qs) (lstP ps))):=by
 obtain⟨qs,x,rfl⟩:∃qs x,ps=qs++[x]:=⟨ps.dropLast,ps.getLast w.ne,(List.dropLast_concat_getLast w.ne).symm⟩
 rw[dO];refine⟨qs,rfl,Option.isSome_iff_exists.mp (w.ok x (ZF)),?_⟩;by_cases e:qs=[]
 ·exact .inl e
 ·have h:=List.pairwise_append.mp w.up;refine .inr ⟨⟨e,fun q hq=>w.ok q (List.mem_append_left _ hq),h.1⟩,h.2.2 _ ?_ x (ZF)⟩;obtain⟨rs,y,rfl⟩:∃rs y,qs=rs++[y]:=⟨qs.dropLast,qs.getLast e,(List.dropLast_concat_getLast e).symm⟩
  rw[dO];simp
theorem dw{ps:List Pr}(h:ps≠[]):lstP ps∈ps:=by
 obtain⟨rs,y,rfl⟩:∃rs y,ps=rs++[y]:=⟨ps.dropLast,ps.getLast h,(List.dropLast_concat_getLast h).symm⟩
 rw[dO];simp
def lf(f:Nat→Nat→Option Int)(p:Pr):Option Int:=if 0≤p.1∧0≤p.2 then f p.1.toNat p.2.toNat else none
theorem qy(f:Nat→Nat→Option Int)(i j:Nat):lf f ((i:Int),(j:Int))=f i j:=by simp[lf]
theorem BE{f:Nat→Nat→Option Int}{p:Pr}(h:(lf f p).isSome=true):∃i j:Nat,p=((i:Int),(j:Int)):=by
 unfold lf at h;split at h
 ·rename_i hh
  exact⟨p.1.toNat,p.2.toNat,Prod.ext (by simp;lia) (by simp;lia)⟩
 ·cases h
def P6(f:Nat→Nat→Option Int)(o p:Int)(i j:Nat)(v:Int):Prop:=∃ps,Wy (lf f) ps∧(lstP ps).1<(i:Int)∧(lstP ps).2<(j:Int)∧v=vl (lf f) o p ps-(o*((i:Int)-1-(lstP ps).1)+p*((j:Int)-1-(lstP ps).2))
def P7(f:Nat→Nat→Option Int)(o p:Int)(q:Pr)(v:Int):Prop:=∃ps,Wy (lf f) ps∧lstP ps=q∧v=vl (lf f) o p ps
theorem BF{f:Nat→Nat→Option Int}{o p:Int}{i j:Nat}{b:Option Int}(h:f7 (P6 f o p i j) b):f7 (P7 f o p ((i:Int),(j:Int))) (Hy (f i j) b):=by
 cases e:f i j with
 |none=>
  rintro v ⟨ps,w,el,rfl⟩;obtain⟨qs,_,⟨x,hx⟩,_⟩:=w.split;rw[el,qy,e]at hx;cases hx
 |some x=>
  have eg:lf f ((i:Int),(j:Int))=some x:=by rw[qy];exact e
  have Al:∀ps,Wy (lf f) ps→lstP ps=((i:Int),(j:Int))→vl (lf f) o p ps=x∨∃v,P6 f o p i j v∧vl (lf f) o p ps=x+v:=fun ps w el=>by
   obtain⟨qs,eq,_,hq⟩:=w.split;rw[el]at eq hq;rcases hq with rfl|⟨wq,st⟩
   ·left
    rw[eq];simp[vl,eg]
   ·right
    refine⟨_,⟨qs,wq,st.1,st.2,rfl⟩,?_⟩;rw[eq,oS _ _ _ wq.ne,eg];simp only[gp,Option.getD_some];have e1:(i:Int)-(lstP qs).1-1=(i:Int)-1-(lstP qs).1:=by lia
    have e2:(j:Int)-(lstP qs).2-1=(j:Int)-1-(lstP qs).2:=by lia
    rw[e1,e2]
    lia
  have alone:P7 f o p ((i:Int),(j:Int)) x:=⟨[((i:Int),(j:Int))], .one (by rw[eg];rfl),rfl,by simp[vl,eg]⟩
  have more:∀v,P6 f o p i j v→P7 f o p ((i:Int),(j:Int)) (x+v):=by
   rintro v ⟨ps,w,l1,l2,rfl⟩;refine⟨ps++[((i:Int),(j:Int))],w.snoc (by rw[eg];rfl) ⟨l1,l2⟩,dO,?_⟩;rw[oS _ _ _ w.ne,eg];simp only[gp,Option.getD_some];have e1:(i:Int)-(lstP ps).1-1=(i:Int)-1-(lstP ps).1:=by lia
   have e2:(j:Int)-(lstP ps).2-1=(j:Int)-1-(lstP ps).2:=by lia
   rw[e1,e2]
   lia
  cases b with
  |none=>
   refine⟨alone,?_⟩;rintro v ⟨ps,w,el,rfl⟩;rcases Al ps w el with h1|⟨u,hu,_⟩
   ·lia
   ·exact Zn hu (h u)
  |some m=>
   simp only[Hy];split
   ·refine⟨alone,?_⟩;rintro v ⟨ps,w,el,rfl⟩;rcases Al ps w el with h1|⟨u,hu,h2⟩
    ·lia
    ·have:=h.2 u hu
     lia
   ·refine⟨more m h.1,?_⟩;rintro v ⟨ps,w,el,rfl⟩;rcases Al ps w el with h1|⟨u,hu,h2⟩
    ·lia
    ·have:=h.2 u hu
     lia
theorem yO{f:Nat→Nat→Option Int}{ps:List Pr}(w:Wy (lf f) ps):0≤(lstP ps).1∧0≤(lstP ps).2:=by
 obtain⟨a,b,e⟩:=BE (w.ok _ (dw w.ne));rw[e];simp
theorem f9(f:Nat→Nat→Option Int)(o p:Int):∀i j:Nat,f7 (P6 f o p i j) (Bq f o p i j)
 |0,j=>by
  unfold Bq;rintro v ⟨ps,w,l1,_⟩;have:=yO w;simp at l1
  lia
 |i+1,0=>by
  unfold Bq;rintro v ⟨ps,w,_,l2,_⟩;have:=yO w;simp at l2
  lia
 |i+1,j+1=>by
  rw[Bq];refine(yL (BF (f9 f o p i j)) ((f9 f o p i (j+1)).less o) ((f9 f o p (i+1) j).less p)).iff fun v=>?_
  constructor
  ·rintro(⟨ps,w,el,rfl⟩|⟨u,⟨ps,w,l1,l2,rfl⟩,rfl⟩|⟨u,⟨ps,w,l1,l2,rfl⟩,rfl⟩)
   ·refine⟨ps,w,by rw[el];simp;lia,by rw[el];simp;lia,?_⟩;rw[el];have e1:((i+1:Nat):Int)-1-(i:Int)=0:=by lia
    have e2:((j+1:Nat):Int)-1-(j:Int)=0:=by lia
    simp only[e1,e2,Int.mul_zero]
    lia
   ·refine⟨ps,w,by lia,by lia,?_⟩;have e1:((i+1:Nat):Int)-1-(lstP ps).1=((i:Int)-1-(lstP ps).1)+1:=by lia
    rw[e1,Int.mul_add]
    lia
   ·refine⟨ps,w,by lia,by lia,?_⟩;have e1:((j+1:Nat):Int)-1-(lstP ps).2=((j:Int)-1-(lstP ps).2)+1:=by lia
    rw[e1,Int.mul_add]
    lia
  ·rintro⟨ps,w,l1,l2,rfl⟩;by_cases h1:(lstP ps).1<(i:Int)
   ·right;left
    refine⟨_,⟨ps,w,h1,l2,rfl⟩,?_⟩;have e1:((i+1:Nat):Int)-1-(lstP ps).1=((i:Int)-1-(lstP ps).1)+1:=by lia
    rw[e1,Int.mul_add]
    lia
   ·by_cases h2:(lstP ps).2<(j:Int)
    ·right;right
     refine⟨_,⟨ps,w,l1,h2,rfl⟩,?_⟩;have e1:((j+1:Nat):Int)-1-(lstP ps).2=((j:Int)-1-(lstP ps).2)+1:=by lia
     rw[e1,Int.mul_add]
     lia
    ·left
     have a1:(lstP ps).1=(i:Int):=by lia
     have a2:(lstP ps).2=(j:Int):=by lia
     refine⟨ps,w,Prod.ext a1 a2,?_⟩;have e1:((i+1:Nat):Int)-1-(lstP ps).1=0:=by lia
     have e2:((j+1:Nat):Int)-1-(lstP ps).2=0:=by lia
     simp only[e1,e2,Int.mul_zero]
     lia
termination_by i j=>(i,j)
theorem tH(f:Nat→Nat→Option Int)(o p:Int)(i j:Nat):f7 (P7 f o p ((i:Int),(j:Int))) (dH f o p i j):=BF (f9 f o p i j)
def fr(f:Nat→Nat→Option Int)(n m:Nat)(a b:Nat):Option Int:=if a<n∧b<m then f (n-1-a) (m-1-b)else none
def DD(f:Nat→Nat→Option Int)(n m:Nat):Prop:=∀i j,(f i j).isSome=true→i<n∧j<m
theorem w9(c:Case)(shut:List Pr)(p:Pr):lf (i8 c shut) p=mO c shut p:=by
 unfold lf;split
 ·rename_i h
  unfold i8
  congr 1
  exact Prod.ext (by simp;lia) (by simp;lia)
 ·rename_i h
  unfold mO;split
  ·rfl
  ·exact(c.pw_out UQ).symm
theorem K5(c:Case)(shut:List Pr):DD (i8 c shut) c.xs.length c.ys.length:=fun i j h=>by
 unfold i8 mO at h;split at h
 ·cases h
 ·obtain⟨w,hw⟩:=Option.isSome_iff_exists.mp h;have:=c.pw_in hw;simp at this
  lia
theorem BG{ps:List Pr}(h:ps≠[]):kb ps=lstP ps:=by
 obtain⟨qs,x,rfl⟩:∃qs x,ps=qs++[x]:=⟨ps.dropLast,ps.getLast h,(List.dropLast_concat_getLast h).symm⟩
 rw[nG,dO]
theorem K6{c:Case}{shut:List Pr}{p:Pr}{w:Int}(h:mO c shut p=some w):c.pw p=some w∧p∉shut:=by
 unfold mO at h;split at h
 ·cases h
 ·rename_i hs
  exact⟨h,hs⟩
theorem w_{c:Case}{shut:List Pr}:∀{k:Nat}{ps:List Pr},ps.length=k→oR c shut ps→Wy (mO c shut) ps∧wW c ps=vl (mO c shut) c.out c.into ps
 |0,ps,hk,o=>Zn (List.length_eq_zero_iff.mp hk) (kE o.1).1
 |k+1,ps,hk,o=>by
  obtain⟨qs,eq,⟨w,hw⟩,hq⟩:=o.split;generalize kb ps=p at eq hw hq;subst eq;have hp:=K6 hw;rcases hq with rfl|⟨oq,st⟩
  ·exact⟨.one (by rw[hw];rfl),by rw[List.nil_append,K4 hp.1];simp[vl,hw]⟩
  ·have hlen:qs.length=k:=by simpa using hk
   obtain⟨wq,vq⟩:=w_ hlen oq;have el:=BG wq.ne;rw[yN,el]at st;refine⟨wq.snoc (by rw[hw];rfl) st,?_⟩;rw[Hx wq.ne hp.1,oS _ _ _ wq.ne,hw,vq,el];rfl
theorem BH{c:Case}{shut:List Pr}:∀{k:Nat}{ps:List Pr},ps.length=k→Wy (mO c shut) ps→oR c shut ps
 |0,ps,hk,w=>Zn (List.length_eq_zero_iff.mp hk) w.ne
 |k+1,ps,hk,w=>by
  obtain⟨qs,eq,⟨v,hv⟩,hq⟩:=w.split;generalize lstP ps=p at eq hv hq;subst eq;rcases hq with rfl|⟨wq,st⟩
  ·exact .one hv
  ·have hlen:qs.length=k:=by simpa using hk
   exact(BH hlen wq).snoc hv (yN.mpr (by rw[BG wq.ne];exact st))
theorem yP{c:Case}{shut:List Pr}{ps:List Pr}:oR c shut ps↔Wy (lf (i8 c shut)) ps:=by
 have:lf (i8 c shut)=mO c shut:=by funext p;exact w9 c shut p
 rw[this];exact⟨fun o=>(w_ rfl o).1,fun w=>BH rfl w⟩
theorem HA{c:Case}{shut:List Pr}{ps:List Pr}(o:oR c shut ps):wW c ps=vl (lf (i8 c shut)) c.out c.into ps:=by
 have:lf (i8 c shut)=mO c shut:=by funext p;exact w9 c shut p
 rw[this];exact(w_ rfl o).2
end QF
namespace L2
open PySem PySem.Spec PyProof.Rows PySem.W PySem.Calls
section
variable{X:Cx}
open Classical in
end
end L2
namespace QF
open PySem L2
theorem gM.first{H:Hp}{xs:List V}{ps:List Pr}(P:gM H xs ps)(eX:ps≠[]):∃t,rO xs 0=some (.ref t)∧H t=some (.tup [.int (lq ps).1, .int (lq ps).2]):=by
 cases ps with
 |nil=>exact absurd rfl eX
 |cons p r=>
  obtain⟨t,h1,h2⟩:=P.2 0 p rfl;exact⟨t,au (j:=0) h1,h2⟩
end QF
namespace L2
open PySem PySem.Spec PyProof.Rows PySem.W PySem.Calls
section
variable{prog:Program}{w:World}{κ:Type}[DecidableEq κ]{knd:HeapKind prog w κ}{A:Around}{E:Value→Shared→Prop}{s:Shared}
theorem vL{α β:Type}(f:α→β):∀(xs:List α)(j:Nat),(xs.eraseIdx j).map f=(xs.map f).eraseIdx j
 |[],_=>ZF
 | _::_,0=>ZF
 | _::r,j+1=>by simp[vL f r j]
theorem CO{xs:List (κ×Addr×Value)}(hn:(xs.map (·.1)).Nodup):∀{j:Nat}{k:κ}{p:Addr×Value},xs[j]?=some (k,p)→xs.eraseIdx j=xs.filter fun x=>decide (x.1≠k):=by
 induction xs with
 |nil=>intro j k p h;simp at h
 |cons x r ih=>
  intro j k p h;have DY:=List.nodup_cons.mp (by simpa using hn:(x.1::r.map (·.1)).Nodup);cases j with
  |zero=>
   have:x=(k,p):=by simpa using h
   subst this;have hf:r.filter (fun x=>decide (x.1≠k))=r:=List.filter_eq_self.mpr fun y hy=>by
    have:y.1≠k:=fun e=>DY.1 (List.mem_map.mpr ⟨y,hy,e⟩)
    simpa using this
   simp only[List.eraseIdx_cons_zero,List.filter_cons];rw[hf];simp
  |succ j=>
   have hj:r[j]?=some (k,p):=by simpa using h
   have hx:x.1≠k:=fun e=>DY.1 (e▸(List.mem_map.mpr ⟨(k,p),Z0 hj,rfl⟩))
   simp only[List.eraseIdx_cons_succ,List.filter_cons];rw[ih DY.2 hj,Z7 (by simpa using hx)]
theorem xa{d a:Addr}{xs:List (κ×Addr×Value)}{k:κ}{p:Addr×Value}{Q:Option DictEntry→Shared→Prop}(hu:knd.room A)(oA:knd.is s.heap k a)(hm:s.heap.DictOfH knd d xs)(hp:atKey xs k=some p)(hsz:xs.length≤sizeLine)
  (h:∀h' e,e.val=p.2→h'.DictOfH knd d (xs.filter fun x=>decide (x.1≠k))→Heap.SameBut d s.heap h'→Q (some e) {s with heap:=h',toks:=s.toks+knd.draws k}):wpAny (model prog w) A (Builtin.Dict.takeOut d (.ref a)) Q E s:=by
 obtain⟨o,es,ep,ho,hc,hd,he,K7,hn⟩:=hm;unfold Builtin.Dict.takeOut
 try with_reducible refine wpAny_holding ?_
 refine wpAny_bind (knd.pyHash hu oA ?_);refine wpAny_bind (wpAny_dictFind_heap (s:={s with toks:=s.toks+knd.draws k}) hu oA ho hd he K7 hn ?_ ?_)
 ·intro CP;rw[atKey_none_of_get CP]at hp;cases hp
 ·intro j q hj;have eq:q=p:=by rw[atKey_of_get hn hj]at hp;exact Z' hp
  subst eq;refine wpAny_bind (wpAny_dictEntries (s:={s with toks:=s.toks+knd.draws k}) ho hd ?_);rw[entry_at he j,hj];refine wpAny_bind (wpAny_updateDictKeys (hz:=by have e:=size_of_entries he;lia) (s:={s with toks:=s.toks+knd.draws k}) ho hd (wpAny_pure (h _ _ rfl ⟨_,_,ep+1,Heap.get?_update_self _ ho (Obj.isFreed_of_dict (Obj.data_mapDictKeys hd _)),
   hc.mapDictKeys _,Obj.data_mapDictKeys hd _,?_,?_,?_⟩ (Heap.SameBut.update ..))))
  ·rw[←CO hn hj,vL,←he];obtain⟨l⟩:=es;simp
  ·intro x hx;exact knd.keeps (K7 x (List.mem_filter.mp hx).1) ho hd (Heap.SameBut.update ..)
  ·exact hn.sublist (List.filter_sublist.map _)
theorem Am(d a:Addr):
  MeetsIn prog w (Builtin.«dict.pop» ⟨[.ref d, .ref a],[]⟩) (fun A R s=>knd.room A.in1∧∃k xs p,knd.is s.heap k a∧s.heap.DictOfH knd d xs∧xs.length≤sizeLine∧atKey xs k=some p∧
   ∀h',h'.DictOfH knd d (xs.filter fun x=>decide (x.1≠k))→Heap.SameBut d s.heap h'→R (.ok (.ret p.2)) {s with heap:=h',toks:=s.toks+knd.draws k}):=
 .of_wp fun A R s ⟨hu,k,xs,p,oA,hm,hsz,hp,h⟩=>by
  obtain⟨o,es,ep,ho,hc,hd,he,K7,hn⟩:=id hm;have eX:es.isEmpty=false:=by
   cases hx:xs with
   |nil=>rw[hx]at hp;cases hp
   |cons x r=>
    have:=size_of_entries he;rw[hx]at this;simp at this;rw[Array.isEmpty_eq_false_iff];intro e;rw[e]at this;simp at this
  unfold Builtin.«dict.pop»;refine wpAny_bind ?_;unfold Builtin.Dict.keyAndDefault;refine wpAny_bind (wpAny_notOrdered_dict hm.typeIs ?_);show wpAny _ _ (pure (d,Value.ref a,none)) _ _ s;refine wpAny_pure ?_;have Om:(keyPart (Value.ref a)).isSome=false:=rfl;simp only[Om,Bool.false_eq_true,if_false];refine wpAny_bind (wpAny_dictEntries ho hd (Ζ (Ε ?_)));rw[eX];simp only[Bool.false_eq_true,if_false];refine wpAny_bind (xa hu oA hm hp hsz fun h' e W6 yF m7=>?_);simp only[Option.isNone_some,Bool.false_eq_true,if_false];exact Ζ (wpAny_letGo (Ε ⟨e.val,rfl,by rw[W6];exact h h' yF m7⟩))
end
section
variable{X:Cx}{pins:List (Addr×Obj)}{σ:St}{H:Hp}{s:Shared}{a:Addr}{u:Value}{A:Around}{E:Value→Shared→Prop}{kvs:List (List Key×V)}
theorem KT.drop{xs:List (List Key×Addr×Value)}(r:KT H kvs xs)(k:List Key):KT H (i4 kvs k) (xs.filter fun x=>decide (x.1≠k)):=by
 unfold i4
 induction r with
 |nil=>exact .nil
 |cons z t ih=>
  simp only[List.filter_cons];rw[z.1];split
  ·exact .cons z ih
  ·exact ih
theorem K8{v:V}{k:List Key}{b:Addr}{Q:Value→Shared→Prop}(hu:A.units+1<cLine)(I:Inv X pins σ H s)(e:H a=some (.dT kvs))(eb:H b=some (.tup (k.map kV)))(l:bC kvs k=some v)
  (h:∀w' s',Inv X pins σ (upd H a (.dT (i4 kvs k))) s'→RelV v w'→Q w' s'):wpAny (model X.prog X.w) A (call (.builtin "dict.pop") [.ref a, .ref b]) Q E s:=by
 obtain⟨z,hd,xs,rel,dd⟩:=IZ I.bY e;have rv:=rel.val k;rw[l]at rv;obtain⟨w',hw,iE⟩:=kx.some_of rv;obtain⟨p,hp,rfl⟩:=Option.map_eq_some_iff.mp hw;refine call_meetsIn PySem.F.slot_dict_pop dd.typeIs PySem.F.entry_dict_pop (PySem.F.args_dict_pop_2 _ _) (Am (knd:=tupleKind (cZ X.prog X.w)) a b)
  ⟨tupleKind_room_in1 hu,k,xs,p,nC I.bY eb,dd,by rw[←Paired.length rel];exact z,hp,fun h' I0 hs=>h _ _ ?_ iE⟩
 obtain⟨q,es,ep,hq,h2,h3,h4,_,h5⟩:=I0;refine wj I (by rw[e];exact True.intro) hs ⟨q,hq⟩ ⟨Nat.le_trans (yy kvs k) z,hd,_,(rel.drop k).keeps fun c ys ec=>?_,q,es,ep,hq,h2,h3,h4,h5⟩;rw[aj (iY ec e (fun z=>nomatch z))];exact ec
end
inductive Jp(x y:V)(H:Hp)(Q:VK):Prop
 |mk (a b:Addr) (kvs:List (List Key×V)) (k:List Key) (v:V) (_:x= .ref a) (_:y= .ref b) (_:H a=some (.dT kvs)) (_:H b=some (.tup (k.map kV))) (_:bC kvs k=some v) (_:Q v (upd H a (.dT (i4 kvs k)))):Jp x y H Q
def Oo(td ty:TE):TE:=fun σ H Q=>td σ H fun x H1=>∃a,x= .ref a∧Rv H1 a∧ty σ H1 fun y H2=>Jp x y H2 Q
theorem E6{X:Cx}{o e:Expr}{apos eI:Pos}{td ty:TE}(hu:X.A.units+1<cLine)(ho:PE X o td)(he:PE X e ty)(m:M1 X o "pop" apos e eI):PE X (.Call (.Attribute o "pop" apos) [e] [] eI) (Oo td ty):=by
 intro pins s σ H Q I h;refine wpAny_Call_method m.base m.vB m.line PySem.F.plainAttrs_dict PySem.F.slot_dict_pop PySem.F.type_dict_pop (cI (ho pins s σ H _ I h) fun u s1 ⟨x,H1,I1,rx,a,ex,d,q1⟩=>?_);subst ex;obtain rfl:u=Value.ref a:=rx;obtain⟨t1,t2,_⟩:=Eh I1 d;refine⟨t1,t2,?_⟩;rw[m.trees];refine Calls.callWith_builtin rfl (Calls.evalArgs_plain (Calls.spliced_cons (cI (he pins s1 σ H1 _ I1 q1) fun iv s2 ⟨y,H2,I2,ry,q2⟩=>Calls.spliced_nil ?_)));obtain⟨a',b,kvs,k,v,e1,rfl,e2,e3,l,q⟩:=q2;cases e1;obtain rfl:iv=Value.ref b:=ry;exact K8 hu I2 e2 e3 l fun w' s3 I3 iE=>⟨v,_,I3,iE,q⟩
section
variable{prog:Program}{w:World}{A:Around}{E:Value→Shared→Prop}{s:Shared}{it d:Addr}{i ep:Nat}{od:Obj}{es:Array DictEntry}{Q:Option Value→Shared→Prop}
theorem E7(hit:s.heap.IsValIter it d i es.size ep)(Jq:s.heap.get? d=some od)(Jr:od.data= .dict es ep)(hi:i<es.size)
  (hQ:∀h',h'.IsValIter it d (i+1) es.size ep→Heap.SameBut it s.heap h'→Q (some es[i].val) {s with heap:=h'}):wpAny (model prog w) A (pyNext (.ref it)) Q E s:=by
 obtain⟨o,ho,hc,hd⟩:=id hit;have T:=hit.typeIs;have CP:Builtin.Dict_items.ownsTuple "dict_valueiterator"=false:=ZD;unfold pyNext;refine wpAny_bind (wpAny_attempt (wpAny_callSpecial?_slot (name:=Str.ofString "__next__") T F.slot_dict_valueiterator_next (wpAny_call_entry F.slot_dict_valueiterator_next T F.entry_dict_valueiterator_next ?_ (F.args_dict_valueiterator_next_1 _))));refine wpAny_bind (Ε (Ζ (Ζ ?_)));first|refine wpAny_bind (wpAny_typeNameOfWhole_valiter T (Ε ?_))|refine wpAny_bind (wpAny_typeNameOf_valiter T (Ε ?_))
 refine wpAny_bind (wpAny_fieldsOf ho hd ?_);simp only[CP,Bool.false_eq_true,if_false];show wpAny _ _ (if (Value.ref d==Value.none)=true then _ else _) _ _ s;rw[Z5 (show ¬((Value.ref d==Value.none)=true)from Bool.false_ne_true)];refine wpAny_bind (Ε (Ζ (wpAny_dictEntries Jq Jr ?_)));rw[if_neg ZA];refine wpAny_bind (Ε (Ζ (wpAny_dictEpoch Jq Jr ?_)));rw[if_neg ZA];refine wpAny_pure ?_;simp only[show ¬((i:Int)<0)from by lia,if_false,Int.toNat_natCast,Array.getElem?_eq_getElem hi];refine wpAny_bind ?_;first|refine wpAny_bind (wpAny_typeNameOfWhole_valiter T (Ε ?_))|refine wpAny_bind (wpAny_typeNameOf_valiter T (Ε ?_))
 refine wpAny_bind (wpAny_isOneOf_valiter T ?_);show wpAny _ _ (setField (.ref it) 1 (rawInt ((i:Int)+1))>>=_) _ _ s;refine wpAny_bind (wpAny_setField ho hd ZA ?_);have ht:(s.heap.update it (Obj.mapFields (·.setIfInBounds 1 (rawInt ((i:Int)+1))))).IsValIter it d (i+1) es.size ep:=
  ⟨_,Heap.get?_update_self _ ho (Obj.isFreed_of_fields (Obj.data_mapFields hd _)),(Obj.cls_mapFields ..).trans hc,by rw[Obj.data_mapFields hd];simp[rawInt]⟩
 refine wpAny_bind (wpAny_holding (Ζ (wpAny_isOneOf_valiter (s:={s with heap:=s.heap.update it (Obj.mapFields (·.setIfInBounds 1 (rawInt ((i:Int)+1))))}) ht.typeIs ?_)));refine wpAny_bind (wpAny_isOneOf_valiter (s:={s with heap:=s.heap.update it (Obj.mapFields (·.setIfInBounds 1 (rawInt ((i:Int)+1))))}) ht.typeIs ?_);show wpAny _ _ (pure es[i].val) _ _ _;exact Ε (Ε ⟨_,rfl,Ε (hQ _ ht (Heap.SameBut.update ..))⟩)
theorem HB(hh:A.handled=none)(hit:s.heap.IsValIter it d i es.size ep)(Jq:s.heap.get? d=some od)(Jr:od.data= .dict es ep)(hi:es.size≤i)
  (hQ:∀h',Heap.ExtBut it s.heap h'→Q none {s with heap:=h'}):wpAny (model prog w) A (pyNext (.ref it)) Q E s:=by
 obtain⟨o,ho,hc,hd⟩:=id hit;have T:=hit.typeIs;have CP:Builtin.Dict_items.ownsTuple "dict_valueiterator"=false:=ZD;unfold pyNext;refine wpAny_bind (wpAny_attempt (wpAny_callSpecial?_slot (name:=Str.ofString "__next__") T F.slot_dict_valueiterator_next (wpAny_call_entry F.slot_dict_valueiterator_next T F.entry_dict_valueiterator_next ?_ (F.args_dict_valueiterator_next_1 _))));refine wpAny_bind (Ε (Ζ (Ζ ?_)));first|refine wpAny_bind (wpAny_typeNameOfWhole_valiter T (Ε ?_))|refine wpAny_bind (wpAny_typeNameOf_valiter T (Ε ?_))
 refine wpAny_bind (wpAny_fieldsOf ho hd ?_);simp only[CP,Bool.false_eq_true,if_false];show wpAny _ _ (if (Value.ref d==Value.none)=true then _ else _) _ _ s;rw[Z5 (show ¬((Value.ref d==Value.none)=true)from Bool.false_ne_true)];refine wpAny_bind (Ε (Ζ (wpAny_dictEntries Jq Jr ?_)));rw[if_neg ZA];refine wpAny_bind (Ε (Ζ (wpAny_dictEpoch Jq Jr ?_)));rw[if_neg ZA];refine wpAny_pure ?_;simp only[show ¬((i:Int)<0)from by lia,if_false,Int.toNat_natCast,Array.getElem?_eq_none hi];refine wpAny_bind ?_;first|refine wpAny_bind (wpAny_typeNameOfWhole_valiter T (Ε ?_))|refine wpAny_bind (wpAny_typeNameOf_valiter T (Ε ?_))
 show wpAny _ _ (setField (.ref it) 0 .none>>=_) _ _ s;refine wpAny_bind (wpAny_setField ho hd ZA ?_);show wpAny _ _ (newExc (.type "StopIteration") []>>=_) _ _ _;refine wpAny_bind ?_;simp only[newExc,newTuple];refine wpAny_bind (wpAny_newObj_type ?_ (by size_fits));refine wpAny_bind (m:=firstArgMember _ _) (wpAny_of_eq (a:=Value.none) (by first|rfl|(simp only[firstArgMember];rfl)) ?_);refine wpAny_newObj_type ?_ (by size_fits);simp only[raiseNew];refine wpAny_bind (wpAny_handled ?_);rw[show A.in1.handled=none from hh];refine wpAny_bind (Ε (wpAny_throw ?_));refine wpAny_bind (wpAny_isInstance (T:="StopIteration") (b:=true) ⟨_,Heap.get?_push_size _ rfl,rfl⟩ isSubtype_stop ?_);exact Ε (hQ _ (((Heap.SameBut.update ..).extBut.push _).push _))
end
theorem vM{α β:Type}{F:α→β→Prop}:∀{l:List α}{m:List β}{i:Nat}{a:α},Paired F l m→l[i]?=some a→∃b,m[i]?=some b∧F a b
 | _,_,_,_, .nil,e=>by simp at e
 | _,_,0,_, .cons r _,e=>by simp at e;subst e;exact⟨_,rfl,r⟩
 | _,_,i+1,_, .cons _ t,e=>by
  obtain⟨b,h,f⟩:=vM (i:=i) t (by simpa using e);exact⟨b,by simpa using h,f⟩
def R8(d:Addr)(o:Obj)(kvs:List (List Key×V)):It:=
 ⟨fun i H=>H d=some (.so o (.dT kvs))∧i<kvs.length,fun i H x H'=>H'=H∧∃p,kvs[i]?=some p∧x=p.2,fun i H=>H d=some (.so o (.dT kvs))∧kvs.length≤i⟩
theorem BI{P:Program}{w:World}{H:Hp}{h:Heap}{d:Addr}{o:Obj}{kvs:List (List Key×V)}{es:Array DictEntry}{ep:Nat}(ok:lE P w H h)(e:H d=some (.so o (.dT kvs)))(hd:o.data= .dict es ep):
  h.get? d=some o∧es.size=kvs.length∧∀i (hi:i<es.size) p,kvs[i]?=some p→RelV p.2 es[i].val:=by
 obtain⟨q1,_,_,xs,r,o',yn,PB,z1,z2,z3,z4,_⟩:=ok d _ e;rw[q1]at z1;cases z1;rw[hd]at z3;cases z3;have hs:=size_of_entries z4;have hl:=Paired.length r;refine⟨q1,by rw[hs,hl],fun i hi p hp=>?_⟩;obtain⟨x,hx,rx⟩:=vM r hp;have e1:=entry_at z4 i;rw[hx,Array.getElem?_eq_getElem hi]at e1;have:es[i]=entryOfKey (tupleKind (cZ P w)) x:=Z' e1;rw[this];exact rx.2.2
theorem turn_val{P:Program}{w:World}{K:Frag}{tg:Expr}{it d:Addr}{o:Obj}{kvs:List (List Key×V)}{es:Array DictEntry}{ep:Nat}(hd:o.data= .dict es ep):Turn P w K tg (R8 d o kvs) [it] it (fun i h=>h.IsValIter it d i es.size ep) where
 mem:=ZF
 obj:=fun i h st b hb=>by
  have e:b=it:=by simpa using hb
  subst e;obtain⟨o,e,c,d⟩:=st;exact⟨o,e,fun v z=>by rw[d]at z;cases z⟩
 keep:=fun i h h' st k=>let ⟨o,ho,r⟩:=st;⟨o,k it (ZF) o ho,r⟩
 item:=by
  intro X hP hw hK hc i pins s σ H E I hf st hg;subst hP hw hK;obtain⟨hg,hi⟩:=hg;obtain⟨f0,f1,f2,f3,f4,f5⟩:=hf it (ZF);obtain⟨g1,g2,g3⟩:=BI I.bY hg hd;have Bm:i<es.size:=by lia
  refine E7 st g1 hd Bm fun h' aT sb=>?_
  have I1:Inv X pins σ H {s with heap:=h'}:=I.turned (t':=s.toks) (fun b o hb e=>(sb.2 b hb).trans e) f0 f1 f3 f4 f5;obtain⟨oi,q1,q2,q3⟩:=id aT;exact⟨_,rfl,yt (s:={s with heap:=h'}) q1 q2 q3 (ZD) ⟨_,H,I1,g3 i Bm kvs[i] (by simp[hi]),⟨rfl,kvs[i],by simp[hi],rfl⟩,aT,fun b hb=>(hf b hb).1⟩⟩
 done:=by
  intro X hP hw hK hc i pins s σ H E I hf st hg;subst hP hw hK;obtain⟨hg,hi⟩:=hg;obtain⟨f0,f1,f2,f3,f4,f5⟩:=hf it (ZF);obtain⟨g1,g2,g3⟩:=BI I.bY hg hd;exact HB (I.ok.hd hc) st g1 hd UQ fun h' eb=>⟨rfl,I.turned (t':=s.toks) (fun b o hb e=>eb b o hb e) f0 f1 f3 f4 f5⟩
 self:=fun _ _ _ _ _ st h=>wpAny_pyIter_valiter st h
section
variable{prog:Program}{w:World}{A:Around}{E:Value→Shared→Prop}{s:Shared}
theorem CQ(d:Addr)(hd:(d==sysModules)=false):MeetsIn prog w (Builtin.«dict.values» ⟨[.ref d],[]⟩) (fun _ R s=>s.TypeIs (.ref d) "dict"∧
   R (.ok (.ret (.ref s.heap.objs.size))) {s with heap:=s.heap.push {cls:= .type "dict_values",data:= .fields #[.ref d]}}):=
 .of_wp fun A R s ⟨ht,h⟩=>by
  refine wpAny_bind ?_;unfold Builtin.Dict.noArgs;refine wpAny_bind (wpAny_notOrdered_dict ht ?_);show wpAny _ _ (pure d) _ _ s;refine wpAny_pure ?_;show wpAny _ _ (Builtin.Dict.showsAll d>>=_) _ _ s;unfold Builtin.Dict.showsAll;rw[Z5 (by rw[hd];exact Bool.false_ne_true)];exact Ζ (Ε (Ζ (wpAny_newObj_type (Ε ⟨_,rfl,h⟩))))
theorem CS{v d:Addr}{od:Obj}{es:Array DictEntry}{ep:Nat}{Q:Value→Shared→Prop}(hv:s.heap.IsValuesView v d)(Jq:s.heap.get? d=some od)(Jr:od.data= .dict es ep)
  (hQ:Q (.ref s.heap.objs.size) {s with heap:=s.heap.push {cls:= .type "dict_valueiterator",data:= .fields #[.ref d, .int 0 0, .int es.size 0, .int ep 0]}}):wpAny (model prog w) A (pyIter (.ref v)) Q E s:=by
 obtain⟨ov,W7,Zd,W8⟩:=id hv;refine wpAny_pyIter_slot hv.typeIs F.slot_dict_values_iter (wpAny_call_entry F.slot_dict_values_iter hv.typeIs F.entry_dict_values_iter ?_ (F.args_dict_values_iter_1 _));unfold Builtin.«dict_values.__iter__»;refine wpAny_bind (Ε (Ζ ?_));unfold Builtin.Dict_items.dictOf;refine wpAny_bind (wpAny_field W7 W8 (x:= .ref d) rfl (Ε (Ζ ?_)));unfold Builtin.Dict_items.newIterator;refine wpAny_bind (wpAny_dictEntries Jq Jr (Ζ (wpAny_dictEpoch Jq Jr ?_)));have CP:Builtin.Dict_items.ownsTuple "dict_valueiterator"=false:=ZD;simp only[CP,Bool.false_eq_true,if_false];refine wpAny_newObj_type (Ε ⟨_,rfl,"dict_valueiterator",_,⟨_,Heap.get?_push_size _ rfl,rfl⟩,F.slot_dict_valueiterator_next.lookup,?_⟩);simpa[rawInt]using hQ
end
def Oq(eY:Hp)(tl:TE):TI:=fun σ H R=>tl σ H fun x H1=>∃d kvs,x= .ref d∧H1 d=some (.dT kvs)∧∀o,NF eY d→R (R8 d o kvs) (upd H1 d (.so o (.dT kvs)))
theorem HC{X:Cx}(eY:Hp){tg o:Expr}{tl:TE}{apos eI:Pos}(hl:PE X o tl)(oF:attributeBase o "values" X.env (eval o X.env)=eval o X.env:=by rfl)(oG:(apos.endLine==eI.line)=true:=by rfl)(hH:X.eY=eY:=by rfl):
  PI X tg (.Call (.Attribute o "values" apos) [] [] eI) (Oq eY tl):=by
 subst hH;intro pins s σ H R I h;refine wpAny_Call_method0_late oF oG (cI (hl pins s σ H _ I h) fun v s1 ⟨x,H1,I1,r1,q1⟩=>?_);obtain⟨d,kvs,e,hd,q⟩:=q1;subst e;cases r1;obtain⟨z1,z2,xs,r,o,es,ep,g1,g2,g3,g4,g5⟩:=I1.bY d _ hd;have nf:NF X.eY d:=fun o v e=>by
  have:=I1.base.om d o v e;rw[hd]at this;cases this
 refine⟨"dict",_,F.plainAttrs_dict,F.slot_dict_values,F.type_dict_values,⟨o,g1,g2.1⟩,fun b hb=>?_,Calls.callWith_builtin rfl (PySem.evalArgs_none ?_)⟩
 ·cases hb;exact⟨o,g1,g2.2.1⟩
 refine call_meetsIn F.slot_dict_values ⟨o,g1,g2.1⟩ F.entry_dict_values (F.args_dict_values_1 _) (CQ d z2) ⟨⟨o,g1,g2.1⟩,?_⟩;have W9:=Heap.get?_push_of_some {cls:= .type "dict_values",data:= .fields #[.ref d]} g1;refine CS (s:={s1 with heap:=s1.heap.push {cls:= .type "dict_values",data:= .fields #[.ref d]}}) ⟨_,Heap.get?_push_size _ rfl,rfl,rfl⟩ W9 g3 ?_;have Iz:Inv X pins σ (upd H1 d (.so o (.dT kvs))) s1:=I1.swap hd (fun _ z=>nomatch z) (fun _ z=>nomatch z) (fun _ z=>nomatch z) nf ⟨g1,z1,z2,xs,KT.keeps r (fun c ys ec=>by rw[aj (iY ec hd (fun z=>nomatch z))];exact ec),o,es,ep,g1,g2,g3,g4,g5⟩;have I2:=Iz.kept (t':=s1.toks) fun b o e=>Heap.get?_push_of_some {cls:= .type "dict_values",data:= .fields #[.ref d]} e
 refine⟨_,[_],_,_,_,rfl,I2.kept (t':=s1.toks) fun b o e=>Z6 e,turn_val (o:=o) (kvs:=kvs) g3,⟨_,Heap.get?_push_size _ rfl,rfl,rfl⟩,fun b hb=>?_,q o nf⟩;have e:b=(s1.heap.push {cls:= .type "dict_values",data:= .fields #[.ref d]}).objs.size:=by simpa using hb
 subst e;exact I2.uC Λ (I2.bY.fresh Λ)
structure An(n:Nat)(lt:Nat→Nat→Bool):Prop where
 tr:∀i j k,i<n→j<n→k<n→lt i j=true→lt j k=true→lt i k=true
 as:∀i j,i<n→j<n→lt i j=true→lt j i=false
 R9:∀i j,i<n→j<n→i≠j→lt i j=true∨lt j i=true
def ye(n:Nat)(p:Array Nat):Prop:=p.toList.Perm (Ι n)
abbrev gd(p:Array Nat)(k:Nat):Nat:=p.getD k 0
theorem E8(p:Array Nat)(k:Nat):gd p k=(p[k]?).getD 0:=by unfold gd;rw[Array.getD_eq_getD_getElem?]
theorem ye.size{n:Nat}{p:Array Nat}(h:ye n p):p.size=n:=by have:=h.length_eq;simpa using this
def Sd(lt:Nat→Nat→Bool)(p:Array Nat)(m:Nat):Prop:=∀i j,i<j→j<m→lt (gd p i) (gd p j)=true
section
variable{n:Nat}{lt:Nat→Nat→Bool}(L:An n lt)
include L
omit L in
omit L in
omit L in
end
def yQ:Bool→Keyed→Array Keyed→Nat→Nat→Nat→StateT SortSt Sem (Option Nat):=sortPriv%PySem.Builtin.gallop
def K9:Array Keyed→Array Keyed→StateT SortSt Sem (Array Keyed):=sortPriv%PySem.Builtin.mergeLo
def K_:Array Keyed→Array Keyed→StateT SortSt Sem (Array Keyed):=sortPriv%PySem.Builtin.mergeHi
def Ao(l:Bool)(key:Keyed)(xs:Array Keyed)(b i:Nat):StateT SortSt Sem (Option Bool):=do
 let x←elem' xs (b+i)
 if l then lt' x key else return (←lt' key x).map (!·)
theorem HE(l:Bool)(key:Keyed)(xs:Array Keyed)(b n h:Nat):yQ l key xs b n h=(do
 let mut u:=0
 let mut v:=1
 let mut lo:=0
 let mut hi:=0
 let some r←Ao l key xs b h|return none
 if r then
  let mx:=n-h
  for _ in [0:n] do
   if v≥mx then break
   let some z←Ao l key xs b (h+v)|return none
   if !z then break
   u:=v
   v:=2*v+1
  lo:=h+u+1
  hi:=h+min v mx
 else
  let mx:=h+1
  for _ in [0:n] do
   if v≥mx then break
   let some z←Ao l key xs b (h-v)|return none
   if z then break
   u:=v
   v:=2*v+1
  lo:=h+1-min v mx
  hi:=h-u
 for _ in [0:n] do
  if lo≥hi then break
  let m:=lo+(hi-lo)/2
  let some z←Ao l key xs b m|return none
  if z then lo:=m+1 else hi:=m
 return some hi):=rfl
section
variable{prog:Program}{w:World}{A:Around}{E:Value→Shared→Prop}{s:Shared}
structure E9(prog:Program)(w:World)(A:Around)(s:Shared)(X:List Keyed)(κ:SortKind)(lt:Keyed→Keyed→Bool):Prop where
 run:∀x∈X,∀y∈X,∀C:Bool→Shared→Prop,C (lt x y) s→wpAny (model prog w) A (keyLt' κ x.1 y.1) C (fun _ _=>False) s
 tr:∀x∈X,∀y∈X,∀z∈X,lt x y=true→lt y z=true→lt x z=true
 as:∀x∈X,∀y∈X,lt x y=true→lt y x=false
 R9:∀x∈X,∀y∈X,x≠y→lt x y=true∨lt y x=true
 nd:X.Nodup
variable{X:List Keyed}{κ:SortKind}{lt:Keyed→Keyed→Bool}(C:E9 prog w A s X κ lt)
include C
theorem E9.no{x y:Keyed}(h1:x∈X)(h2:y∈X)(hn:x≠y)(h:lt x y=false):lt y x=true:=(C.R9 x h1 y h2 hn).resolve_left (by rw[h];simp)
theorem E9.ask{st:SortSt}{x y:Keyed}{Q:Option Bool→SortSt→Prop}(hk:kindOf st=κ)(h1:x∈X)(h2:y∈X)(h:Q (some (lt x y)) st):wpS (model prog w) A E s (lt' x y) Q st:=by
 rw[lt'_eq];refine wpS_bind (wpS_get ?_);rw[hk];refine wpS_bind (wpS_lift (wpAny_attempt (wpAny_mono (C.run x h1 y h2 (fun b s'=>b=lt x y∧s'=s) ⟨rfl,rfl⟩) ?_ fun _ _ e=>e.elim)));rintro b s' ⟨rfl,rfl⟩;exact⟨rfl,wpS_pure h⟩
omit C in
theorem e7{st:SortSt}{xs:Array Keyed}{i:Nat}{x:Keyed}{Q:Keyed→SortSt→Prop}(e:xs[i]?=some x)(h:Q x st):wpS (model prog w) A E s (elem' xs i) Q st:=by
 rw[elem'_eq,e];exact wpS_pure h
def lr(lt:Keyed→Keyed→Bool)(l:Bool)(key x:Keyed):Bool:=if l then lt x key else !lt key x
theorem sE{st:SortSt}{l:Bool}{key x:Keyed}{xs:Array Keyed}{b i:Nat}{Q:Option Bool→SortSt→Prop}(hk:kindOf st=κ)(h1:key∈X)(h2:x∈X)(e:xs[b+i]?=some x)(h:Q (some (lr lt l key x)) st):wpS (model prog w) A E s (Ao l key xs b i) Q st:=by
 unfold Ao;refine wpS_bind (e7 e ?_);cases l with
 |true=>exact C.ask hk h2 h1 h
 |false=>exact wpS_bind (C.ask hk h1 h2 (wpS_pure h))
theorem qz{st:SortSt}{l:Bool}{key:Keyed}{xs:Array Keyed}{b n h:Nat}{Q:Option Nat→SortSt→Prop}(g:Nat→Keyed)(hk:kindOf st=κ)(h1:key∈X)(hg:∀i,i<n→xs[b+i]?=some (g i)∧g i∈X)(RL:∀i j,i<j→j<n→lt (g i) (g j)=true)(hh:h<n)
  (q:∀k,k≤n→(∀i,i<k→lr lt l key (g i)=true)→(∀i,k≤i→i<n→lr lt l key (g i)=false)→Q (some k) st):wpS (model prog w) A E s (yQ l key xs b n h) Q st:=by
 have dn:∀i j,i≤j→j<n→lr lt l key (g j)=true→lr lt l key (g i)=true:=fun i j uy hj hb=>by
  by_cases e:i=j
  ·rw[e];exact hb
  have hl:=RL i j UQ hj;unfold lr at hb⊢;cases l with
  |true=>exact C.tr _ (hg i UQ).2 _ (hg j hj).2 _ h1 hl hb
  |false=>
   simp only[Bool.false_eq_true,if_false,Bool.not_eq_true']at hb⊢;cases e2:lt key (g i)with
   |false=>rfl
   |true=>rw[C.tr _ h1 _ (hg i UQ).2 _ (hg j hj).2 e2 hl]at hb;cases hb
 have up:∀i j,i≤j→j<n→lr lt l key (g i)=false→lr lt l key (g j)=false:=fun i j uy hj hb=>by
  cases e:lr lt l key (g j)with
  |false=>rfl
  |true=>rw[dn i j uy hj e]at hb;cases hb
 have bin:∀lo hi,lo≤hi→hi≤n→(∀i,i<lo→lr lt l key (g i)=true)→(∀i,hi≤i→i<n→lr lt l key (g i)=false)→wpS (model prog w) A E s (do
   let r←forIn [0:n] ((none,lo,hi):Option (Option Nat)×Nat×Nat) fun _ __s=>
    if __s.2.1≥__s.2.2 then pure (ForInStep.done (none,__s.2.1,__s.2.2))
    else do
     let __x←Ao l key xs b (__s.2.1+(__s.2.2-__s.2.1)/2)
     match __x with
     |some z=>if z=true then pure (ForInStep.yield (none,__s.2.1+(__s.2.2-__s.2.1)/2+1,__s.2.2))else pure (ForInStep.yield (none,__s.2.1,__s.2.1+(__s.2.2-__s.2.1)/2))
     | _=>pure (ForInStep.done (some none,__s.2.1,__s.2.2))
   match r.1 with
   |some r=>pure r
   |none=>pure (some r.2.2)) Q st:=fun lo hi h2 h3 h4 h5=>by
  refine wpS_bind (wpS_mono (wpS_forRange (I:=fun x c aT=>aT=st∧∃lo hi,c=(none,lo,hi)∧lo≤hi∧hi≤n∧(∀i,i<lo→lr lt l key (g i)=true)∧(∀i,hi≤i→i<n→lr lt l key (g i)=false)∧hi-lo+x≤n) (Q:=fun c aT=>aT=st∧∃k,c.1=none∧c.2.2=k∧k≤n∧(∀i,i<k→lr lt l key (g i)=true)∧(∀i,k≤i→i<n→lr lt l key (g i)=false)) ?_ ?_ ⟨rfl,lo,hi,rfl,h2,h3,h4,h5,by lia⟩) ?_)
  ·rintro x c aT _ hx ⟨rfl,lo,hi,rfl,a1,a2,a3,a4,a5⟩;dsimp only;by_cases UX:lo≥hi
   ·rw[Z7 UX];have:lo=hi:=by lia
    subst this;exact wpS_pure ⟨rfl,lo,rfl,rfl,a2,a3,a4⟩
   ·rw[Z5 UX];have hm:lo+(hi-lo)/2<n:=by lia
    obtain⟨g1,g2⟩:=hg _ hm;refine wpS_bind (sE C hk h1 g2 g1 ?_);dsimp only;cases e:lr lt l key (g (lo+(hi-lo)/2))with
    |true=>
     simp only[if_true];exact wpS_pure ⟨rfl,_,hi,rfl,by lia,a2,fun i Bm=>dn i _ (by lia) hm e,a4,by lia⟩
    |false=>
     simp only[Bool.false_eq_true,if_false];exact wpS_pure ⟨rfl,lo,_,rfl,by lia,by lia,a3,fun i Bm oj=>up _ i Bm oj e,by lia⟩
  ·rintro c aT ⟨rfl,lo,hi,rfl,a1,a2,a3,a4,a5⟩;have:lo=hi:=by lia
   subst this;exact⟨rfl,lo,rfl,rfl,a2,a3,a4⟩
  ·rintro⟨c1,c2,c3⟩ aT ⟨rfl,k,e1,e2,a2,a3,a4⟩;dsimp only at e1 e2⊢;subst e1 e2;exact wpS_pure (q _ a2 a3 a4)
 rw[HE];obtain⟨W_,Xa⟩:=hg h hh;refine wpS_bind (sE C hk h1 Xa W_ ?_);dsimp only;cases e:lr lt l key (g h)with
 |true=>
  simp only[if_true];refine wpS_bind (wpS_mono (wpS_forRange (I:=fun x c aT=>aT=st∧∃u v,c=(none,u,v)∧u<v∧h+u<n∧lr lt l key (g (h+u))=true∧x<v) (Q:=fun c aT=>aT=st∧∃u v,c=(none,u,v)∧u<v∧h+u<n∧lr lt l key (g (h+u))=true∧(n-h≤v∨(h+v<n∧lr lt l key (g (h+v))=false))) ?_ ?_ ⟨rfl,0,1,rfl,by lia,by lia,e,by lia⟩) ?_)
  ·rintro x c aT _ hx ⟨rfl,u,v,rfl,a1,a2,a3,a4⟩;dsimp only;by_cases hv:v≥n-h
   ·rw[Z7 hv];exact wpS_pure ⟨rfl,u,v,rfl,a1,a2,a3, .inl hv⟩
   ·rw[Z5 hv];obtain⟨g1,g2⟩:=hg (h+v) (by lia);refine wpS_bind (sE C hk h1 g2 g1 ?_);dsimp only;cases e2:lr lt l key (g (h+v))with
    |false=>
     simp only[Bool.not_false,if_true];exact wpS_pure ⟨rfl,u,v,rfl,a1,a2,a3, .inr ⟨by lia,e2⟩⟩
    |true=>
     simp only[Bool.not_true,Bool.false_eq_true,if_false];exact wpS_pure ⟨rfl,v,2*v+1,rfl,by lia,by lia,e2,by lia⟩
  ·rintro c aT ⟨rfl,u,v,rfl,a1,a2,a3,a4⟩;exact⟨rfl,u,v,rfl,a1,a2,a3, .inl UQ⟩
  ·rintro c aT ⟨rfl,u,v,rfl,a1,a2,a3,a4⟩;dsimp only;refine Eq.mp (by kernel_rfl) (bin (h+u+1) (h+min v (n-h)) (by lia) (by lia) (fun i hi=>dn i (h+u) (by lia) a2 a3) fun i hi oj=>?_);rcases a4 with a4|⟨a4,a5⟩
   ·lia
   ·exact up (h+v) i UQ oj a5
 |false=>
  simp only[Bool.false_eq_true,if_false];refine wpS_bind (wpS_mono (wpS_forRange (I:=fun x c aT=>aT=st∧∃u v,c=(none,u,v)∧u<v∧u≤h∧lr lt l key (g (h-u))=false∧x<v) (Q:=fun c aT=>aT=st∧∃u v,c=(none,u,v)∧u<v∧u≤h∧lr lt l key (g (h-u))=false∧(h+1≤v∨(v≤h∧lr lt l key (g (h-v))=true))) ?_ ?_ ⟨rfl,0,1,rfl,by lia,by lia,e,by lia⟩) ?_)
  ·rintro x c aT _ hx ⟨rfl,u,v,rfl,a1,a2,a3,a4⟩;dsimp only;by_cases hv:v≥h+1
   ·rw[Z7 hv];exact wpS_pure ⟨rfl,u,v,rfl,a1,a2,a3, .inl hv⟩
   ·rw[Z5 hv];obtain⟨g1,g2⟩:=hg (h-v) (by lia);refine wpS_bind (sE C hk h1 g2 g1 ?_);dsimp only;cases e2:lr lt l key (g (h-v))with
    |true=>
     simp only[if_true];exact wpS_pure ⟨rfl,u,v,rfl,a1,a2,a3, .inr ⟨by lia,e2⟩⟩
    |false=>
     simp only[Bool.false_eq_true,if_false];exact wpS_pure ⟨rfl,v,2*v+1,rfl,by lia,by lia,e2,by lia⟩
  ·rintro c aT ⟨rfl,u,v,rfl,a1,a2,a3,a4⟩;exact⟨rfl,u,v,rfl,a1,a2,a3, .inl UQ⟩
  ·rintro c aT ⟨rfl,u,v,rfl,a1,a2,a3,a4⟩;dsimp only;refine Eq.mp (by kernel_rfl) (bin (h+1-min v (h+1)) (h-u) (by lia) (by lia) (fun i hi=>?_) fun i hi oj=>up (h-u) i UQ oj a3);rcases a4 with a4|⟨a4,a5⟩
   ·lia
   ·exact dn i (h-v) (by lia) (by lia) a5
end
def setG(g:Nat):StateT SortSt Sem Unit:=modify fun st=>SortSt.mk' (kindOf st) (WU st) (Δ st) g (failedOf st)
def Gs(a b out:Array Keyed)(i j:Nat):Array Keyed:=out++a.extract i a.size++b.extract j b.size
def Mx(a b out:Array Keyed)(i j:Nat):Array Keyed:=out++b.extract j b.size++a.extract i a.size
abbrev S1:=Option (Array Keyed)×Array Keyed×Nat×Nat×Nat×Nat
abbrev S2:=Option (Array Keyed)×Array Keyed×Nat×Nat×Nat×Nat×Nat
abbrev S3:=Option (Array Keyed)×Array Keyed×Nat×Nat×Nat
def lo1(a b:Array Keyed)(mg:Nat)(c:S1):StateT SortSt Sem (ForInStep S1):=do
 let y←elem' b c.2.2.2.1
 let x←elem' a c.2.2.1
 let z←lt' y x
 match z with
 |some bw=>
  if bw=true then do
   let y←elem' b c.2.2.2.1
   if (c.2.2.2.1+1==b.size)=true then pure (.done (some (Gs a b (c.2.1.push y) c.2.2.1 (c.2.2.2.1+1)),c.2.1.push y,c.2.2.1,c.2.2.2.1+1,0,c.2.2.2.2.2+1))
   else if c.2.2.2.2.2+1≥mg then pure (.done (none,c.2.1.push y,c.2.2.1,c.2.2.2.1+1,0,c.2.2.2.2.2+1))
   else pure (.yield (none,c.2.1.push y,c.2.2.1,c.2.2.2.1+1,0,c.2.2.2.2.2+1))
  else do
   let x←elem' a c.2.2.1
   if (c.2.2.1+1+1==a.size)=true then pure (.done (some (Mx a b (c.2.1.push x) (c.2.2.1+1) c.2.2.2.1),c.2.1.push x,c.2.2.1+1,c.2.2.2.1,c.2.2.2.2.1+1,0))
   else if c.2.2.2.2.1+1≥mg then pure (.done (none,c.2.1.push x,c.2.2.1+1,c.2.2.2.1,c.2.2.2.2.1+1,0))
   else pure (.yield (none,c.2.1.push x,c.2.2.1+1,c.2.2.2.1,c.2.2.2.2.1+1,0))
 | _=>pure (.done (some (Gs a b c.2.1 c.2.2.1 c.2.2.2.1),c.2.1,c.2.2.1,c.2.2.2.1,c.2.2.2.2.1,c.2.2.2.2.2))
def P8(a b o:Array Keyed)(i j mg k l:Nat):StateT SortSt Sem (ForInStep S2):=do
 let x←elem' a i
 if (i+1+1==a.size)=true then pure (.done (some (Mx a b (o.push x) (i+1) j),o.push x,i+1,j,mg,k,l))
 else if (decide (k<7)&&decide (l<7))=true then pure (.done (none,o.push x,i+1,j,mg,k,l))
 else pure (.yield (none,o.push x,i+1,j,mg,k,l))
def R_(a b o:Array Keyed)(i j mg k bc:Nat):StateT SortSt Sem (ForInStep S2):=do
 let x←elem' a i
 let z←yQ true x b j (b.size-j) 0
 match z with
 |some l=>if l>0 then(if (j+l==b.size)=true then pure (.done (some (Gs a b (o++b.extract j (j+l)) i (j+l)),o++b.extract j (j+l),i,j+l,mg,k,l))else P8 a b (o++b.extract j (j+l)) i (j+l) mg k l)else P8 a b o i j mg k l
 | _=>pure (.done (some (Gs a b o i j),o,i,j,mg,k,bc))
def P9(a b o:Array Keyed)(i j mg k bc:Nat):StateT SortSt Sem (ForInStep S2):=do
 let y←elem' b j
 if (j+1==b.size)=true then pure (.done (some (Gs a b (o.push y) i (j+1)),o.push y,i,j+1,mg,k,bc))else R_ a b (o.push y) i (j+1) mg k bc
def P_(a b o:Array Keyed)(i j mg ac bc:Nat):StateT SortSt Sem (ForInStep S2):=do
 setG mg
 let y←elem' b j
 let z←yQ false y a i (a.size-i) 0
 match z with
 |some k=>if k>0 then(if (i+k+1==a.size)=true then pure (.done (some (Mx a b (o++a.extract i (i+k)) (i+k) j),o++a.extract i (i+k),i+k,j,mg,k,bc))else if (i+k==a.size)=true then pure (.done (some (Gs a b (o++a.extract i (i+k)) (i+k) j),o++a.extract i (i+k),i+k,j,mg,k,bc))else P9 a b (o++a.extract i (i+k)) (i+k) j mg k bc)else P9 a b o i j mg k bc
 | _=>pure (.done (some (Gs a b o i j),o,i,j,mg,ac,bc))
def Se(a b:Array Keyed)(c:S2):StateT SortSt Sem (ForInStep S2):=if c.2.2.2.2.1>1 then P_ a b c.2.1 c.2.2.1 c.2.2.2.1 (c.2.2.2.2.1-1) c.2.2.2.2.2.1 c.2.2.2.2.2.2 else P_ a b c.2.1 c.2.2.1 c.2.2.2.1 c.2.2.2.2.1 c.2.2.2.2.2.1 c.2.2.2.2.2.2
def Sg(a b:Array Keyed)(c:S3):StateT SortSt Sem (ForInStep S3):=do
 let t←forIn [0:a.size+b.size] ((none,c.2.1,c.2.2.1,c.2.2.2.1,0,0):S1) (fun _=>lo1 a b c.2.2.2.2)
 match t.1 with
 |some r=>pure (.done (some r,t.2.1,t.2.2.1,t.2.2.2.1,c.2.2.2.2))
 |none=>do
  liftM (rule "list.sort.gallop")
  let u←forIn [0:a.size+b.size] ((none,t.2.1,t.2.2.1,t.2.2.2.1,c.2.2.2.2+1,t.2.2.2.2.1,t.2.2.2.2.2):S2) (fun _=>Se a b)
  match u.1 with
  |some r=>pure (.done (some r,u.2.1,u.2.2.1,u.2.2.2.1,u.2.2.2.2.1))
  |none=>do
   setG (u.2.2.2.2.1+1)
   pure (.yield (none,u.2.1,u.2.2.1,u.2.2.2.1,u.2.2.2.2.1+1))
theorem HF(a b:Array Keyed):K9 a b=(do
 liftM (rule "list.sort.merge-lo")
 let y←elem' b 0
 if (1==b.size)=true then pure (Gs a b #[y] 0 1)
 else if (0+1==a.size)=true then pure (Mx a b #[y] 0 1)
 else do
  let g←get
  let t←forIn [0:a.size+b.size] ((none,#[y],0,1,gallopOf g):S3) (fun _=>Sg a b)
  match t.1 with
  |some r=>pure r
  |none=>unsupported "internal:list.sort.merge-bound"):=by kernel_rfl
def Gu(a b o:Array Keyed)(i j:Nat):Array Keyed:=a.extract 0 i++b.extract 0 j++o.reverse
def My(a b o:Array Keyed)(i j:Nat):Array Keyed:=b.extract 0 j++a.extract 0 i++o.reverse
abbrev T1:=Option (Array Keyed)×Nat×Nat×Array Keyed×Nat×Nat
abbrev T2:=Option (Array Keyed)×Nat×Nat×Array Keyed×Nat×Nat×Nat
abbrev T3:=Option (Array Keyed)×Nat×Nat×Array Keyed×Nat
def Sh(a b:Array Keyed)(mg:Nat)(c:T1):StateT SortSt Sem (ForInStep T1):=do
 let y←elem' b (c.2.2.1-1)
 let x←elem' a (c.2.1-1)
 let z←lt' y x
 match z with
 |some aw=>
  if aw=true then do
   let x←elem' a (c.2.1-1)
   if (c.2.1-1==0)=true then pure (.done (some (Gu a b (c.2.2.2.1.push x) (c.2.1-1) c.2.2.1),c.2.1-1,c.2.2.1,c.2.2.2.1.push x,c.2.2.2.2.1+1,0))
   else if c.2.2.2.2.1+1≥mg then pure (.done (none,c.2.1-1,c.2.2.1,c.2.2.2.1.push x,c.2.2.2.2.1+1,0))
   else pure (.yield (none,c.2.1-1,c.2.2.1,c.2.2.2.1.push x,c.2.2.2.2.1+1,0))
  else do
   let y←elem' b (c.2.2.1-1)
   if (c.2.2.1-1==1)=true then pure (.done (some (My a b (c.2.2.2.1.push y) c.2.1 (c.2.2.1-1)),c.2.1,c.2.2.1-1,c.2.2.2.1.push y,0,c.2.2.2.2.2+1))
   else if c.2.2.2.2.2+1≥mg then pure (.done (none,c.2.1,c.2.2.1-1,c.2.2.2.1.push y,0,c.2.2.2.2.2+1))
   else pure (.yield (none,c.2.1,c.2.2.1-1,c.2.2.2.1.push y,0,c.2.2.2.2.2+1))
 | _=>pure (.done (some (Gu a b c.2.2.2.1 c.2.1 c.2.2.1),c.2.1,c.2.2.1,c.2.2.2.1,c.2.2.2.2.1,c.2.2.2.2.2))
def Qa(a b o:Array Keyed)(i j mg k l:Nat):StateT SortSt Sem (ForInStep T2):=do
 let x←elem' a (i-1)
 if (i-1==0)=true then pure (.done (some (Gu a b (o.push x) (i-1) j),i-1,j,o.push x,mg,k,l))
 else if (decide (k<7)&&decide (l<7))=true then pure (.done (none,i-1,j,o.push x,mg,k,l))
 else pure (.yield (none,i-1,j,o.push x,mg,k,l))
def Qb(a b o:Array Keyed)(i j mg k bc:Nat):StateT SortSt Sem (ForInStep T2):=do
 let x←elem' a (i-1)
 let z←yQ true x b 0 j (j-1)
 match z with
 |some t=>if j-t>0 then(if (t==1)=true then pure (.done (some (My a b (o++(b.extract t j).reverse) i t),i,t,o++(b.extract t j).reverse,mg,k,j-t))else if (t==0)=true then pure (.done (some (Gu a b (o++(b.extract t j).reverse) i t),i,t,o++(b.extract t j).reverse,mg,k,j-t))else Qa a b (o++(b.extract t j).reverse) i t mg k (j-t))else Qa a b o i j mg k (j-t)
 | _=>pure (.done (some (Gu a b o i j),i,j,o,mg,k,bc))
def Qc(a b o:Array Keyed)(i j mg k bc:Nat):StateT SortSt Sem (ForInStep T2):=do
 let y←elem' b (j-1)
 if (j-1==1)=true then pure (.done (some (My a b (o.push y) i (j-1)),i,j-1,o.push y,mg,k,bc))else Qb a b (o.push y) i (j-1) mg k bc
def Gv(a b o:Array Keyed)(i j mg ac bc:Nat):StateT SortSt Sem (ForInStep T2):=do
 setG mg
 let y←elem' b (j-1)
 let z←yQ false y a 0 i (i-1)
 match z with
 |some t=>if i-t>0 then(if (t==0)=true then pure (.done (some (Gu a b (o++(a.extract t i).reverse) t j),t,j,o++(a.extract t i).reverse,mg,i-t,bc))else Qc a b (o++(a.extract t i).reverse) t j mg (i-t) bc)else Qc a b o i j mg (i-t) bc
 | _=>pure (.done (some (Gu a b o i j),i,j,o,mg,ac,bc))
def Si(a b:Array Keyed)(c:T2):StateT SortSt Sem (ForInStep T2):=if c.2.2.2.2.1>1 then Gv a b c.2.2.2.1 c.2.1 c.2.2.1 (c.2.2.2.2.1-1) c.2.2.2.2.2.1 c.2.2.2.2.2.2 else Gv a b c.2.2.2.1 c.2.1 c.2.2.1 c.2.2.2.2.1 c.2.2.2.2.2.1 c.2.2.2.2.2.2
def Sj(a b:Array Keyed)(c:T3):StateT SortSt Sem (ForInStep T3):=do
 let t←forIn [0:a.size+b.size] ((none,c.2.1,c.2.2.1,c.2.2.2.1,0,0):T1) (fun _=>Sh a b c.2.2.2.2)
 match t.1 with
 |some r=>pure (.done (some r,t.2.1,t.2.2.1,t.2.2.2.1,c.2.2.2.2))
 |none=>do
  liftM (rule "list.sort.gallop")
  let u←forIn [0:a.size+b.size] ((none,t.2.1,t.2.2.1,t.2.2.2.1,c.2.2.2.2+1,t.2.2.2.2.1,t.2.2.2.2.2):T2) (fun _=>Si a b)
  match u.1 with
  |some r=>pure (.done (some r,u.2.1,u.2.2.1,u.2.2.2.1,u.2.2.2.2.1))
  |none=>do
   setG (u.2.2.2.2.1+1)
   pure (.yield (none,u.2.1,u.2.2.1,u.2.2.2.1,u.2.2.2.2.1+1))
theorem HH(a b:Array Keyed):K_ a b=(do
 liftM (rule "list.sort.merge-hi")
 let x←elem' a (a.size-1)
 if (a.size-1==0)=true then pure (Gu a b #[x] (a.size-1) b.size)
 else if (b.size==1)=true then pure (My a b #[x] (a.size-1) b.size)
 else do
  let g←get
  let t←forIn [0:a.size+b.size] ((none,a.size-1,b.size,#[x],gallopOf g):T3) (fun _=>Sj a b)
  match t.1 with
  |some r=>pure r
  |none=>unsupported "internal:list.sort.merge-bound"):=by kernel_rfl
theorem lP{α:Type}{l:List α}{i:Nat}{x:α}:x∈l.drop i↔∃t:Nat,l[i+t]?=some x:=by
 rw[List.mem_iff_getElem?];simp only[List.getElem?_drop]
theorem tI{α:Type}{l:List α}{i k:Nat}{x:α}:x∈(l.drop i).take k↔∃t:Nat,t<k∧l[i+t]?=some x:=by
 rw[List.mem_iff_getElem?];constructor
 ·rintro⟨t,ht⟩;rw[List.getElem?_take]at ht;split at ht
  ·rw[List.getElem?_drop]at ht;exact⟨t,by assumption,ht⟩
  ·cases ht
 ·rintro⟨t,h1,h2⟩;exact⟨t,by rw[List.getElem?_take,Z7 h1,List.getElem?_drop];exact h2⟩
theorem oT{α:Type}{l:List α}{i:Nat}{x:α}(h:l[i]?=some x):l.drop i=x::l.drop (i+1):=by
 obtain⟨h1,h2⟩:=ZO h;rw[List.drop_eq_getElem_cons h1,h2]
theorem oU{α:Type}(l:List α)(i k:Nat):l.drop i=(l.drop i).take k++l.drop (i+k):=by
 rw[←List.drop_drop,List.take_append_drop]
abbrev Pw(lt:Keyed→Keyed→Bool)(l:List Keyed):Prop:=l.Pairwise fun x y=>lt x y=true
theorem Pw.at{lt:Keyed→Keyed→Bool}{l:List Keyed}(h:Pw lt l){i j:Nat}{x y:Keyed}(uy:i<j)(hx:l[i]?=some x)(hy:l[j]?=some y):lt x y=true:=by
 obtain⟨h1,e1⟩:=ZO hx;obtain⟨h2,e2⟩:=ZO hy;have:=List.pairwise_iff_getElem.mp h i j h1 h2 uy;rw[e1,e2]at this;exact this
section
variable{X:List Keyed}{lt:Keyed→Keyed→Bool}{P Q:List Keyed}
structure MC(X:List Keyed)(lt:Keyed→Keyed→Bool)(P Q:List Keyed):Prop where
 sa:Pw lt P
 sb:Pw lt Q
 ia:∀x∈P,x∈X
 ib:∀x∈Q,x∈X
 ne:∀x∈P,∀y∈Q,x≠y
 fst:∀x∈P,∀y,Q[0]?=some y→lt y x=true
 lst:∀y∈Q,∀x,P[P.length-1]?=some x→lt y x=true
structure ML(lt:Keyed→Keyed→Bool)(P Q O:List Keyed)(i j:Nat):Prop where
 hi:i≤P.length
 hj:j≤Q.length
 qc:Pw lt O
 low:∀x∈O,∀y,y∈P.drop i∨y∈Q.drop j→lt x y=true
 HI:(O++(P.drop i++Q.drop j)).Perm (P++Q)
def MG(lt:Keyed→Keyed→Bool)(P Q R:List Keyed):Prop:=R.Perm (P++Q)∧Pw lt R
theorem ML.a{O:List Keyed}{i j k:Nat}(M:MC X lt P Q)(m:ML lt P Q O i j)(hk:i+k≤P.length)(h:∀x∈(P.drop i).take k,∀y∈Q.drop j,lt x y=true):ML lt P Q (O++(P.drop i).take k) (i+k) j:=by
 have sp:=oU P i k;have sd:Pw lt (P.drop i):=M.sa.sublist (List.drop_sublist _ _);rw[sp]at sd;obtain⟨s1,s2,s3⟩:=List.pairwise_append.mp sd;refine⟨hk,m.hj,List.pairwise_append.mpr ⟨m.qc,s1,fun x hx y hy=>m.low x hx y (.inl (List.mem_of_mem_take hy))⟩,fun x hx y hy=>?_,?_⟩
 ·rcases List.mem_append.mp hx with hx|hx
  ·exact m.low x hx y (hy.imp (fun z=>by rw[sp];exact γ z) id)
  ·rcases hy with hy|hy
   ·exact s3 x hx y hy
   ·exact h x hx y hy
 ·have:=m.HI;rw[sp]at this;rw[List.append_assoc,←List.append_assoc ((P.drop i).take k)];exact this
theorem ML.b{O:List Keyed}{i j k:Nat}(M:MC X lt P Q)(m:ML lt P Q O i j)(hk:j+k≤Q.length)(h:∀y∈(Q.drop j).take k,∀x∈P.drop i,lt y x=true):ML lt P Q (O++(Q.drop j).take k) i (j+k):=by
 have sp:=oU Q j k;have sd:Pw lt (Q.drop j):=M.sb.sublist (List.drop_sublist _ _);rw[sp]at sd;obtain⟨s1,s2,s3⟩:=List.pairwise_append.mp sd;refine⟨m.hi,hk,List.pairwise_append.mpr ⟨m.qc,s1,fun x hx y hy=>m.low x hx y (.inr (List.mem_of_mem_take hy))⟩,fun x hx y hy=>?_,?_⟩
 ·rcases List.mem_append.mp hx with hx|hx
  ·exact m.low x hx y (hy.imp id (fun z=>by rw[sp];exact γ z))
  ·rcases hy with hy|hy
   ·exact h x hx y hy
   ·exact s3 x hx y hy
 ·have:=m.HI;rw[sp]at this;refine List.Perm.trans ?_ this;rw[List.append_assoc];refine List.Perm.append_left O ?_;rw[←List.append_assoc,←List.append_assoc];exact List.Perm.append_right _ List.perm_append_comm
theorem ML.dn{O:List Keyed}{i j:Nat}(M:MC X lt P Q)(m:ML lt P Q O i j)(h:i=P.length∨j=Q.length):MG lt P Q (O++P.drop i++Q.drop j):=by
 refine⟨by rw[List.append_assoc];exact m.HI,?_⟩;have sa:Pw lt (P.drop i):=M.sa.sublist (List.drop_sublist _ _);have sb:Pw lt (Q.drop j):=M.sb.sublist (List.drop_sublist _ _);rw[List.append_assoc];refine List.pairwise_append.mpr ⟨m.qc,List.pairwise_append.mpr ⟨sa,sb,fun x hx y hy=>?_⟩,fun x hx y hy=>m.low x hx y (List.mem_append.mp hy)⟩;rcases h with h|h
 ·rw[h,List.drop_length]at hx;cases hx
 ·rw[h,List.drop_length]at hy;cases hy
theorem ML.ls{O:List Keyed}{i j:Nat}(M:MC X lt P Q)(m:ML lt P Q O i j)(h:i+1=P.length):MG lt P Q (O++Q.drop j++P.drop i):=by
 have sa:Pw lt (P.drop i):=M.sa.sublist (List.drop_sublist _ _);have sb:Pw lt (Q.drop j):=M.sb.sublist (List.drop_sublist _ _);rw[List.append_assoc];refine⟨(List.Perm.append_left O List.perm_append_comm).trans m.HI,List.pairwise_append.mpr ⟨m.qc,List.pairwise_append.mpr ⟨sb,sa,fun y hy x hx=>?_⟩,fun x hx y hy=>m.low x hx y (List.mem_append.mp hy).symm⟩⟩;obtain⟨t,ht⟩:=lP.mp hx;have hl:=(ZO ht).1;exact M.lst y (List.mem_of_mem_drop hy) x (by rw[←ht];congr 1;lia)
end
def Eg(st aT:SortSt):Prop:=kindOf aT=kindOf st∧arrOf aT=arrOf st∧pendingOf aT=pendingOf st∧failedOf aT=failedOf st
theorem Eg.refl(st:SortSt):Eg st st:=⟨rfl,rfl,rfl,rfl⟩
theorem Eg.trans{a b c:SortSt}(h:Eg a b)(k:Eg b c):Eg a c:=⟨k.1.trans h.1,k.2.1.trans h.2.1,k.2.2.1.trans h.2.2.1,k.2.2.2.trans h.2.2.2⟩
section
variable{prog:Program}{w:World}{A:Around}{E:Value→Shared→Prop}{s:Shared}{X:List Keyed}{κ:SortKind}{lt:Keyed→Keyed→Bool}(C:E9 prog w A s X κ lt){a b:Array Keyed}(M:MC X lt a.toList b.toList)
theorem sF{st:SortSt}{g:Nat}{Q:Unit→SortSt→Prop}(h:∀aT,Eg st aT→Q () aT):wpS (model prog w) A E s (setG g) Q st:=wpS_modify (h _ ⟨rfl,rfl,rfl,rfl⟩)
theorem yR(o:Array Keyed)(i j:Nat):(Gs a b o i j).toList=o.toList++a.toList.drop i++b.toList.drop j:=by
 unfold Gs;simp[Array.toList_extract,List.extract_eq_take_drop];rw[List.take_of_length_le ZA,List.take_of_length_le ZA]
theorem BJ(o:Array Keyed)(i j:Nat):(Mx a b o i j).toList=o.toList++b.toList.drop j++a.toList.drop i:=by
 unfold Mx;simp[Array.toList_extract,List.extract_eq_take_drop];rw[List.take_of_length_le ZA,List.take_of_length_le ZA]
theorem Js(o:Array Keyed)(c:Array Keyed)(i k:Nat):(o++c.extract i (i+k)).toList=o.toList++(c.toList.drop i).take k:=by
 simp[Array.toList_extract,List.extract_eq_take_drop]
theorem Gx{l:List Keyed}{i:Nat}{x:Keyed}(h:l[i]?=some x):(l.drop i).take 1=[x]:=by rw[oT h];simp
def BK(lt:Keyed→Keyed→Bool)(a b:Array Keyed)(o:Array Keyed)(i j m:Nat):Prop:=ML lt a.toList b.toList o.toList i j∧i+1<a.size∧j<b.size∧m≤i+j
def P2(lt:Keyed→Keyed→Bool)(a b:Array Keyed)(m:Nat)(st:SortSt)(r:ForInStep S2)(aT:SortSt):Prop:=Eg st aT∧match r with
 | .done c=>(∃x,c.1=some x∧MG lt a.toList b.toList x.toList)∨(c.1=none∧BK lt a b c.2.1 c.2.2.1 c.2.2.2.1 m)
 | .yield c=>c.1=none∧BK lt a b c.2.1 c.2.2.1 c.2.2.2.1 m
include C M
theorem E_{st:SortSt}{o:Array Keyed}{i j mg k l m:Nat}(ml:ML lt a.toList b.toList o.toList i j)(hi:i+1<a.size)(hj:j<b.size)(hm:m≤i+j+1)(h:∀x,a.toList[i]?=some x→∀y∈b.toList.drop j,lt x y=true):wpS (model prog w) A E s (P8 a b o i j mg k l) (P2 lt a b m st) st:=by
 unfold P8;have ex:a[i]?=some a[i]:=ZF;have gN:a.toList[i]?=some a[i]:=by rw[Array.getElem?_toList];exact ex
 refine wpS_bind (e7 ex ?_);have m2:ML lt a.toList b.toList (o.push a[i]).toList (i+1) j:=by
  have:=ml.a M (k:=1) (by simp;lia) (fun x hx y hy=>by
   rw[Gx gN]at hx;have:x=a[i]:=by simpa using hx
   rw[this];exact h _ gN y hy)
  rw[Gx gN]at this;rw[Array.toList_push];exact this
 by_cases e:(i+1+1==a.size)=true
 ·rw[Z7 e];refine wpS_pure ⟨.refl _, .inl ⟨_,rfl,?_⟩⟩;rw[BJ];exact m2.ls M (by have:=beq_iff_eq.mp e;simp;lia)
 ·rw[Z5 e];have e:i+1+1≠a.size:=fun z=>e (beq_iff_eq.mpr z)
  split
  ·exact wpS_pure ⟨.refl _, .inr ⟨rfl,m2,by show i+1+1<a.size;lia,hj,by show m≤i+1+j;lia⟩⟩
  ·exact wpS_pure ⟨.refl _,rfl,m2,by show i+1+1<a.size;lia,hj,by show m≤i+1+j;lia⟩
theorem K'{st:SortSt}{o:Array Keyed}{i j mg k bc m:Nat}(hk:kindOf st=κ)(ml:ML lt a.toList b.toList o.toList i j)(hi:i+1<a.size)(hj:j<b.size)(hm:m≤i+j+1):wpS (model prog w) A E s (R_ a b o i j mg k bc) (P2 lt a b m st) st:=by
 unfold R_;have ex:a[i]?=some a[i]:=ZF;have gN:a.toList[i]?=some a[i]:=by rw[Array.getElem?_toList];exact ex
 have hx:a[i]∈a.toList:=Z0 gN;refine wpS_bind (e7 ex ?_);generalize a[i]=x at ex gN hx;have gb:∀t,t<b.size-j→b[j+t]?=some (b.getD (j+t) (.none, .none)):=fun t ht=>by simp[show j+t<b.size by lia]
 have rR:∀t,t<b.size-j→b.toList[j+t]?=some (b.getD (j+t) (.none, .none)):=fun t ht=>by rw[Array.getElem?_toList];exact gb t ht
 refine wpS_bind (qz C (fun t=>b.getD (j+t) (.none, .none)) hk (M.ia _ hx) (fun t ht=>⟨gb t ht,M.ib _ (Z0 (rR t ht))⟩) (fun t u h1 h2=>M.sb.at (i:=j+t) (j:=j+u) (by lia) (rR t (by lia)) (rR u h2)) (by lia) fun l hl h1 h2=>?_);dsimp only;have low:∀y∈(b.toList.drop j).take l,∀z∈a.toList.drop i,lt y z=true:=fun y hy z hz=>by
  obtain⟨t,ht,et⟩:=tI.mp hy;rw[rR t (by lia)]at et;cases et;have hb:=h1 t ht;simp only[lr,if_true]at hb;rw[oT gN]at hz;rcases List.mem_cons.mp hz with rfl|hz
  ·exact hb
  ·obtain⟨u,hu⟩:=lP.mp hz;exact C.tr _ (M.ib _ (Z0 (rR t (by lia)))) _ (M.ia _ hx) _ (M.ia _ (Z0 hu)) hb (M.sa.at UQ gN hu)
 have zH:∀y∈b.toList.drop (j+l),lt x y=true:=fun y hy=>by
  obtain⟨t,ht⟩:=lP.mp hy;have ig:=(ZO ht).1;have ig:j+l+t<b.size:=by simpa using ig
  have hb:=h2 (l+t) (by lia) (by lia);have e:b.toList[j+(l+t)]?=some y:=by rw[←Nat.add_assoc];exact ht
  rw[rR (l+t) (by lia)]at e;have e:=Z' e;simp only[lr,if_true]at hb;rw[e]at hb;exact C.no (M.ib _ (Z0 ht)) (M.ia _ hx) (fun z=>M.ne _ hx _ (Z0 ht) z.symm) hb
 have m2:ML lt a.toList b.toList (o++b.extract j (j+l)).toList i (j+l):=by
  rw[Js];exact ml.b M (by simp;lia) low
 by_cases Lb:l>0
 ·rw[Z7 Lb];by_cases e:(j+l==b.size)=true
  ·rw[Z7 e];refine wpS_pure ⟨.refl _, .inl ⟨_,rfl,?_⟩⟩;rw[yR];exact m2.dn M (.inr (by have:=beq_iff_eq.mp e;simpa using this))
  ·rw[Z5 e];have e:j+l≠b.size:=fun z=>e (beq_iff_eq.mpr z)
   exact E_ C M m2 hi UQ (by lia) fun y hy=>by rw[gN]at hy;cases hy;exact zH
 ·rw[Z5 Lb];have:l=0:=by lia
  subst this;exact E_ C M ml hi hj hm fun y hy=>by rw[gN]at hy;cases hy;exact zH
theorem Fb{st:SortSt}{o:Array Keyed}{i j mg k bc m:Nat}(hk:kindOf st=κ)(ml:ML lt a.toList b.toList o.toList i j)(hi:i+1<a.size)(hj:j<b.size)(hm:m≤i+j+2)(h:∀y,b.toList[j]?=some y→∀x∈a.toList.drop i,lt y x=true):wpS (model prog w) A E s (P9 a b o i j mg k bc) (P2 lt a b m st) st:=by
 unfold P9;have ex:b[j]?=some b[j]:=ZF;have gN:b.toList[j]?=some b[j]:=by rw[Array.getElem?_toList];exact ex
 refine wpS_bind (e7 ex ?_);have m2:ML lt a.toList b.toList (o.push b[j]).toList i (j+1):=by
  have:=ml.b M (k:=1) (by simp;lia) (fun x hx y hy=>by
   rw[Gx gN]at hx;have:x=b[j]:=by simpa using hx
   rw[this];exact h _ gN y hy)
  rw[Gx gN]at this;rw[Array.toList_push];exact this
 by_cases e:(j+1==b.size)=true
 ·rw[Z7 e];refine wpS_pure ⟨.refl _, .inl ⟨_,rfl,?_⟩⟩;rw[yR];exact m2.dn M (.inr (by have:=beq_iff_eq.mp e;simpa using this))
 ·rw[Z5 e];have e:j+1≠b.size:=fun z=>e (beq_iff_eq.mpr z)
  exact K' C M hk m2 hi UQ (by lia)
theorem Fe{st:SortSt}{o:Array Keyed}{i j mg ac bc m:Nat}(hk:kindOf st=κ)(h:BK lt a b o i j m):wpS (model prog w) A E s (P_ a b o i j mg ac bc) (P2 lt a b (m+2) st) st:=by
 obtain⟨ml,hi,hj,hm⟩:=h;unfold P_;refine wpS_bind (sF fun Ap eg=>?_);have Jt:kindOf Ap=κ:=eg.1.trans hk;have fin:∀{m:Nat}{p:StateT SortSt Sem (ForInStep S2)},wpS (model prog w) A E s p (P2 lt a b m Ap) Ap→wpS (model prog w) A E s p (P2 lt a b m st) Ap:=fun h=>wpS_mono h fun r aT z=>⟨eg.trans z.1,z.2⟩
 refine fin ?_;have ex:b[j]?=some b[j]:=ZF;have gN:b.toList[j]?=some b[j]:=by rw[Array.getElem?_toList];exact ex
 have hx:b[j]∈b.toList:=Z0 gN;refine wpS_bind (e7 ex ?_);generalize b[j]=y at ex gN hx;have gb:∀t,t<a.size-i→a[i+t]?=some (a.getD (i+t) (.none, .none)):=fun t ht=>by simp[show i+t<a.size by lia]
 have rR:∀t,t<a.size-i→a.toList[i+t]?=some (a.getD (i+t) (.none, .none)):=fun t ht=>by rw[Array.getElem?_toList];exact gb t ht
 refine wpS_bind (qz C (fun t=>a.getD (i+t) (.none, .none)) Jt (M.ib _ hx) (fun t ht=>⟨gb t ht,M.ia _ (Z0 (rR t ht))⟩) (fun t u h1 h2=>M.sa.at (i:=i+t) (j:=i+u) (by lia) (rR t (by lia)) (rR u h2)) (by lia) fun k hl h1 h2=>?_);dsimp only;have low:∀x∈(a.toList.drop i).take k,∀z∈b.toList.drop j,lt x z=true:=fun x uz z hz=>by
  obtain⟨t,ht,et⟩:=tI.mp uz;rw[rR t (by lia)]at et;cases et;have i_:=Z0 (rR t (by lia));have hb:=h1 t ht;simp only[lr,Bool.false_eq_true,if_false,Bool.not_eq_true']at hb;have hb:=C.no (M.ib _ hx) (M.ia _ i_) (fun z=>M.ne _ i_ _ hx z.symm) hb;rw[oT gN]at hz;rcases List.mem_cons.mp hz with rfl|hz
  ·exact hb
  ·obtain⟨u,hu⟩:=lP.mp hz;exact C.tr _ (M.ia _ i_) _ (M.ib _ hx) _ (M.ib _ (Z0 hu)) hb (M.sb.at UQ gN hu)
 have zH:∀x∈a.toList.drop (i+k),lt y x=true:=fun x uz=>by
  obtain⟨t,ht⟩:=lP.mp uz;have ig:=(ZO ht).1;have ig:i+k+t<a.size:=by simpa using ig
  have hb:=h2 (k+t) (by lia) (by lia);have e:a.toList[i+(k+t)]?=some x:=by rw[←Nat.add_assoc];exact ht
  rw[rR (k+t) (by lia)]at e;have e:=Z' e;simp only[lr,Bool.false_eq_true,if_false,Bool.not_eq_false']at hb;rw[e]at hb;exact hb
 have m2:ML lt a.toList b.toList (o++a.extract i (i+k)).toList (i+k) j:=by
  rw[Js];exact ml.a M (by simp;lia) low
 by_cases xb:k>0
 ·rw[Z7 xb];by_cases e:(i+k+1==a.size)=true
  ·rw[Z7 e];refine wpS_pure ⟨.refl _, .inl ⟨_,rfl,?_⟩⟩;rw[BJ];exact m2.ls M (by have:=beq_iff_eq.mp e;simpa using this)
  ·rw[Z5 e];have e:i+k+1≠a.size:=fun z=>e (beq_iff_eq.mpr z)
   by_cases e2:(i+k==a.size)=true
   ·rw[Z7 e2];refine wpS_pure ⟨.refl _, .inl ⟨_,rfl,?_⟩⟩;rw[yR];exact m2.dn M (.inl (by have:=beq_iff_eq.mp e2;simpa using this))
   ·rw[Z5 e2];have e2:i+k≠a.size:=fun z=>e2 (beq_iff_eq.mpr z)
    exact Fb C M Jt m2 UQ hj UQ fun z hz=>by rw[gN]at hz;cases hz;exact zH
 ·rw[Z5 xb];have:k=0:=by lia
  subst this;exact Fb C M Jt ml hi hj UQ fun z hz=>by rw[gN]at hz;cases hz;exact zH
theorem Lc{st:SortSt}{c:S2}{m:Nat}(hk:kindOf st=κ)(h:BK lt a b c.2.1 c.2.2.1 c.2.2.2.1 m):wpS (model prog w) A E s (Se a b c) (P2 lt a b (m+2) st) st:=by
 unfold Se;split
 ·exact Fe C M hk h
 ·exact Fe C M hk h
theorem Ld{st:SortSt}{c:S1}{mg m:Nat}(hk:kindOf st=κ)(h:BK lt a b c.2.1 c.2.2.1 c.2.2.2.1 m):wpS (model prog w) A E s (lo1 a b mg c) (fun r aT=>aT=st∧match r with
  | .done c=>(∃x,c.1=some x∧MG lt a.toList b.toList x.toList)∨(c.1=none∧BK lt a b c.2.1 c.2.2.1 c.2.2.2.1 (m+1))
  | .yield c=>c.1=none∧BK lt a b c.2.1 c.2.2.1 c.2.2.2.1 (m+1)) st:=by
 obtain⟨r,o,i,j,ac,bc⟩:=c;obtain⟨ml,hi,hj,hm⟩:=h;dsimp only at ml hi hj hm;unfold lo1;dsimp only;have ex:a[i]?=some a[i]:=ZF;have gN:a.toList[i]?=some a[i]:=by rw[Array.getElem?_toList];exact ex
 have ey:b[j]?=some b[j]:=ZF;have zI:b.toList[j]?=some b[j]:=by rw[Array.getElem?_toList];exact ey
 have hx:a[i]∈a.toList:=Z0 gN;have hy:b[j]∈b.toList:=Z0 zI;refine wpS_bind (e7 ey (wpS_bind (e7 ex ?_)));generalize a[i]=x at ex gN hx;generalize b[j]=y at ey zI hy;refine wpS_bind (C.ask hk (M.ib _ hy) (M.ia _ hx) ?_);dsimp only;cases e:lt y x with
 |true=>
  rw[if_pos rfl];refine wpS_bind (e7 ey ?_);have m2:ML lt a.toList b.toList (o.push y).toList i (j+1):=by
   have:=ml.b M (k:=1) (by simp;lia) (fun y' Ot z hz=>by
    rw[Gx zI]at Ot;have:y'=y:=by simpa using Ot
    rw[this];rw[oT gN]at hz;rcases List.mem_cons.mp hz with rfl|hz
    ·exact e
    ·obtain⟨u,hu⟩:=lP.mp hz;exact C.tr _ (M.ib _ hy) _ (M.ia _ hx) _ (M.ia _ (Z0 hu)) e (M.sa.at UQ gN hu))
   rw[Gx zI]at this;rw[Array.toList_push];exact this
  by_cases e2:(j+1==b.size)=true
  ·rw[Z7 e2];refine wpS_pure ⟨rfl, .inl ⟨_,rfl,?_⟩⟩;rw[yR];exact m2.dn M (.inr (by have:=beq_iff_eq.mp e2;simpa using this))
  ·rw[Z5 e2];have e2:j+1≠b.size:=fun z=>e2 (beq_iff_eq.mpr z)
   split
   ·exact wpS_pure ⟨rfl, .inr ⟨rfl,m2,hi,by show j+1<b.size;lia,by show m+1≤i+(j+1);lia⟩⟩
   ·exact wpS_pure ⟨rfl,rfl,m2,hi,by show j+1<b.size;lia,by show m+1≤i+(j+1);lia⟩
 |false=>
  rw[if_neg ZA];refine wpS_bind (e7 ex ?_);have e:=C.no (M.ib _ hy) (M.ia _ hx) (fun z=>M.ne _ hx _ hy z.symm) e;have m2:ML lt a.toList b.toList (o.push x).toList (i+1) j:=by
   have:=ml.a M (k:=1) (by simp;lia) (fun x' uz z hz=>by
    rw[Gx gN]at uz;have:x'=x:=by simpa using uz
    rw[this];rw[oT zI]at hz;rcases List.mem_cons.mp hz with rfl|hz
    ·exact e
    ·obtain⟨u,hu⟩:=lP.mp hz;exact C.tr _ (M.ia _ hx) _ (M.ib _ hy) _ (M.ib _ (Z0 hu)) e (M.sb.at UQ zI hu))
   rw[Gx gN]at this;rw[Array.toList_push];exact this
  by_cases e2:(i+1+1==a.size)=true
  ·rw[Z7 e2];refine wpS_pure ⟨rfl, .inl ⟨_,rfl,?_⟩⟩;rw[BJ];exact m2.ls M (by have:=beq_iff_eq.mp e2;simpa using this)
  ·rw[Z5 e2];have e2:i+1+1≠a.size:=fun z=>e2 (beq_iff_eq.mpr z)
   split
   ·exact wpS_pure ⟨rfl, .inr ⟨rfl,m2,by show i+1+1<a.size;lia,hj,by show m+1≤i+1+j;lia⟩⟩
   ·exact wpS_pure ⟨rfl,rfl,m2,by show i+1+1<a.size;lia,hj,by show m+1≤i+1+j;lia⟩
theorem Le{st:SortSt}{c:S3}{m:Nat}(hk:kindOf st=κ)(h:BK lt a b c.2.1 c.2.2.1 c.2.2.2.1 m):wpS (model prog w) A E s (Sg a b c) (fun r aT=>Eg st aT∧match r with
  | .done c=>∃x,c.1=some x∧MG lt a.toList b.toList x.toList
  | .yield c=>c.1=none∧BK lt a b c.2.1 c.2.2.1 c.2.2.2.1 (m+1)) st:=by
 unfold Sg;refine wpS_bind (wpS_mono (wpS_forRange (I:=fun x c aT=>aT=st∧c.1=none∧BK lt a b c.2.1 c.2.2.1 c.2.2.2.1 (m+x)) (Q:=fun c aT=>aT=st∧((∃x,c.1=some x∧MG lt a.toList b.toList x.toList)∨(c.1=none∧BK lt a b c.2.1 c.2.2.1 c.2.2.2.1 (m+1)))) ?_ ?_ ⟨rfl,rfl,h⟩) ?_)
 ·rintro x c aT _ hx ⟨rfl,hc,hI⟩;refine wpS_mono (Ld C M hk hI) fun r aT hr=>?_
  obtain⟨rfl,hr⟩:=hr;cases r with
  |done c=>exact⟨rfl,hr.imp id fun z=>⟨z.1,z.2.1,z.2.2.1,z.2.2.2.1,by have:=z.2.2.2.2;lia⟩⟩
  |yield c=>exact⟨rfl,hr.1,hr.2⟩
 ·rintro c aT ⟨rfl,hc,h1,h2,h3,h4⟩
  lia
 rintro t aT ⟨rfl,ht⟩;rcases ht with⟨x,e,hg⟩|⟨e,hI⟩
 ·rw[e];exact wpS_pure ⟨.refl _,x,rfl,hg⟩
 rw[e];dsimp only;refine wpS_bind (wpS_lift (wpAny_rule ⟨rfl,?_⟩));refine wpS_bind (wpS_mono (wpS_forRange (I:=fun x c dS=>Eg aT dS∧c.1=none∧BK lt a b c.2.1 c.2.2.1 c.2.2.2.1 (m+1+x)) (Q:=fun c dS=>Eg aT dS∧((∃x,c.1=some x∧MG lt a.toList b.toList x.toList)∨(c.1=none∧BK lt a b c.2.1 c.2.2.1 c.2.2.2.1 (m+1)))) ?_ ?_ ⟨.refl _,rfl,hI⟩) ?_)
 ·rintro x c dS _ hx ⟨eg,hc,hI⟩;refine wpS_mono (Lc C M (eg.1.trans hk) hI) fun r D5 hr=>?_
  obtain⟨Ff,hr⟩:=hr;cases r with
  |done c=>exact⟨eg.trans Ff,hr.imp id fun z=>⟨z.1,z.2.1,z.2.2.1,z.2.2.2.1,by have:=z.2.2.2.2;lia⟩⟩
  |yield c=>exact⟨eg.trans Ff,hr.1,hr.2.1,hr.2.2.1,hr.2.2.2.1,by have:=hr.2.2.2.2;lia⟩
 ·rintro c dS ⟨eg,hc,h1,h2,h3,h4⟩
  lia
 rintro u dS ⟨eg,hu⟩;rcases hu with⟨x,e,hg⟩|⟨e,hI⟩
 ·rw[e];exact wpS_pure ⟨eg,x,rfl,hg⟩
 rw[e];dsimp only;exact wpS_bind (sF fun D5 Sk=>wpS_pure ⟨eg.trans Sk,rfl,hI⟩)
theorem Lf{st:SortSt}{Q:Array Keyed→SortSt→Prop}(hk:kindOf st=κ)(ha:0<a.size)(hb:0<b.size)(q:∀r aT,Eg st aT→MG lt a.toList b.toList r.toList→Q r aT):wpS (model prog w) A E s (K9 a b) Q st:=by
 rw[HF];refine wpS_bind (wpS_lift (wpAny_rule ⟨rfl,?_⟩));have ey:b[0]?=some b[0]:=ZF;have zI:b.toList[0]?=some b[0]:=by rw[Array.getElem?_toList];exact ey
 refine wpS_bind (e7 ey ?_);have m0:ML lt a.toList b.toList [] 0 0:=⟨ZF,ZF, .nil,fun x hx=>(by cases hx),ZF⟩
 have m1:ML lt a.toList b.toList (#[b[0]]:Array Keyed).toList 0 1:=by
  have:=m0.b M (k:=1) (by simp;lia) (fun y hy x hx=>by
   rw[Gx zI]at hy;have:y=b[0]:=by simpa using hy
   rw[this];exact M.fst x (List.mem_of_mem_drop hx) _ zI)
  rw[Gx zI]at this;exact this
 by_cases e:(1==b.size)=true
 ·rw[Z7 e];refine wpS_pure (q _ _ (.refl _) ?_);rw[yR];exact m1.dn M (.inr (by have:=beq_iff_eq.mp e;simpa using this))
 rw[Z5 e];have e:1≠b.size:=fun z=>e (beq_iff_eq.mpr z)
 by_cases e2:(0+1==a.size)=true
 ·rw[Z7 e2];refine wpS_pure (q _ _ (.refl _) ?_);rw[BJ];exact m1.ls M (by have:=beq_iff_eq.mp e2;simpa using this)
 rw[Z5 e2];have e2:0+1≠a.size:=fun z=>e2 (beq_iff_eq.mpr z)
 refine wpS_bind (wpS_get ?_);refine wpS_bind (wpS_mono (wpS_forRange (I:=fun x c dS=>Eg st dS∧c.1=none∧BK lt a b c.2.1 c.2.2.1 c.2.2.2.1 x) (Q:=fun c dS=>Eg st dS∧∃x,c.1=some x∧MG lt a.toList b.toList x.toList) ?_ ?_ ⟨.refl _,rfl,m1,by show 0+1<a.size;lia,by show 1<b.size;lia,by show 0≤0+1;lia⟩) ?_)
 ·rintro x c dS _ hx ⟨eg,hc,hI⟩;refine wpS_mono (Le C M (eg.1.trans hk) hI) fun r D5 hr=>?_
  obtain⟨Ff,hr⟩:=hr;cases r with
  |done c=>exact⟨eg.trans Ff,hr⟩
  |yield c=>exact⟨eg.trans Ff,hr⟩
 ·rintro c dS ⟨eg,hc,h1,h2,h3,h4⟩
  lia
 ·rintro c dS ⟨eg,x,e,hg⟩;rw[e];exact wpS_pure (q x dS eg hg)
end
theorem xc{α:Type}{l:List α}{i:Nat}{x:α}:x∈l.take i↔∃t:Nat,t<i∧l[t]?=some x:=by
 have:=tI (l:=l) (i:=0) (k:=i) (x:=x);simpa using this
theorem yS{α:Type}{l:List α}{i t:Nat}{x:α}:x∈(l.take i).drop t↔∃u:Nat,t≤u∧u<i∧l[u]?=some x:=by
 rw[lP];constructor
 ·rintro⟨u,hu⟩;rw[List.getElem?_take]at hu;split at hu
  ·exact⟨t+u,by lia,by assumption,hu⟩
  ·cases hu
 ·rintro⟨u,h1,h2,h3⟩;exact⟨u-t,by rw[List.getElem?_take,Z7 UQ,show t+(u-t)=u by lia];exact h3⟩
theorem yT{α:Type}(l:List α){i t:Nat}(h:t≤i):l.take i=l.take t++(l.take i).drop t:=by
 conv=>lhs;rw[←List.take_append_drop t (l.take i)]
 rw[List.take_take,Nat.min_eq_left h]
section
variable{X:List Keyed}{lt:Keyed→Keyed→Bool}{P Q:List Keyed}
structure MH(lt:Keyed→Keyed→Bool)(P Q O:List Keyed)(i j:Nat):Prop where
 hi:i≤P.length
 hj:j≤Q.length
 qc:Pw lt O
 zH:∀y∈O,∀x,x∈P.take i∨x∈Q.take j→lt x y=true
 HI:((P.take i++Q.take j)++O).Perm (P++Q)
theorem MH.a{O:List Keyed}{i j t:Nat}(M:MC X lt P Q)(m:MH lt P Q O i j)(ht:t≤i)(h:∀x∈(P.take i).drop t,∀y∈Q.take j,lt y x=true):MH lt P Q ((P.take i).drop t++O) t j:=by
 have sp:=yT P ht;have sd:Pw lt (P.take i):=M.sa.sublist (List.take_sublist _ _);rw[sp]at sd;obtain⟨s1,s2,s3⟩:=List.pairwise_append.mp sd;refine⟨by have:=m.hi;lia,m.hj,List.pairwise_append.mpr ⟨s2,m.qc,fun x hx y hy=>m.zH y hy x (.inl (List.mem_of_mem_drop hx))⟩,fun y hy x hx=>?_,?_⟩
 ·rcases List.mem_append.mp hy with hy|hy
  ·rcases hx with hx|hx
   ·exact s3 x hx y hy
   ·exact h y hy x hx
  ·exact m.zH y hy x (hx.imp (fun z=>by rw[sp];exact List.mem_append_left _ z) id)
 ·have:=m.HI;rw[sp]at this;refine List.Perm.trans ?_ this;rw[←List.append_assoc];refine List.Perm.append_right O ?_;rw[List.append_assoc,List.append_assoc];exact List.Perm.append_left _ List.perm_append_comm
theorem MH.b{O:List Keyed}{i j t:Nat}(M:MC X lt P Q)(m:MH lt P Q O i j)(ht:t≤j)(h:∀y∈(Q.take j).drop t,∀x∈P.take i,lt x y=true):MH lt P Q ((Q.take j).drop t++O) i t:=by
 have sp:=yT Q ht;have sd:Pw lt (Q.take j):=M.sb.sublist (List.take_sublist _ _);rw[sp]at sd;obtain⟨s1,s2,s3⟩:=List.pairwise_append.mp sd;refine⟨m.hi,by have:=m.hj;lia,List.pairwise_append.mpr ⟨s2,m.qc,fun x hx y hy=>m.zH y hy x (.inr (List.mem_of_mem_drop hx))⟩,fun y hy x hx=>?_,?_⟩
 ·rcases List.mem_append.mp hy with hy|hy
  ·rcases hx with hx|hx
   ·exact h y hy x hx
   ·exact s3 x hx y hy
  ·exact m.zH y hy x (hx.imp id (fun z=>by rw[sp];exact List.mem_append_left _ z))
 ·have:=m.HI;rw[sp]at this;rw[←List.append_assoc,List.append_assoc (P.take i)];exact this
theorem MH.dn{O:List Keyed}{i j:Nat}(M:MC X lt P Q)(m:MH lt P Q O i j)(h:i=0∨j=0):MG lt P Q (P.take i++Q.take j++O):=by
 refine⟨m.HI,?_⟩;have sa:Pw lt (P.take i):=M.sa.sublist (List.take_sublist _ _);have sb:Pw lt (Q.take j):=M.sb.sublist (List.take_sublist _ _);refine List.pairwise_append.mpr ⟨List.pairwise_append.mpr ⟨sa,sb,fun x hx y hy=>?_⟩,m.qc,fun x hx y hy=>m.zH y hy x (List.mem_append.mp hx)⟩;rcases h with h|h
 ·rw[h,List.take_zero]at hx;cases hx
 ·rw[h,List.take_zero]at hy;cases hy
theorem MH.fb{O:List Keyed}{i j:Nat}(M:MC X lt P Q)(m:MH lt P Q O i j)(h:j=1):MG lt P Q (Q.take j++P.take i++O):=by
 have sa:Pw lt (P.take i):=M.sa.sublist (List.take_sublist _ _);have sb:Pw lt (Q.take j):=M.sb.sublist (List.take_sublist _ _);refine⟨(List.Perm.append_right O List.perm_append_comm).trans m.HI,List.pairwise_append.mpr ⟨List.pairwise_append.mpr ⟨sb,sa,fun y hy x hx=>?_⟩,m.qc,fun x hx y hy=>m.zH y hy x (List.mem_append.mp hx).symm⟩⟩;obtain⟨t,h1,h2⟩:=xc.mp hy;have:t=0:=by lia
 subst this;exact M.fst x (List.mem_of_mem_take hx) y h2
end
section
variable{prog:Program}{w:World}{A:Around}{E:Value→Shared→Prop}{s:Shared}{X:List Keyed}{κ:SortKind}{lt:Keyed→Keyed→Bool}(C:E9 prog w A s X κ lt){a b:Array Keyed}(M:MC X lt a.toList b.toList)
theorem yU(o:Array Keyed)(i j:Nat):(Gu a b o i j).toList=a.toList.take i++b.toList.take j++o.toList.reverse:=by
 unfold Gu;simp[Array.toList_extract,List.extract_eq_take_drop]
theorem BL(o:Array Keyed)(i j:Nat):(My a b o i j).toList=b.toList.take j++a.toList.take i++o.toList.reverse:=by
 unfold My;simp[Array.toList_extract,List.extract_eq_take_drop]
theorem Ju(o:Array Keyed)(c:Array Keyed)(t i:Nat):(o++(c.extract t i).reverse).toList.reverse=(c.toList.take i).drop t++o.toList.reverse:=by
 simp[Array.toList_extract,List.extract_eq_take_drop,List.drop_take]
theorem BM(o:Array Keyed)(x:Keyed):(o.push x).toList.reverse=[x]++o.toList.reverse:=ZF
theorem Gy{l:List Keyed}{i:Nat}{x:Keyed}(h0:0<i)(h:l[i-1]?=some x):(l.take i).drop (i-1)=[x]:=by
 have:l.take i=l.take (i-1)++[x]:=by
  conv=>lhs;rw[show i=i-1+1 by lia]
  rw[List.take_succ,h];rfl
 rw[this];have hl:=(ZO h).1;rw[List.drop_left' (by simp;lia)]
theorem sG{l:List Keyed}(C:E9 prog w A s X κ lt)(hs:Pw lt l)(oj:∀x∈l,x∈X){i:Nat}{x z:Keyed}(h:l[i-1]?=some x)(hz:z∈l.take i){y:Keyed}(hy:y∈X)(Aq:lt x y=true):lt z y=true:=by
 obtain⟨t,h1,h2⟩:=xc.mp hz;by_cases e:t=i-1
 ·subst e;rw[h]at h2;cases h2;exact Aq
 ·exact C.tr _ (oj _ (Z0 h2)) _ (oj _ (Z0 h)) _ hy (hs.at UQ h2 h) Aq
def BN(lt:Keyed→Keyed→Bool)(a b:Array Keyed)(o:Array Keyed)(i j m:Nat):Prop:=MH lt a.toList b.toList o.toList.reverse i j∧0<i∧1<j∧m+i+j≤a.size+b.size
def Lg(lt:Keyed→Keyed→Bool)(a b:Array Keyed)(m:Nat)(st:SortSt)(r:ForInStep T2)(aT:SortSt):Prop:=Eg st aT∧match r with
 | .done c=>(∃x,c.1=some x∧MG lt a.toList b.toList x.toList)∨(c.1=none∧BN lt a b c.2.2.2.1 c.2.1 c.2.2.1 m)
 | .yield c=>c.1=none∧BN lt a b c.2.2.2.1 c.2.1 c.2.2.1 m
include C M
theorem Fg{st:SortSt}{o:Array Keyed}{i j mg k l m:Nat}(ml:MH lt a.toList b.toList o.toList.reverse i j)(hi:0<i)(hj:1<j)(hm:m+i+j≤a.size+b.size+1)(h:∀x,a.toList[i-1]?=some x→∀y∈b.toList.take j,lt y x=true):wpS (model prog w) A E s (Qa a b o i j mg k l) (Lg lt a b m st) st:=by
 unfold Qa;have Sl:i≤a.size:=by have:=ml.hi;simpa using this
 have ex:a[i-1]?=some a[i-1]:=ZF;have gN:a.toList[i-1]?=some a[i-1]:=by rw[Array.getElem?_toList];exact ex
 refine wpS_bind (e7 ex ?_);have m2:MH lt a.toList b.toList (o.push a[i-1]).toList.reverse (i-1) j:=by
  have:=ml.a M (t:=i-1) (by lia) (fun x hx y hy=>by
   rw[Gy hi gN]at hx;have:x=a[i-1]:=by simpa using hx
   rw[this];exact h _ gN y hy)
  rw[Gy hi gN]at this;rw[BM];exact this
 by_cases e:(i-1==0)=true
 ·rw[Z7 e];refine wpS_pure ⟨.refl _, .inl ⟨_,rfl,?_⟩⟩;rw[yU];exact m2.dn M (.inl (beq_iff_eq.mp e))
 ·rw[Z5 e];have e:i-1≠0:=fun z=>e (beq_iff_eq.mpr z)
  split
  ·exact wpS_pure ⟨.refl _, .inr ⟨rfl,m2,by show 0<i-1;lia,hj,by show m+(i-1)+j≤_;lia⟩⟩
  ·exact wpS_pure ⟨.refl _,rfl,m2,by show 0<i-1;lia,hj,by show m+(i-1)+j≤_;lia⟩
theorem Lh{st:SortSt}{o:Array Keyed}{i j mg k bc m:Nat}(hk:kindOf st=κ)(ml:MH lt a.toList b.toList o.toList.reverse i j)(hi:0<i)(hj:1<j)(hm:m+i+j≤a.size+b.size+1):wpS (model prog w) A E s (Qb a b o i j mg k bc) (Lg lt a b m st) st:=by
 unfold Qb;have Sl:i≤a.size:=by have:=ml.hi;simpa using this
 have Sn:j≤b.size:=by have:=ml.hj;simpa using this
 have ex:a[i-1]?=some a[i-1]:=ZF;have gN:a.toList[i-1]?=some a[i-1]:=by rw[Array.getElem?_toList];exact ex
 have hx:a[i-1]∈a.toList:=Z0 gN;refine wpS_bind (e7 ex ?_);generalize a[i-1]=x at ex gN hx;have gb:∀t,t<j→b[0+t]?=some (b.getD t (.none, .none)):=fun t ht=>by simp[show t<b.size by lia]
 have rR:∀t,t<j→b.toList[t]?=some (b.getD t (.none, .none)):=fun t ht=>by rw[Array.getElem?_toList];simpa using gb t ht
 refine wpS_bind (qz C (fun t=>b.getD t (.none, .none)) hk (M.ia _ hx) (fun t ht=>⟨gb t ht,M.ib _ (Z0 (rR t ht))⟩) (fun t u h1 h2=>M.sb.at h1 (rR t (by lia)) (rR u h2)) (by lia) fun t hl h1 h2=>?_);dsimp only;have zH:∀y∈(b.toList.take j).drop t,∀z∈a.toList.take i,lt z y=true:=fun y hy z hz=>by
  obtain⟨u,h3,h4,h5⟩:=yS.mp hy;have hb:=h2 u h3 h4;rw[rR u h4]at h5;have h5:=Z' h5;simp only[lr,if_true]at hb;rw[h5]at hb;have So:=List.mem_of_mem_take (List.mem_of_mem_drop hy);have hb:=C.no (M.ib _ So) (M.ia _ hx) (fun z=>M.ne _ hx _ So z.symm) hb;exact sG C M.sa M.ia gN hz (M.ib _ So) hb
 have low:∀y∈b.toList.take t,lt y x=true:=fun y hy=>by
  obtain⟨u,h3,h4⟩:=xc.mp hy;have hb:=h1 u h3;rw[rR u UQ]at h4;have h4:=Z' h4;simp only[lr,if_true]at hb;rw[h4]at hb;exact hb
 have m2:MH lt a.toList b.toList (o++(b.extract t j).reverse).toList.reverse i t:=by
  rw[Ju];exact ml.b M hl zH
 by_cases Lb:j-t>0
 ·rw[Z7 Lb];by_cases e:(t==1)=true
  ·rw[Z7 e];refine wpS_pure ⟨.refl _, .inl ⟨_,rfl,?_⟩⟩;rw[BL];exact m2.fb M (beq_iff_eq.mp e)
  ·rw[Z5 e];have e:t≠1:=fun z=>e (beq_iff_eq.mpr z)
   by_cases e2:(t==0)=true
   ·rw[Z7 e2];refine wpS_pure ⟨.refl _, .inl ⟨_,rfl,?_⟩⟩;rw[yU];exact m2.dn M (.inr (beq_iff_eq.mp e2))
   ·rw[Z5 e2];have e2:t≠0:=fun z=>e2 (beq_iff_eq.mpr z)
    exact Fg C M m2 hi UQ (by lia) fun y hy=>by rw[gN]at hy;cases hy;exact low
 ·rw[Z5 Lb];have:t=j:=by lia
  subst this;exact Fg C M ml hi hj hm fun y hy=>by rw[gN]at hy;cases hy;exact low
theorem Fh{st:SortSt}{o:Array Keyed}{i j mg k bc m:Nat}(hk:kindOf st=κ)(ml:MH lt a.toList b.toList o.toList.reverse i j)(hi:0<i)(hj:1<j)(hm:m+i+j≤a.size+b.size+2)(h:∀y,b.toList[j-1]?=some y→∀x∈a.toList.take i,lt x y=true):wpS (model prog w) A E s (Qc a b o i j mg k bc) (Lg lt a b m st) st:=by
 unfold Qc;have Sn:j≤b.size:=by have:=ml.hj;simpa using this
 have ex:b[j-1]?=some b[j-1]:=ZF;have gN:b.toList[j-1]?=some b[j-1]:=by rw[Array.getElem?_toList];exact ex
 refine wpS_bind (e7 ex ?_);have m2:MH lt a.toList b.toList (o.push b[j-1]).toList.reverse i (j-1):=by
  have:=ml.b M (t:=j-1) (by lia) (fun x hx y hy=>by
   rw[Gy UQ gN]at hx;have:x=b[j-1]:=by simpa using hx
   rw[this];exact h _ gN y hy)
  rw[Gy UQ gN]at this;rw[BM];exact this
 by_cases e:(j-1==1)=true
 ·rw[Z7 e];refine wpS_pure ⟨.refl _, .inl ⟨_,rfl,?_⟩⟩;rw[BL];exact m2.fb M (beq_iff_eq.mp e)
 ·rw[Z5 e];have e:j-1≠1:=fun z=>e (beq_iff_eq.mpr z)
  exact Lh C M hk m2 hi UQ (by lia)
theorem Fi{st:SortSt}{o:Array Keyed}{i j mg ac bc m:Nat}(hk:kindOf st=κ)(h:BN lt a b o i j m):wpS (model prog w) A E s (Gv a b o i j mg ac bc) (Lg lt a b (m+2) st) st:=by
 obtain⟨ml,hi,hj,hm⟩:=h;have Sl:i≤a.size:=by have:=ml.hi;simpa using this
 have Sn:j≤b.size:=by have:=ml.hj;simpa using this
 unfold Gv;refine wpS_bind (sF fun Ap eg=>?_);have Jt:kindOf Ap=κ:=eg.1.trans hk;have fin:∀{m:Nat}{p:StateT SortSt Sem (ForInStep T2)},wpS (model prog w) A E s p (Lg lt a b m Ap) Ap→wpS (model prog w) A E s p (Lg lt a b m st) Ap:=fun h=>wpS_mono h fun r aT z=>⟨eg.trans z.1,z.2⟩
 refine fin ?_;have ex:b[j-1]?=some b[j-1]:=ZF;have gN:b.toList[j-1]?=some b[j-1]:=by rw[Array.getElem?_toList];exact ex
 have hx:b[j-1]∈b.toList:=Z0 gN;refine wpS_bind (e7 ex ?_);generalize b[j-1]=y at ex gN hx;have gb:∀t,t<i→a[0+t]?=some (a.getD t (.none, .none)):=fun t ht=>by simp[show t<a.size by lia]
 have rR:∀t,t<i→a.toList[t]?=some (a.getD t (.none, .none)):=fun t ht=>by rw[Array.getElem?_toList];simpa using gb t ht
 refine wpS_bind (qz C (fun t=>a.getD t (.none, .none)) Jt (M.ib _ hx) (fun t ht=>⟨gb t ht,M.ia _ (Z0 (rR t ht))⟩) (fun t u h1 h2=>M.sa.at h1 (rR t (by lia)) (rR u h2)) (by lia) fun t hl h1 h2=>?_);dsimp only;have zH:∀x∈(a.toList.take i).drop t,∀z∈b.toList.take j,lt z x=true:=fun x uz z hz=>by
  obtain⟨u,h3,h4,h5⟩:=yS.mp uz;have hb:=h2 u h3 h4;rw[rR u h4]at h5;have h5:=Z' h5;simp only[lr,Bool.false_eq_true,if_false,Bool.not_eq_false']at hb;rw[h5]at hb;exact sG C M.sb M.ib gN hz (M.ia _ (List.mem_of_mem_take (List.mem_of_mem_drop uz))) hb
 have low:∀x∈a.toList.take t,lt x y=true:=fun x uz=>by
  obtain⟨u,h3,h4⟩:=xc.mp uz;have hb:=h1 u h3;rw[rR u UQ]at h4;have h4:=Z' h4;have yF:=List.mem_of_mem_take uz;simp only[lr,Bool.false_eq_true,if_false,Bool.not_eq_true']at hb;rw[h4]at hb;exact C.no (M.ib _ hx) (M.ia _ yF) (fun z=>M.ne _ yF _ hx z.symm) hb
 have m2:MH lt a.toList b.toList (o++(a.extract t i).reverse).toList.reverse t j:=by
  rw[Ju];exact ml.a M hl zH
 by_cases xb:i-t>0
 ·rw[Z7 xb];by_cases e:(t==0)=true
  ·rw[Z7 e];refine wpS_pure ⟨.refl _, .inl ⟨_,rfl,?_⟩⟩;rw[yU];exact m2.dn M (.inl (beq_iff_eq.mp e))
  ·rw[Z5 e];have e:t≠0:=fun z=>e (beq_iff_eq.mpr z)
   exact Fh C M Jt m2 UQ hj UQ fun z hz=>by rw[gN]at hz;cases hz;exact low
 ·rw[Z5 xb];have:t=i:=by lia
  subst this;exact Fh C M Jt ml hi hj UQ fun z hz=>by rw[gN]at hz;cases hz;exact low
theorem Li{st:SortSt}{c:T2}{m:Nat}(hk:kindOf st=κ)(h:BN lt a b c.2.2.2.1 c.2.1 c.2.2.1 m):wpS (model prog w) A E s (Si a b c) (Lg lt a b (m+2) st) st:=by
 unfold Si;split
 ·exact Fi C M hk h
 ·exact Fi C M hk h
theorem Lj{st:SortSt}{c:T1}{mg m:Nat}(hk:kindOf st=κ)(h:BN lt a b c.2.2.2.1 c.2.1 c.2.2.1 m):wpS (model prog w) A E s (Sh a b mg c) (fun r aT=>aT=st∧match r with
  | .done c=>(∃x,c.1=some x∧MG lt a.toList b.toList x.toList)∨(c.1=none∧BN lt a b c.2.2.2.1 c.2.1 c.2.2.1 (m+1))
  | .yield c=>c.1=none∧BN lt a b c.2.2.2.1 c.2.1 c.2.2.1 (m+1)) st:=by
 obtain⟨r,i,j,o,ac,bc⟩:=c;obtain⟨ml,hi,hj,hm⟩:=h;dsimp only at ml hi hj hm;have Sl:i≤a.size:=by have:=ml.hi;simpa using this
 have Sn:j≤b.size:=by have:=ml.hj;simpa using this
 unfold Sh;dsimp only;have ex:a[i-1]?=some a[i-1]:=ZF;have gN:a.toList[i-1]?=some a[i-1]:=by rw[Array.getElem?_toList];exact ex
 have ey:b[j-1]?=some b[j-1]:=ZF;have zI:b.toList[j-1]?=some b[j-1]:=by rw[Array.getElem?_toList];exact ey
 have hx:a[i-1]∈a.toList:=Z0 gN;have hy:b[j-1]∈b.toList:=Z0 zI;refine wpS_bind (e7 ey (wpS_bind (e7 ex ?_)));generalize a[i-1]=x at ex gN hx;generalize b[j-1]=y at ey zI hy;refine wpS_bind (C.ask hk (M.ib _ hy) (M.ia _ hx) ?_);dsimp only;cases e:lt y x with
 |true=>
  rw[if_pos rfl];refine wpS_bind (e7 ex ?_);have m2:MH lt a.toList b.toList (o.push x).toList.reverse (i-1) j:=by
   have:=ml.a M (t:=i-1) (by lia) (fun x' uz z hz=>by
    rw[Gy hi gN]at uz;have:x'=x:=by simpa using uz
    rw[this];exact sG C M.sb M.ib zI hz (M.ia _ hx) e)
   rw[Gy hi gN]at this;rw[BM];exact this
  by_cases e2:(i-1==0)=true
  ·rw[Z7 e2];refine wpS_pure ⟨rfl, .inl ⟨_,rfl,?_⟩⟩;rw[yU];exact m2.dn M (.inl (beq_iff_eq.mp e2))
  ·rw[Z5 e2];have e2:i-1≠0:=fun z=>e2 (beq_iff_eq.mpr z)
   split
   ·exact wpS_pure ⟨rfl, .inr ⟨rfl,m2,by show 0<i-1;lia,hj,by show m+1+(i-1)+j≤_;lia⟩⟩
   ·exact wpS_pure ⟨rfl,rfl,m2,by show 0<i-1;lia,hj,by show m+1+(i-1)+j≤_;lia⟩
 |false=>
  rw[if_neg ZA];refine wpS_bind (e7 ey ?_);have e:=C.no (M.ib _ hy) (M.ia _ hx) (fun z=>M.ne _ hx _ hy z.symm) e;have m2:MH lt a.toList b.toList (o.push y).toList.reverse i (j-1):=by
   have:=ml.b M (t:=j-1) (by lia) (fun y' Ot z hz=>by
    rw[Gy UQ zI]at Ot;have:y'=y:=by simpa using Ot
    rw[this];exact sG C M.sa M.ia gN hz (M.ib _ hy) e)
   rw[Gy UQ zI]at this;rw[BM];exact this
  by_cases e2:(j-1==1)=true
  ·rw[Z7 e2];refine wpS_pure ⟨rfl, .inl ⟨_,rfl,?_⟩⟩;rw[BL];exact m2.fb M (beq_iff_eq.mp e2)
  ·rw[Z5 e2];have e2:j-1≠1:=fun z=>e2 (beq_iff_eq.mpr z)
   split
   ·exact wpS_pure ⟨rfl, .inr ⟨rfl,m2,hi,by show 1<j-1;lia,by show m+1+i+(j-1)≤_;lia⟩⟩
   ·exact wpS_pure ⟨rfl,rfl,m2,hi,by show 1<j-1;lia,by show m+1+i+(j-1)≤_;lia⟩
theorem Lk{st:SortSt}{c:T3}{m:Nat}(hk:kindOf st=κ)(h:BN lt a b c.2.2.2.1 c.2.1 c.2.2.1 m):wpS (model prog w) A E s (Sj a b c) (fun r aT=>Eg st aT∧match r with
  | .done c=>∃x,c.1=some x∧MG lt a.toList b.toList x.toList
  | .yield c=>c.1=none∧BN lt a b c.2.2.2.1 c.2.1 c.2.2.1 (m+1)) st:=by
 unfold Sj;refine wpS_bind (wpS_mono (wpS_forRange (I:=fun x c aT=>aT=st∧c.1=none∧BN lt a b c.2.2.2.1 c.2.1 c.2.2.1 (m+x)) (Q:=fun c aT=>aT=st∧((∃x,c.1=some x∧MG lt a.toList b.toList x.toList)∨(c.1=none∧BN lt a b c.2.2.2.1 c.2.1 c.2.2.1 (m+1)))) ?_ ?_ ⟨rfl,rfl,h⟩) ?_)
 ·rintro x c aT _ hx ⟨rfl,hc,hI⟩;refine wpS_mono (Lj C M hk hI) fun r aT hr=>?_
  obtain⟨rfl,hr⟩:=hr;cases r with
  |done c=>exact⟨rfl,hr.imp id fun z=>⟨z.1,z.2.1,z.2.2.1,z.2.2.2.1,by have:=z.2.2.2.2;lia⟩⟩
  |yield c=>exact⟨rfl,hr.1,hr.2⟩
 ·rintro c aT ⟨rfl,hc,h1,h2,h3,h4⟩
  lia
 rintro t aT ⟨rfl,ht⟩;rcases ht with⟨x,e,hg⟩|⟨e,hI⟩
 ·rw[e];exact wpS_pure ⟨.refl _,x,rfl,hg⟩
 rw[e];dsimp only;refine wpS_bind (wpS_lift (wpAny_rule ⟨rfl,?_⟩));refine wpS_bind (wpS_mono (wpS_forRange (I:=fun x c dS=>Eg aT dS∧c.1=none∧BN lt a b c.2.2.2.1 c.2.1 c.2.2.1 (m+1+x)) (Q:=fun c dS=>Eg aT dS∧((∃x,c.1=some x∧MG lt a.toList b.toList x.toList)∨(c.1=none∧BN lt a b c.2.2.2.1 c.2.1 c.2.2.1 (m+1)))) ?_ ?_ ⟨.refl _,rfl,hI⟩) ?_)
 ·rintro x c dS _ hx ⟨eg,hc,hI⟩;refine wpS_mono (Li C M (eg.1.trans hk) hI) fun r D5 hr=>?_
  obtain⟨Ff,hr⟩:=hr;cases r with
  |done c=>exact⟨eg.trans Ff,hr.imp id fun z=>⟨z.1,z.2.1,z.2.2.1,z.2.2.2.1,by have:=z.2.2.2.2;lia⟩⟩
  |yield c=>exact⟨eg.trans Ff,hr.1,hr.2.1,hr.2.2.1,hr.2.2.2.1,by have:=hr.2.2.2.2;lia⟩
 ·rintro c dS ⟨eg,hc,h1,h2,h3,h4⟩
  lia
 rintro u dS ⟨eg,hu⟩;rcases hu with⟨x,e,hg⟩|⟨e,hI⟩
 ·rw[e];exact wpS_pure ⟨eg,x,rfl,hg⟩
 rw[e];dsimp only;exact wpS_bind (sF fun D5 Sk=>wpS_pure ⟨eg.trans Sk,rfl,hI⟩)
theorem Ll{st:SortSt}{Q:Array Keyed→SortSt→Prop}(hk:kindOf st=κ)(ha:0<a.size)(hb:0<b.size)(q:∀r aT,Eg st aT→MG lt a.toList b.toList r.toList→Q r aT):wpS (model prog w) A E s (K_ a b) Q st:=by
 rw[HH];refine wpS_bind (wpS_lift (wpAny_rule ⟨rfl,?_⟩));have ex:a[a.size-1]?=some a[a.size-1]:=ZF;have gN:a.toList[a.size-1]?=some a[a.size-1]:=by rw[Array.getElem?_toList];exact ex
 refine wpS_bind (e7 ex ?_);have m0:MH lt a.toList b.toList [] a.size b.size:=⟨ZF,ZF, .nil,fun x hx=>(by cases hx),by rw[List.take_of_length_le ZA,List.take_of_length_le ZA];simp⟩
 have m1:MH lt a.toList b.toList (#[a[a.size-1]]:Array Keyed).toList.reverse (a.size-1) b.size:=by
  have:=m0.a M (t:=a.size-1) (by lia) (fun x hx y hy=>by
   rw[Gy ha gN]at hx;have:x=a[a.size-1]:=by simpa using hx
   rw[this];exact M.lst y (List.mem_of_mem_take hy) _ (by simpa using gN))
  rw[Gy ha gN]at this;simpa using this
 by_cases e:(a.size-1==0)=true
 ·rw[Z7 e];refine wpS_pure (q _ _ (.refl _) ?_);rw[yU];exact m1.dn M (.inl (beq_iff_eq.mp e))
 rw[Z5 e];have e:a.size-1≠0:=fun z=>e (beq_iff_eq.mpr z)
 by_cases e2:(b.size==1)=true
 ·rw[Z7 e2];refine wpS_pure (q _ _ (.refl _) ?_);rw[BL];exact m1.fb M (beq_iff_eq.mp e2)
 rw[Z5 e2];have e2:b.size≠1:=fun z=>e2 (beq_iff_eq.mpr z)
 refine wpS_bind (wpS_get ?_);refine wpS_bind (wpS_mono (wpS_forRange (I:=fun x c dS=>Eg st dS∧c.1=none∧BN lt a b c.2.2.2.1 c.2.1 c.2.2.1 x) (Q:=fun c dS=>Eg st dS∧∃x,c.1=some x∧MG lt a.toList b.toList x.toList) ?_ ?_ ⟨.refl _,rfl,m1,by show 0<a.size-1;lia,by show 1<b.size;lia,by show 0+(a.size-1)+b.size≤_;lia⟩) ?_)
 ·rintro x c dS _ hx ⟨eg,hc,hI⟩;refine wpS_mono (Lk C M (eg.1.trans hk) hI) fun r D5 hr=>?_
  obtain⟨Ff,hr⟩:=hr;cases r with
  |done c=>exact⟨eg.trans Ff,hr⟩
  |yield c=>exact⟨eg.trans Ff,hr⟩
 ·rintro c dS ⟨eg,hc,h1,h2,h3,h4⟩
  lia
 ·rintro c dS ⟨eg,x,e,hg⟩;rw[e];exact wpS_pure (q x dS eg hg)
end
def Qd(lo i n:Nat):StateT SortSt Sem AscSt:=forIn [i:n] ((none,i):AscSt) fun _ c=>do
 let z←ltAt' (lo+c.2) (lo+c.2-1)
 match z with
 |some v=>if v=true then pure (.done (none,c.2))else pure (.yield (none,c.2+1))
 | _=>pure (.done (some none,c.2))
def Qe(lo i n:Nat):StateT SortSt Sem (Option Nat):=do
 reverseSlice' lo (lo+i)
 let t←Qd lo i n
 match t.1 with
 |some r=>pure r
 |none=>pure (some t.2)
def Sq(lo i n:Nat):StateT SortSt Sem DescSt:=forIn [i:n] ((none,i,0):DescSt) fun _ c=>do
 let z←ltAt' (lo+c.2.1) (lo+c.2.1-1)
 match z with
 |some v=>
  if v=true then
   if c.2.2>0 then do
    reverseSlice' (lo+c.2.1-(c.2.2+1)) (lo+c.2.1)
    pure (.yield (none,c.2.1+1,0))
   else pure (.yield (none,c.2.1+1,0))
  else do
   let z←ltAt' (lo+c.2.1-1) (lo+c.2.1)
   match z with
   |some v=>if v=true then pure (.done (none,c.2.1,c.2.2))else pure (.yield (none,c.2.1+1,c.2.2+1))
   | _=>pure (.done (some none,c.2.1,c.2.2))
 | _=>pure (.done (some none,c.2.1,c.2.2))
def Sr(lo i n:Nat):StateT SortSt Sem (Option Nat):=do
 liftM (rule "list.sort.descending-run")
 let t←Sq lo (i+1) n
 match t.1 with
 |some r=>pure r
 |none=>
  if t.2.2>0 then do
   reverseSlice' (lo+t.2.1-(t.2.2+1)) (lo+t.2.1)
   Qe lo t.2.1 n
  else Qe lo t.2.1 n
theorem Lm(lo n:Nat):countRun' lo n=(do
 let t←Qd lo 1 n
 match t.1 with
 |some r=>pure r
 |none=>
  if (t.2==n)=true then pure (some t.2)
  else if t.2>1 then do
   let z←ltAt' lo (lo+t.2-1)
   match z with
   |some v=>if v=true then pure (some t.2)else do
     reverseSlice' lo (lo+t.2)
     Sr lo t.2 n
   | _=>pure none
  else Sr lo t.2 n):=by kernel_rfl
def UY(lo k:Nat):StateT SortSt Sem (Option Bool×Nat×Nat):=forIn [0:k] ((none,0,k):Option Bool×Nat×Nat) fun _ c=>
 if c.2.1≥c.2.2 then pure (.done (none,c.2.1,c.2.2))
 else do
  let z←ltAt' (lo+k) (lo+(c.2.1+c.2.2)/2)
  match z with
  |some v=>if v=true then pure (.yield (none,c.2.1,(c.2.1+c.2.2)/2))else pure (.yield (none,(c.2.1+c.2.2)/2+1,c.2.2))
  | _=>pure (.done (some false,c.2.1,c.2.2))
theorem Ln(lo n ok:Nat):binarySort' lo n ok=(do
 let t←forIn [max ok 1:n] ((none,()):Option Bool×Unit) fun k _=>do
  let t←UY lo k
  match t.1 with
  |some r=>pure (.done (some r,()))
  |none=>do
   moveDown' (lo+k) (lo+t.2.1)
   pure (.yield (none,()))
 match t.1 with
 |some r=>pure r
 |none=>pure true):=by kernel_rfl
def DE(j:Nat)(m:Array Keyed)(st:SortSt):SortSt:=setArr st (m.toList.zipIdx.foldl (fun c q=>c.setIfInBounds (j+q.2) q.1) (WU st))
theorem Lo(i:Nat):mergeAt' i=(do
 let g←get
 let (some (p,m,v),some (q,n,_)):=((Δ g)[i]?,(Δ g)[i+1]?)|unsupported "internal:list.sort.pending"
 set (setPending g (((Δ g).setIfInBounds i (p,m+n,v)).eraseIdxIfInBounds (i+1)))
 let some k←yQ false (←elem' (WU g) q) (WU g) p m 0|return false
 if m-k==0 then return true
 let some n←yQ true (←elem' (WU g) (p+k+(m-k)-1)) (WU g) q n (n-1)|return false
 if n==0 then return true
 let r←if m-k≤n then K9 ((WU g).extract (p+k) q) ((WU g).extract q (q+n))else K_ ((WU g).extract (p+k) q) ((WU g).extract q (q+n))
 modify fun st=>DE (p+k) r st
 return (failedOf (←get)).isNone):=by kernel_rfl
def Ss(n w:Nat):StateT SortSt Sem (Option Unit×Unit):=forIn [0:n] ((none,()):Option Unit×Unit) fun _ _=>do
 let g←get
 match (if (Δ g).size>1 then(Δ g)[(Δ g).size-2]? else none)with
 |some (_,_,v)=>
  if v≤w then pure (.done (none,()))
  else do
   let z←mergeAt' ((Δ g).size-2)
   if (!z)=true then pure (.done (some (),()))else pure (.yield (none,()))
 | _=>pure (.done (none,()))
def UZ(w:Nat)(st:SortSt):SortSt:=setPending st ((Δ st).modify ((Δ st).size-1) fun(p,l,_)=>(p,l,w))
def Qf(lo n:Nat)(st:SortSt):SortSt:=setPending st ((Δ st).push (lo,n,0))
def Qg(N lo n:Nat):StateT SortSt Sem (ForInStep (Option Unit×Nat)):=do
 let g←get
 match (Δ g).back? with
 |some (p,l,_)=>do
  let t←Ss N (power' N (2*p+l) (2*p+l+l+n) N)
  match t.1 with
  |some r=>pure (.done (some r,lo))
  |none=>do
   modify (UZ (power' N (2*p+l) (2*p+l+l+n) N))
   modify (Qf lo n)
   pure (.yield (none,lo+n))
 | _=>do
  modify (Qf lo n)
  pure (.yield (none,lo+n))
def Su(N:Nat):StateT SortSt Sem (Option Unit×Unit):=forIn [0:N] ((none,()):Option Unit×Unit) fun _ _=>do
 let g←get
 if (Δ g).size≤1 then pure (.done (none,()))
 else do
  let z←mergeAt' (if (if (Δ g).size-2>0 then((Δ g)[(Δ g).size-2-1]?).map (·.2.1)else none).any (·<((Δ g)[(Δ g).size-2+1]?.elim 0 (·.2.1)))then(Δ g).size-2-1 else(Δ g).size-2)
  if (!z)=true then pure (.done (some (),()))else pure (.yield (none,()))
theorem HJ:sortRuns'=(do
 let g←get
 let t←forIn [0:(WU g).size] ((none,0):Option Unit×Nat) fun _ c=>
  if c.2≥(WU g).size then pure (.done (none,c.2))
  else do
   let z←countRun' c.2 ((WU g).size-c.2)
   match z with
   |some n=>
    if n<minRun' (WU g).size (WU g).size 0 then do
     liftM (rule "list.sort.binary-insertion")
     let z←binarySort' c.2 (min ((WU g).size-c.2) (minRun' (WU g).size (WU g).size 0)) n
     if (!z)=true then pure (.done (some (),c.2))else Qg (WU g).size c.2 (min ((WU g).size-c.2) (minRun' (WU g).size (WU g).size 0))
    else Qg (WU g).size c.2 n
   | _=>pure (.done (some (),c.2))
 match t.1 with
 |some r=>pure r
 |none=>do
  let u←Su (WU g).size
  match u.1 with
  |some r=>pure r
  |none=>pure ()):=by kernel_rfl
abbrev gg(xs:Array Keyed)(k:Nat):Keyed:=xs.getD k (.none, .none)
theorem oV(xs:Array Keyed)(k:Nat):gg xs k=(xs[k]?).getD (.none, .none):=by unfold gg;rw[Array.getD_eq_getD_getElem?]
theorem lb{xs:Array Keyed}{k:Nat}(h:k<xs.size):xs[k]?=some (gg xs k):=by simp[h]
def Sw(lt:Keyed→Keyed→Bool)(xs:Array Keyed)(a b:Nat):Prop:=∀i j,a≤i→i<j→j<b→lt (gg xs i) (gg xs j)=true
def Dw(lt:Keyed→Keyed→Bool)(xs:Array Keyed)(a b:Nat):Prop:=∀i j,a≤i→i<j→j<b→lt (gg xs j) (gg xs i)=true
theorem Sw.congr{lt:Keyed→Keyed→Bool}{xs ys:Array Keyed}{a b:Nat}(h:Sw lt xs a b)(e:∀t,a≤t→t<b→gg ys t=gg xs t):Sw lt ys a b:=fun i j h1 h2 h3=>by rw[e i h1 UQ,e j UQ h3];exact h i j h1 h2 h3
structure SB(X:List Keyed)(κ:SortKind)(st:SortSt):Prop where
 pm:(WU st).toList.Perm X
 kd:kindOf st=κ
 fl:failedOf st=none
theorem HK{σ:Type}{M:Model}{A:Around}{E:Value→Shared→Prop}{s:Shared}{x:σ}{Q:PUnit→σ→Prop}{st:σ}(h:Q ⟨⟩ x):wpS M A E s (set x:StateT σ Sem PUnit) Q st:=by
 unfold wpS;rw[StateT.run_set];exact Ε ⟨rfl,h⟩
section
variable{prog:Program}{w:World}{A:Around}{E:Value→Shared→Prop}{s:Shared}{X:List Keyed}{κ:SortKind}{lt:Keyed→Keyed→Bool}
theorem SB.size{st:SortSt}(b:SB X κ st):(WU st).size=X.length:=by have:=b.pm.length_eq;simpa using this
theorem SB.mem{st:SortSt}(b:SB X κ st){k:Nat}(h:k<X.length):gg (WU st) k∈X:=by
 have:=lb (xs:=WU st) (k:=k) (by rw[b.size];exact h);rw[←Array.getElem?_toList]at this;exact b.pm.mem_iff.mp (Z0 this)
theorem SB.inj{st:SortSt}(C:E9 prog w A s X κ lt)(b:SB X κ st){i j:Nat}(hi:i<X.length)(hj:j<X.length)(h:i≠j):gg (WU st) i≠gg (WU st) j:=fun e=>by
 have h1:=lb (xs:=WU st) (k:=i) (by rw[b.size];exact hi);have h2:=lb (xs:=WU st) (k:=j) (by rw[b.size];exact hj);rw[←Array.getElem?_toList]at h1 h2;have nd:(WU st).toList.Nodup:=b.pm.nodup_iff.mpr C.nd;exact h ((List.getElem?_inj (ZO h1).1 nd).mp (by rw[h1,h2,e]))
theorem SB.set{st:SortSt}{xs:Array Keyed}(b:SB X κ st)(h:xs.Perm (WU st)):SB X κ (setArr st xs):=⟨(Array.perm_iff_toList_perm.mp h).trans b.pm,b.kd,b.fl⟩
variable(C:E9 prog w A s X κ lt)
include C
theorem yV{st:SortSt}{i j:Nat}{Q:Option Bool→SortSt→Prop}(b:SB X κ st)(hi:i<X.length)(hj:j<X.length)(h:Q (some (lt (gg (WU st) i) (gg (WU st) j))) st):wpS (model prog w) A E s (ltAt' i j) Q st:=by
 rw[ltAt'_eq];refine wpS_bind (wpS_get ?_);show wpS _ _ _ _ (do let x←elem' (WU st) i;let y←elem' (WU st) j;lt' x y) Q st;exact wpS_bind (e7 (lb (by rw[b.size];exact hi)) (wpS_bind (e7 (lb (by rw[b.size];exact hj)) (C.ask b.kd (b.mem hi) (b.mem hj) h))))
theorem SB.no{st:SortSt}(b:SB X κ st){i j:Nat}(hi:i<X.length)(hj:j<X.length)(h:i≠j)(e:lt (gg (WU st) i) (gg (WU st) j)=false):lt (gg (WU st) j) (gg (WU st) i)=true:=C.no (b.mem hi) (b.mem hj) (b.inj C hi hj h) e
theorem Sw.next{st:SortSt}(b:SB X κ st){lo n:Nat}(h1:1≤n)(hn:lo+n<X.length)(h:Sw lt (WU st) lo (lo+n))(e:lt (gg (WU st) (lo+n)) (gg (WU st) (lo+n-1))=false):Sw lt (WU st) lo (lo+(n+1)):=fun i j hi uy hj=>by
 have hl:=b.no C (i:=lo+n) (j:=lo+n-1) hn UQ (by lia) e;by_cases ej:j=lo+n
 ·subst ej;by_cases ei:i=lo+n-1
  ·subst ei;exact hl
  ·exact C.tr _ (b.mem UQ) _ (b.mem UQ) _ (b.mem hn) (h i (lo+n-1) hi UQ (by lia)) hl
 ·exact h i j hi uy UQ
theorem Fj{st:SortSt}{lo i n:Nat}{Q:AscSt→SortSt→Prop}(b:SB X κ st)(hn:lo+n≤X.length)(h1:1≤i)(oj:i≤n)(hs:Sw lt (WU st) lo (lo+i))(q:∀m,i≤m→m≤n→Sw lt (WU st) lo (lo+m)→(m=n∨lt (gg (WU st) (lo+m)) (gg (WU st) (lo+m-1))=true)→Q (none,m) st):wpS (model prog w) A E s (Qd lo i n) Q st:=by
 unfold Qd;refine wpS_forRange (I:=fun x c aT=>aT=st∧c=(none,x)∧Sw lt (WU st) lo (lo+x)) ?_ ?_ ⟨rfl,rfl,hs⟩
 ·rintro x c aT lu hx ⟨rfl,rfl,m7⟩;refine wpS_bind (yV C b (by show lo+x<_;lia) (by show lo+x-1<_;lia) ?_);dsimp only;cases e:lt (gg (WU aT) (lo+x)) (gg (WU aT) (lo+x-1))with
  |true=>
   rw[if_pos rfl];exact wpS_pure (q x lu UQ m7 (.inr e))
  |false=>
   rw[if_neg ZA];exact wpS_pure ⟨rfl,rfl,Sw.next C b (by lia) (by lia) m7 e⟩
 ·rintro c aT ⟨rfl,rfl,m7⟩;rw[show max i n=n by lia]at m7⊢;exact q n oj Λ m7 (.inl rfl)
omit C in
theorem As{xs:Array Keyed}{i j:Nat}(hj:j≤xs.size)(k:Nat):gg (mirror xs i j ((j-i)/2)) k=if i≤k∧k<j then gg xs (i+j-1-k)else gg xs k:=by
 rw[oV,getElem?_mirror_all hj];split<;>rw[oV]
theorem Lp{st:SortSt}{lo i n:Nat}{Q:Option Nat→SortSt→Prop}(b:SB X κ st)(hn:lo+n≤X.length)(h1:1≤i)(oj:i≤n)(hs:Dw lt (WU st) lo (lo+i))(q:∀m aT,SB X κ aT→pendingOf aT=pendingOf st→(∀t,t<lo→gg (WU aT) t=gg (WU st) t)→1≤m→m≤n→Sw lt (WU aT) lo (lo+m)→Q (some m) aT):wpS (model prog w) A E s (Qe lo i n) Q st:=by
 unfold Qe;refine wpS_bind ?_;rw[reverseSlice'_eq];refine wpS_modify ?_;have hsz:lo+i≤(WU st).size:=by rw[b.size];lia
 have b':SB X κ (setArr st (mirror (WU st) lo (lo+i) ((lo+i-lo)/2))):=b.set (mirror_perm _ _ _ _);refine wpS_bind (Fj C b' hn h1 oj (fun x y hx Aq hy=>?_) fun m a1 a2 a3 _=>wpS_pure (q m _ b' rfl (fun t ht=>?_) (by lia) a2 a3))
 ·show lt (gg (mirror (WU st) lo (lo+i) ((lo+i-lo)/2)) x) (gg (mirror (WU st) lo (lo+i) ((lo+i-lo)/2)) y)=true;rw[As hsz,As hsz,Z7 UQ,Z7 UQ];exact hs _ _ (by lia) (by lia) (by lia)
 ·show gg (mirror (WU st) lo (lo+i) ((lo+i-lo)/2)) t=_;rw[As hsz,Z5 UQ]
theorem Lq{st:SortSt}{lo i n:Nat}{Q:DescSt→SortSt→Prop}(b:SB X κ st)(hn:lo+n≤X.length)(h1:1≤i)(oj:i≤n)(hs:Dw lt (WU st) lo (lo+i))(q:∀m,i≤m→m≤n→Dw lt (WU st) lo (lo+m)→Q (none,m,0) st):wpS (model prog w) A E s (Sq lo i n) Q st:=by
 unfold Sq;refine wpS_forRange (I:=fun x c aT=>aT=st∧c=(none,x,0)∧Dw lt (WU st) lo (lo+x)) ?_ ?_ ⟨rfl,rfl,hs⟩
 ·rintro x c aT lu hx ⟨rfl,rfl,m7⟩;refine wpS_bind (yV C b (by show lo+x<_;lia) (by show lo+x-1<_;lia) ?_);dsimp only;cases e:lt (gg (WU aT) (lo+x)) (gg (WU aT) (lo+x-1))with
  |true=>
   rw[if_pos rfl,Z5 UQ];refine wpS_pure ⟨rfl,rfl,fun y z hy Xb hz=>?_⟩;by_cases ez:z=lo+x
   ·subst ez;by_cases ey:y=lo+x-1
    ·subst ey;exact e
    ·exact C.tr _ (b.mem UQ) _ (b.mem UQ) _ (b.mem UQ) e (m7 y (lo+x-1) hy UQ (by lia))
   ·exact m7 y z hy Xb UQ
  |false=>
   rw[if_neg ZA];have e':=b.no C (i:=lo+x) (j:=lo+x-1) (by lia) (by lia) (by lia) e;refine wpS_bind (yV C b (by lia) (by lia) ?_);rw[e'];dsimp only;rw[if_pos rfl];exact wpS_pure (q x lu UQ m7)
 ·rintro c aT ⟨rfl,rfl,m7⟩;rw[show max i n=n by lia]at m7⊢;exact q n oj Λ m7
theorem Ou{st:SortSt}{lo n:Nat}{Q:Option Nat→SortSt→Prop}(b:SB X κ st)(hn:lo+n≤X.length)(h1:1≤n)(q:∀m aT,SB X κ aT→pendingOf aT=pendingOf st→(∀t,t<lo→gg (WU aT) t=gg (WU st) t)→1≤m→m≤n→Sw lt (WU aT) lo (lo+m)→Q (some m) aT):wpS (model prog w) A E s (countRun' lo n) Q st:=by
 rw[Lm];refine wpS_bind (Fj C b hn Λ h1 (fun i j a b c=>by lia) fun m a1 a2 a3 a4=>?_);dsimp only;by_cases e:(m==n)=true
 ·rw[Z7 e];exact wpS_pure (q m st b rfl (fun _ _=>rfl) a1 a2 a3)
 ·rw[Z5 e];have e:m≠n:=fun z=>e (beq_iff_eq.mpr z)
  by_cases e2:m>1
  ·rw[Z7 e2];refine wpS_bind (yV C b (by lia) (by lia) ?_);rw[a3 lo (lo+m-1) (Nat.le_refl _) (by lia) (by lia)];dsimp only;rw[if_pos rfl];exact wpS_pure (q m st b rfl (fun _ _=>rfl) a1 a2 a3)
  ·rw[Z5 e2];have:m=1:=by lia
   subst this;unfold Sr;refine wpS_bind (wpS_lift (wpAny_rule ⟨rfl,?_⟩));refine wpS_bind (Lq C b hn UQ (by lia) (fun i j hi uy hj=>?_) fun m c1 c2 c3=>?_)
   ·have hi:i=lo:=by lia
    have hj:j=lo+1:=by lia
    subst hi hj;exact a4.resolve_left e
   ·dsimp only;rw[Z5 UQ];exact Lp C b hn UQ c2 c3 q
omit C in
theorem Lr{xs:Array Keyed}{src d:Nat}(hs:src<xs.size)(hd:d≤src)(k:Nat):gg (bubble xs src d) k=if k=src-d then gg xs src else if src-d<k∧k≤src then gg xs (k-1)else gg xs k:=by
 rw[oV,getElem?_bubble hs d hd];by_cases h1:k=src-d
 ·rw[Z7 h1,Z7 h1,oV]
 ·rw[Z5 h1,Z5 h1];by_cases h2:src-d<k∧k≤src
  ·rw[Z7 h2,Z7 h2,oV]
  ·rw[Z5 h2,Z5 h2,oV]
theorem Ov{st:SortSt}{lo n ok:Nat}{Q:Bool→SortSt→Prop}(b:SB X κ st)(hn:lo+n≤X.length)(h1:1≤ok)(bY:ok≤n)(hs:Sw lt (WU st) lo (lo+ok))(q:∀aT,SB X κ aT→pendingOf aT=pendingOf st→(∀t,t<lo→gg (WU aT) t=gg (WU st) t)→Sw lt (WU aT) lo (lo+n)→Q true aT):wpS (model prog w) A E s (binarySort' lo n ok) Q st:=by
 rw[Ln];refine wpS_bind (wpS_mono (wpS_forRange (I:=fun k c aT=>c=(none,())∧SB X κ aT∧pendingOf aT=pendingOf st∧(∀t,t<lo→gg (WU aT) t=gg (WU st) t)∧Sw lt (WU aT) lo (lo+k)) (Q:=fun c aT=>c=(none,())∧SB X κ aT∧pendingOf aT=pendingOf st∧(∀t,t<lo→gg (WU aT) t=gg (WU st) t)∧Sw lt (WU aT) lo (lo+n)) ?_ ?_ ⟨rfl,b,rfl,fun _ _=>rfl,by rw[show max ok 1=ok by lia];exact hs⟩) ?_)
 ·rintro k c aT Jt hk ⟨rfl,b',hp,hf,m7⟩;unfold UY;refine wpS_bind (wpS_mono (wpS_forRange (I:=fun x c dS=>dS=aT∧∃l r,c=(none,l,r)∧l≤r∧r≤k∧(∀i,i<l→lt (gg (WU aT) (lo+i)) (gg (WU aT) (lo+k))=true)∧(∀i,r≤i→i<k→lt (gg (WU aT) (lo+k)) (gg (WU aT) (lo+i))=true)∧r-l+x≤k) (Q:=fun c dS=>dS=aT∧∃l r,c=(none,l,r)∧l≤k∧(∀i,i<l→lt (gg (WU aT) (lo+i)) (gg (WU aT) (lo+k))=true)∧(∀i,l≤i→i<k→lt (gg (WU aT) (lo+k)) (gg (WU aT) (lo+i))=true)) ?_ ?_ ⟨rfl,0,k,rfl,by lia,by lia,fun i hi=>by lia,fun i h1 h2=>by lia,by lia⟩) ?_)
  ·rintro x c dS _ hx ⟨rfl,l,r,rfl,a1,a2,a3,a4,a5⟩;dsimp only;by_cases U0:l≥r
   ·rw[Z7 U0];exact wpS_pure ⟨rfl,l,r,rfl,by lia,a3,fun i h1 h2=>a4 i UQ h2⟩
   ·rw[Z5 U0];refine wpS_bind (yV C b' UQ (by lia) ?_);dsimp only;cases e:lt (gg (WU dS) (lo+k)) (gg (WU dS) (lo+(l+r)/2))with
    |true=>
     rw[if_pos rfl];refine wpS_pure ⟨rfl,l,(l+r)/2,rfl,by lia,by lia,a3,fun i h1 h2=>?_,by lia⟩;by_cases ei:i=(l+r)/2
     ·subst ei;exact e
     ·exact C.tr _ (b'.mem UQ) _ (b'.mem UQ) _ (b'.mem UQ) e (m7 (lo+(l+r)/2) (lo+i) (by lia) (by lia) (by lia))
    |false=>
     rw[if_neg ZA];have e':=b'.no C (i:=lo+k) (j:=lo+(l+r)/2) (by lia) (by lia) (by lia) e;refine wpS_pure ⟨rfl,(l+r)/2+1,r,rfl,by lia,a2,fun i h1=>?_,a4,by lia⟩;by_cases ei:i=(l+r)/2
     ·subst ei;exact e'
     ·exact C.tr _ (b'.mem UQ) _ (b'.mem UQ) _ (b'.mem UQ) (m7 (lo+i) (lo+(l+r)/2) (by lia) (by lia) (by lia)) e'
  ·rintro c dS ⟨rfl,l,r,rfl,a1,a2,a3,a4,a5⟩;exact⟨rfl,l,r,rfl,by lia,a3,fun i h1 h2=>a4 i UQ h2⟩
  rintro c dS ⟨rfl,l,r,rfl,a1,a2,a3⟩;dsimp only;refine wpS_bind ?_;rw[moveDown'_eq];refine wpS_modify (wpS_pure ?_);have hsz:lo+k<(WU dS).size:=by rw[b'.size];lia
  have gb:=fun t=>Lr (xs:=WU dS) hsz (d:=lo+k-(lo+l)) (by lia) t
  have es:lo+k-(lo+k-(lo+l))=lo+l:=by lia
  rw[es]at gb;refine⟨rfl,b'.set (bubble_perm _ _ _),hp,fun t ht=>?_,fun i j hi uy hj=>?_⟩
  ·show gg (bubble (WU dS) (lo+k) (lo+k-(lo+l))) t=_;rw[gb,Z5 UQ,Z5 UQ];exact hf t ht
  ·show lt (gg (bubble (WU dS) (lo+k) (lo+k-(lo+l))) i) (gg (bubble (WU dS) (lo+k) (lo+k-(lo+l))) j)=true;rw[gb,gb];have Xc:∀t,lo≤t→t<lo+l→lt (gg (WU dS) t) (gg (WU dS) (lo+k))=true:=fun t h1 h2=>by have:=a2 (t-lo) (by lia);rw[show lo+(t-lo)=t by lia]at this;exact this
   have Xd:∀t,lo+l≤t→t<lo+k→lt (gg (WU dS) (lo+k)) (gg (WU dS) t)=true:=fun t h1 h2=>by have:=a3 (t-lo) (by lia) (by lia);rw[show lo+(t-lo)=t by lia]at this;exact this
   by_cases e1:i=lo+l
   ·rw[Z7 e1,Z5 UQ,Z7 UQ];exact Xd _ (by lia) (by lia)
   ·rw[Z5 e1];by_cases e2:lo+l<i∧i≤lo+k
    ·rw[Z7 e2,Z5 UQ,Z7 UQ];exact m7 _ _ (by lia) (by lia) (by lia)
    ·rw[Z5 e2];by_cases e3:j=lo+l
     ·rw[Z7 e3];exact Xc _ (by lia) (by lia)
     ·rw[Z5 e3];by_cases e4:lo+l<j∧j≤lo+k
      ·rw[Z7 e4];exact m7 _ _ (by lia) (by lia) (by lia)
      ·rw[Z5 e4];exact m7 _ _ (by lia) (by lia) (by lia)
 ·rintro c aT ⟨rfl,b',hp,hf,m7⟩;rw[show max (max ok 1) n=n by lia]at m7;exact⟨rfl,b',hp,hf,m7⟩
 ·rintro c aT ⟨rfl,b',hp,hf,m7⟩;exact wpS_pure (q aT b' hp hf m7)
end
theorem Ls(ys:List Keyed)(j:Nat):∀(k:Nat)(xs:Array Keyed),j+k+ys.length≤xs.size→∀t:Nat,((ys.zipIdx k).foldl (fun c q=>c.setIfInBounds (j+q.2) q.1) xs)[t]?=if j+k≤t∧t<j+k+ys.length then ys[t-(j+k)]? else xs[t]?:=by
 induction ys with
 |nil=>
  intro k xs h t;rw[Z5 (fun z=>by have z1:=z.1;have z2:=z.2;simp only[List.length_nil]at z2;lia)];rfl
 |cons y ys ih=>
  intro k xs h t;rw[List.zipIdx_cons,List.foldl_cons,ih (k+1) _ (by simp at h⊢;lia) t];simp only[List.length_cons]at h⊢;by_cases h1:j+(k+1)≤t∧t<j+(k+1)+ys.length
  ·rw[Z7 h1,Z7 UQ,show t-(j+k)=(t-(j+(k+1)))+1 by lia];rfl
  ·rw[Z5 h1,Array.getElem?_setIfInBounds];by_cases h2:j+k=t
   ·subst h2;rw[if_pos rfl,Z7 UQ,Z7 UQ];simp
   ·rw[Z5 h2,Z5 UQ]
theorem Fl(ys:List Keyed)(j:Nat)(xs:Array Keyed)(h:j+ys.length≤xs.size):(ys.zipIdx.foldl (fun c q=>c.setIfInBounds (j+q.2) q.1) xs).toList=xs.toList.take j++ys++xs.toList.drop (j+ys.length):=by
 apply List.ext_getElem?;intro t;rw[Array.getElem?_toList,Ls ys j 0 xs UQ t,Nat.add_zero];by_cases h1:t<j
 ·rw[Z5 UQ,List.append_assoc,Υ (by simp;lia),List.getElem?_take,Z7 h1,Array.getElem?_toList]
 ·by_cases h2:t<j+ys.length
  ·rw[Z7 UQ,List.append_assoc,Ω (by simp;lia),Υ (by simp;lia)]
   congr 1
   simp
   lia
  ·rw[Z5 UQ,Ω (by simp;lia),List.getElem?_drop,Array.getElem?_toList]
   congr 1
   simp
   lia
section
variable{prog:Program}{w:World}{A:Around}{E:Value→Shared→Prop}{s:Shared}{X:List Keyed}{κ:SortKind}{lt:Keyed→Keyed→Bool}
theorem Sw.pw{xs:Array Keyed}{p m:Nat}(h:Sw lt xs p (p+m)):Pw lt ((xs.toList.drop p).take m):=by
 refine List.pairwise_iff_getElem.mpr ?_;intro i j hi hj uy;have DF:j<m∧p+j<xs.size:=by simp at hj;lia
 have e1:((xs.toList.drop p).take m)[i]=gg xs (p+i):=by
  have:((xs.toList.drop p).take m)[i]?=some (gg xs (p+i)):=by rw[List.getElem?_take,Z7 UQ,List.getElem?_drop,Array.getElem?_toList];exact lb UQ
  exact(ZO this).2
 have e2:((xs.toList.drop p).take m)[j]=gg xs (p+j):=by
  have:((xs.toList.drop p).take m)[j]?=some (gg xs (p+j)):=by rw[List.getElem?_take,Z7 UQ,List.getElem?_drop,Array.getElem?_toList];exact lb UQ
  exact(ZO this).2
 rw[e1,e2];exact h _ _ (by lia) (by lia) (by lia)
theorem Fm{xs:Array Keyed}{p m t:Nat}(h:t<m)(hs:p+m≤xs.size):((xs.toList.drop p).take m)[t]?=some (gg xs (p+t)):=by
 rw[List.getElem?_take,Z7 h,List.getElem?_drop,Array.getElem?_toList];exact lb UQ
variable(C:E9 prog w A s X κ lt)
include C
theorem Ow{st:SortSt}{i p m v n u:Nat}{Q:Bool→SortSt→Prop}(b:SB X κ st)(e1:(Δ st)[i]?=some (p,m,v))(e2:(Δ st)[i+1]?=some (p+m,n,u))(hm:1≤m)(hn:1≤n)(hX:p+m+n≤X.length)(s1:Sw lt (WU st) p (p+m))(s2:Sw lt (WU st) (p+m) (p+m+n))
  (q:∀aT,SB X κ aT→pendingOf aT=((Δ st).setIfInBounds i (p,m+n,v)).eraseIdxIfInBounds (i+1)→(∀t,t<p∨p+m+n≤t→gg (WU aT) t=gg (WU st) t)→Sw lt (WU aT) p (p+m+n)→Q true aT):wpS (model prog w) A E s (mergeAt' i) Q st:=by
 rw[Lo];refine wpS_bind (wpS_get ?_);rw[e1,e2];dsimp only;refine wpS_bind (HK ?_);have hsz:=b.size;refine wpS_bind (e7 (lb (xs:=WU st) (k:=p+m) (by lia)) ?_);have mem:∀t,t<X.length→gg (WU st) t∈X:=fun t h=>b.mem h
 generalize Lu:setPending st (((Δ st).setIfInBounds i (p,m+n,v)).eraseIdxIfInBounds (i+1))=Ap;have Au:arrOf Ap=arrOf st:=by rw[←Lu]
 have b1:SB X κ Ap:=by rw[←Lu];exact⟨b.pm,b.kd,b.fl⟩
 have Mz:pendingOf Ap=((Δ st).setIfInBounds i (p,m+n,v)).eraseIdxIfInBounds (i+1):=by rw[←Lu]
 refine wpS_bind (qz C (fun t=>gg (WU st) (p+t)) b1.kd (mem _ (by lia)) (fun t ht=>⟨lb UQ,mem _ (by lia)⟩) (fun x y h1 h2=>s1 _ _ (by lia) (by lia) (by lia)) (by lia) fun k hk g1 g2=>?_);dsimp only;have Ox:∀t,t<k→lt (gg (WU st) (p+t)) (gg (WU st) (p+m))=true:=fun t ht=>by
  have:=g1 t ht;simp only[lr,Bool.false_eq_true,if_false,Bool.not_eq_true']at this;exact b.no C (by lia) (by lia) (by lia) this
 have U1:∀t,k≤t→t<m→lt (gg (WU st) (p+m)) (gg (WU st) (p+t))=true:=fun t h1 h2=>by
  have:=g2 t h1 h2;simp only[lr,Bool.false_eq_true,if_false,Bool.not_eq_false']at this;exact this
 have tr:=fun{x y z:Nat}(hx:x<X.length)(hy:y<X.length)(hz:z<X.length)=>C.tr _ (mem x hx) _ (mem y hy) _ (mem z hz)
 by_cases ek:(m-k==0)=true
 ·rw[Z7 ek];have:k=m:=by have:=beq_iff_eq.mp ek;lia
  subst this;refine wpS_pure (q Ap b1 Mz (fun _ _=>by rw[Au]) ?_);rw[Au];intro x y hx Aq hy;by_cases h1:y<p+k
  ·exact s1 x y hx Aq h1
  ·by_cases h2:p+k≤x
   ·exact s2 x y h2 Aq hy
   ·have h3:=Ox (x-p) (by lia);rw[show p+(x-p)=x by lia]at h3;by_cases h4:y=p+k
    ·rw[h4];exact h3
    ·exact tr UQ (by lia) (by lia) h3 (s2 (p+k) y UQ (by lia) hy)
 rw[Z5 ek];have ek:k<m:=by
  have:m-k≠0:=fun z=>ek (beq_iff_eq.mpr z)
  lia
 refine wpS_bind (e7 (lb (xs:=WU st) (k:=p+k+(m-k)-1) (by lia)) ?_);rw[show p+k+(m-k)-1=p+m-1 by lia];refine wpS_bind (qz C (fun t=>gg (WU st) (p+m+t)) b1.kd (mem _ (by lia)) (fun t ht=>⟨lb UQ,mem _ (by lia)⟩) (fun x y h1 h2=>s2 _ _ (by lia) (by lia) (by lia)) (by lia) fun l hl g3 g4=>?_);dsimp only;have Sx:∀t,t<l→lt (gg (WU st) (p+m+t)) (gg (WU st) (p+m-1))=true:=fun t ht=>by
  have:=g3 t ht;simp only[lr,if_true]at this;exact this
 have U2:∀t,l≤t→t<n→lt (gg (WU st) (p+m-1)) (gg (WU st) (p+m+t))=true:=fun t h1 h2=>by
  have:=g4 t h1 h2;simp only[lr,if_true]at this;exact b.no C (by lia) (by lia) (by lia) this
 have Lb:0<l:=by
  rcases Nat.lt_or_ge 0 l with h|h
  ·exact h
  ·have h1:=U2 0 (by lia) (by lia);have h2:=U1 (m-1) (by lia) (by lia);rw[show p+(m-1)=p+m-1 by lia]at h2;rw[Nat.add_zero]at h1;have:=C.as _ (mem _ (by lia)) _ (mem _ (by lia)) h1;rw[h2]at this;cases this
 rw[Z5 (by simp;lia)];have ex:((WU st).extract (p+k) (p+m)).toList=((WU st).toList.drop (p+k)).take (m-k):=by
  simp[Array.toList_extract,List.extract_eq_take_drop]
  congr 1
  lia
 have ey:((WU st).extract (p+m) (p+m+l)).toList=((WU st).toList.drop (p+m)).take l:=by
  simp[Array.toList_extract,List.extract_eq_take_drop]
 have U3:∀t,t<m-k→(((WU st).toList.drop (p+k)).take (m-k))[t]?=some (gg (WU st) (p+k+t)):=fun t ht=>Fm ht UQ
 have U4:∀t,t<l→(((WU st).toList.drop (p+m)).take l)[t]?=some (gg (WU st) (p+m+t)):=fun t ht=>Fm ht UQ
 have lx:(((WU st).toList.drop (p+k)).take (m-k)).length=m-k:=by simp;lia
 have ly:(((WU st).toList.drop (p+m)).take l).length=l:=by simp;lia
 have Qh:∀x∈((WU st).toList.drop (p+k)).take (m-k),∃t,t<m-k∧x=gg (WU st) (p+k+t):=fun x hx=>by
  obtain⟨t,ht⟩:=List.mem_iff_getElem?.mp hx;have ig:=(ZO ht).1;rw[lx]at ig;rw[U3 t ig]at ht;exact⟨t,ig,(Z' ht).symm⟩
 have Qi:∀x∈((WU st).toList.drop (p+m)).take l,∃t,t<l∧x=gg (WU st) (p+m+t):=fun x hx=>by
  obtain⟨t,ht⟩:=List.mem_iff_getElem?.mp hx;have ig:=(ZO ht).1;rw[ly]at ig;rw[U4 t ig]at ht;exact⟨t,ig,(Z' ht).symm⟩
 have MM:MC X lt ((WU st).extract (p+k) (p+m)).toList ((WU st).extract (p+m) (p+m+l)).toList:=by
  rw[ex,ey];refine⟨Sw.pw fun x y h1 h2 h3=>s1 x y UQ h2 UQ,Sw.pw fun x y h1 h2 h3=>s2 x y h1 h2 UQ,fun x hx=>?_,fun x hx=>?_,fun x hx y hy=>?_,fun x hx y hy=>?_,fun y hy x hx=>?_⟩
  ·obtain⟨t,ht,rfl⟩:=Qh x hx;exact mem _ (by lia)
  ·obtain⟨t,ht,rfl⟩:=Qi x hx;exact mem _ (by lia)
  ·obtain⟨t,ht,rfl⟩:=Qh x hx;obtain⟨u,hu,rfl⟩:=Qi y hy;exact b.inj C (by lia) (by lia) (by lia)
  ·obtain⟨t,ht,rfl⟩:=Qh x hx;rw[U4 0 Lb]at hy;cases hy;have:=U1 (k+t) (by lia) (by lia);rw[←Nat.add_assoc]at this;exact this
  ·obtain⟨t,ht,rfl⟩:=Qi y hy;rw[lx,U3 _ (by lia)]at hx;cases hx;rw[show p+k+(m-k-1)=p+m-1 by lia];exact Sx t ht
 have fin:∀r dS,Eg Ap dS→MG lt ((WU st).extract (p+k) (p+m)).toList ((WU st).extract (p+m) (p+m+l)).toList r.toList→wpS (model prog w) A E s (do
   modify fun st=>DE (p+k) r st
   return (failedOf (←get)).isNone) Q dS:=fun r dS eg mg=>by
  refine wpS_bind (wpS_modify (wpS_bind (wpS_get (wpS_pure ?_))));have MA:arrOf dS=arrOf st:=eg.2.1.trans Au;have Qj:failedOf dS=none:=eg.2.2.2.trans b1.fl;rw[ex,ey]at mg;have MB:r.toList.length=m-k+l:=by have:=mg.1.length_eq;rw[List.length_append,lx,ly]at this;exact this
  have el:(WU (DE (p+k) r dS)).toList=(WU st).toList.take (p+k)++r.toList++(WU st).toList.drop (p+m+l):=by
   show(r.toList.zipIdx.foldl (fun c q=>c.setIfInBounds (p+k+q.2) q.1) (WU dS)).toList=_;rw[Fl _ _ _ (by rw[MA,MB];lia),MA,MB,show p+k+(m-k+l)=p+m+l by lia]
  have Xe:(WU st).toList=(WU st).toList.take (p+k)++(((WU st).toList.drop (p+k)).take (m-k)++((WU st).toList.drop (p+m)).take l)++(WU st).toList.drop (p+m+l):=by
   have h1:=oU (WU st).toList (p+k) (m-k);have h2:=oU (WU st).toList (p+m) l;rw[show p+k+(m-k)=p+m by lia]at h1
   conv=>lhs;rw[←List.take_append_drop (p+k) (WU st).toList,h1,h2]
   simp only[List.append_assoc]
  have Sy:∀t,gg (WU (DE (p+k) r dS)) t=((WU (DE (p+k) r dS)).toList[t]?).getD (.none, .none):=fun t=>by rw[oV,Array.getElem?_toList]
  have g0:∀t,gg (WU st) t=((WU st).toList[t]?).getD (.none, .none):=fun t=>by rw[oV,Array.getElem?_toList]
  have Lv:∀t,t<p+k→gg (WU (DE (p+k) r dS)) t=gg (WU st) t:=fun t ht=>by
   rw[Sy,g0,el,List.append_assoc,Υ (by simp;lia),List.getElem?_take,Z7 ht]
  have Fn:∀t,p+m+l≤t→gg (WU (DE (p+k) r dS)) t=gg (WU st) t:=fun t ht=>by
   have ig:((WU st).toList.take (p+k)++r.toList).length=p+m+l:=by
    rw[List.length_append,MB,List.length_take,Array.length_toList]
    lia
   rw[Sy,g0,el,Ω UQ,List.getElem?_drop,ig]
   congr 2
   lia
  have Sz:∀t,p+k≤t→t<p+m+l→r.toList[t-(p+k)]?=some (gg (WU (DE (p+k) r dS)) t):=fun t h1 h2=>by
   rw[Sy,el,List.append_assoc,Ω (by simp;lia),Υ (by rw[List.length_take,Array.length_toList];lia)];rw[show(List.take (p+k) (WU st).toList).length=p+k by simp;lia];rw[ι UQ];rfl
  have cont:∀t,p+k≤t→t<p+m+l→∃u,p+k≤u∧u<p+m+l∧gg (WU (DE (p+k) r dS)) t=gg (WU st) u:=fun t h1 h2=>by
   have:=mg.1.mem_iff.mp (Z0 (Sz t h1 h2));rcases List.mem_append.mp this with z|z
   ·obtain⟨u,hu,e⟩:=Qh _ z;exact⟨p+k+u,by lia,by lia,e⟩
   ·obtain⟨u,hu,e⟩:=Qi _ z;exact⟨p+m+u,by lia,by lia,e⟩
  have hb:SB X κ (DE (p+k) r dS):=by
   refine⟨?_,eg.1.trans b1.kd,Qj⟩;rw[el];refine List.Perm.trans ?_ b.pm
   conv=>rhs;rw[Xe]
   exact(List.Perm.append_left _ mg.1).append_right _
  have Ni:(failedOf (DE (p+k) r dS)).isNone=true:=by rw[show failedOf (DE (p+k) r dS)=failedOf dS from rfl,Qj];rfl
  rw[Ni];refine q _ hb (eg.2.2.1.trans Mz) (fun t ht=>?_) fun x y hx Aq hy=>?_
  ·rcases ht with ht|ht
   ·exact Lv t (by lia)
   ·exact Fn t (by lia)
  ·
   have A1:∀t u,p≤t→t<p+k→p+k≤u→u<p+m+n→lt (gg (WU st) t) (gg (WU st) u)=true:=fun t u h1 h2 h3 h4=>by
    by_cases h5:u<p+m
    ·exact s1 t u h1 UQ h5
    ·have h6:=Ox (t-p) (by lia);rw[show p+(t-p)=t by lia]at h6;by_cases h7:u=p+m
     ·rw[h7];exact h6
     ·exact tr UQ (by lia) (by lia) h6 (s2 (p+m) u UQ (by lia) h4)
   have A2:∀t u,p+k≤t→t<p+m+l→p+m+l≤u→u<p+m+n→lt (gg (WU st) t) (gg (WU st) u)=true:=fun t u h1 h2 h3 h4=>by
    by_cases h5:p+m≤t
    ·exact s2 t u h5 UQ h4
    ·have h6:=U2 (u-(p+m)) (by lia) (by lia);rw[show p+m+(u-(p+m))=u by lia]at h6;by_cases h7:t=p+m-1
     ·rw[h7];exact h6
     ·exact tr UQ (by lia) (by lia) (s1 t (p+m-1) (by lia) (by lia) (by lia)) h6
   by_cases h1:x<p+k
   ·rw[Lv x h1];by_cases h2:y<p+k
    ·rw[Lv y h2];exact s1 x y hx Aq UQ
    ·by_cases h3:y<p+m+l
     ·obtain⟨u,u1,u2,u3⟩:=cont y UQ h3;rw[u3];exact A1 x u hx h1 u1 UQ
     ·rw[Fn y UQ];exact A1 x y hx h1 UQ hy
   ·by_cases h3:x<p+m+l
    ·by_cases h4:y<p+m+l
     ·exact mg.2.at (i:=x-(p+k)) (j:=y-(p+k)) (by lia) (Sz x (by lia) h3) (Sz y UQ h4)
     ·rw[Fn y UQ];obtain⟨u,u1,u2,u3⟩:=cont x (by lia) h3;rw[u3];exact A2 u y u1 u2 UQ hy
    ·rw[Fn x (by lia),Fn y UQ];exact s2 x y UQ Aq hy
 have sx:0<((WU st).extract (p+k) (p+m)).size:=by simp;lia
 have sy:0<((WU st).extract (p+m) (p+m+l)).size:=by simp;lia
 by_cases U5:m-k≤l
 ·rw[Z7 U5];exact wpS_bind (Lf C MM b1.kd sx sy fin)
 ·rw[Z5 U5];exact wpS_bind (Ll C MM b1.kd sx sy fin)
end
abbrev Rn:=Nat×Nat×Nat
def Ch:List Rn→Nat→Nat→Prop
 |[],s,e=>s=e
 |q::r,s,e=>q.1=s∧1≤q.2.1∧Ch r (s+q.2.1) e
theorem Ch.all:∀{l:List Rn}{s e:Nat},Ch l s e→s+l.length≤e∧∀q∈l,s≤q.1∧q.1+q.2.1≤e
 |[],s,e,h=>⟨by have:s=e:=h;simp;lia,fun q hq=>by cases hq⟩
 |q::r,s,e,⟨h1,h2,h3⟩=>by
  obtain⟨a1,a2⟩:=Ch.all h3;refine⟨by simp;lia,fun x hx=>?_⟩;rcases List.mem_cons.mp hx with rfl|hx
  ·lia
  ·have:=a2 x hx;lia
theorem Ch.split:∀{l r:List Rn}{s e:Nat},Ch (l++r) s e↔∃m,Ch l s m∧Ch r m e
 |[],r,s,e=>⟨fun h=>⟨s,rfl,h⟩,fun⟨m,h1,h2⟩=>by have:s=m:=h1;rw[this];exact h2⟩
 |q::l,r,s,e=>by
  constructor
  ·rintro⟨h1,h2,h3⟩;obtain⟨m,a1,a2⟩:=Ch.split.mp h3;exact⟨m,⟨h1,h2,a1⟩,a2⟩
  ·rintro⟨m,⟨h1,h2,a1⟩,a2⟩;exact⟨h1,h2,Ch.split.mpr ⟨m,a1,a2⟩⟩
theorem Ch.mod{f:Rn→Rn}(hf:∀q,(f q).1=q.1∧(f q).2.1=q.2.1):∀{l:List Rn}{j s e:Nat},Ch l s e→Ch (l.modify j f) s e
 |[],j,s,e,h=>by simpa using h
 |q::r,0,s,e,h=>by
  rw[List.modify_zero_cons];obtain⟨h1,h2,h3⟩:=h;refine⟨by rw[(hf q).1];exact h1,by rw[(hf q).2];exact h2,by rw[(hf q).2];exact h3⟩
 |q::r,j+1,s,e,h=>by
  rw[List.modify_succ_cons];exact⟨h.1,h.2.1,Ch.mod hf h.2.2⟩
theorem BO{f:Rn→Rn}:∀{l:List Rn}{j:Nat}{q:Rn},q∈l.modify j f→q∈l∨∃x∈l,q=f x
 |[],j,q,h=>by simp at h
 |x::r,0,q,h=>by
  rw[List.modify_zero_cons]at h;rcases List.mem_cons.mp h with h|h
  ·exact .inr ⟨x,ZF,h⟩
  ·exact .inl (ε h)
 |x::r,j+1,q,h=>by
  rw[List.modify_succ_cons]at h;rcases List.mem_cons.mp h with h|h
  ·exact .inl (by rw[h];simp)
  ·rcases BO h with h|⟨y,h1,h2⟩
   ·exact .inl (ε h)
   ·exact .inr ⟨y,ε h1,h2⟩
structure RI(X:List Keyed)(κ:SortKind)(lt:Keyed→Keyed→Bool)(st:SortSt)(lo n:Nat):Prop where
 b:SB X κ st
 ch:Ch (Δ st).toList 0 lo
 sw:∀q∈(Δ st).toList,Sw lt (WU st) q.1 (q.1+q.2.1)
 tl:Sw lt (WU st) lo (lo+n)
section
variable{prog:Program}{w:World}{A:Around}{E:Value→Shared→Prop}{s:Shared}{X:List Keyed}{κ:SortKind}{lt:Keyed→Keyed→Bool}(C:E9 prog w A s X κ lt)
include C
theorem Jv{st:SortSt}{lo n i:Nat}{Q:Bool→SortSt→Prop}(r:RI X κ lt st lo n)(Ms:lo≤X.length)(hi:i+1<(Δ st).size)(q:∀aT,RI X κ lt aT lo n→(Δ aT).size+1=(Δ st).size→Q true aT):wpS (model prog w) A E s (mergeAt' i) Q st:=by
 have hl:(Δ st).toList.length=(Δ st).size:=ZF;obtain⟨P1,x,y,P2,e,el⟩:∃P1 x y P2,(Δ st).toList=P1++x::y::P2∧P1.length=i:=by
  refine⟨(Δ st).toList.take i,(Δ st).toList[i],(Δ st).toList[i+1],(Δ st).toList.drop (i+2),?_,by simp;lia⟩
  conv=>lhs;rw[←List.take_append_drop i (Δ st).toList]
  rw[List.drop_eq_getElem_cons UQ,List.drop_eq_getElem_cons UQ]
 obtain⟨p,m,v⟩:=x;obtain⟨p2,k,u⟩:=y;have ch:=r.ch;rw[e]at ch;obtain⟨mid,c1,c2⟩:=Ch.split.mp ch;obtain⟨d1,d2,d3,d4,d5⟩:=c2;dsimp only at d1 d2 d3 d4 d5;subst d1 d3;have a1:=c1.all;have a2:=d5.all;have i1:(Δ st)[i]?=some (p,m,v):=by rw[←Array.getElem?_toList,e,Ω UQ,el];simp
 have i2:(Δ st)[i+1]?=some (p+m,k,u):=by rw[←Array.getElem?_toList,e,Ω UQ,el];simp
 have w1:=r.sw (p,m,v) (by rw[e];simp);have w2:=r.sw (p+m,k,u) (by rw[e];simp);refine Ow C r.b i1 i2 d2 d4 UQ w1 w2 fun aT b' hp Lw RT=>?_
 have ep:(Δ aT).toList=P1++(p,m+k,v)::P2:=by
  rw[hp];simp only[Array.toList_eraseIdxIfInBounds,Array.toList_setIfInBounds];rw[e,List.set_append_right _ _ (by lia),el,Nat.sub_self,List.set_cons_zero,List.eraseIdx_append_of_length_le UQ,el,show i+1-i=1 by lia];rfl
 refine q aT ⟨b',?_,fun z hz=>?_,r.tl.congr fun t h1 h2=>Lw t (.inr UQ)⟩ ?_
 ·rw[ep];refine Ch.split.mpr ⟨p,c1,rfl,by show 1≤m+k;lia,?_⟩;show Ch P2 (p+(m+k)) lo;rw[←Nat.add_assoc];exact d5
 ·rw[ep]at hz;rcases List.mem_append.mp hz with hz|hz
  ·have h1:=a1.2 z hz;exact(r.sw z (by rw[e];simp[hz])).congr fun t _ h2=>Lw t (.inl UQ)
  ·rcases List.mem_cons.mp hz with rfl|hz
   ·show Sw lt (WU aT) p (p+(m+k));rw[←Nat.add_assoc];exact RT
   ·have h1:=a2.2 z hz;exact(r.sw z (by rw[e];simp[hz])).congr fun t h2 _=>Lw t (.inr UQ)
 ·have h1:=congrArg List.length ep;have h2:=congrArg List.length e;simp at h1 h2
  lia
theorem Lx{st:SortSt}{lo n N w':Nat}{Q:Option Unit×Unit→SortSt→Prop}(r:RI X κ lt st lo n)(Ms:lo≤X.length)(q:∀aT,RI X κ lt aT lo n→Q (none,()) aT):wpS (model prog w) A E s (Ss N w') Q st:=by
 unfold Ss;refine wpS_forRange (I:=fun _ c aT=>c=(none,())∧RI X κ lt aT lo n) ?_ (fun c aT h=>by rw[h.1];exact q aT h.2) ⟨rfl,r⟩;rintro x c aT _ _ ⟨rfl,r'⟩;refine wpS_bind (wpS_get ?_);by_cases hs:(Δ aT).size>1
 ·rw[Z7 hs];have e:(Δ aT)[(Δ aT).size-2]?=some (Δ aT)[(Δ aT).size-2]:=ZF;rw[e];generalize (Δ aT)[(Δ aT).size-2]=z;obtain⟨z1,z2,z3⟩:=z;dsimp only;split
  ·exact wpS_pure (q aT r')
  ·refine wpS_bind (Jv C r' Ms UQ fun dS r2 _=>?_);rw[if_neg ZA];exact wpS_pure ⟨rfl,r2⟩
 ·rw[Z5 hs];exact wpS_pure (q aT r')
theorem Fo{st:SortSt}{lo n N:Nat}{Q:ForInStep (Option Unit×Nat)→SortSt→Prop}(r:RI X κ lt st lo n)(h1:1≤n)(Ms:lo+n≤X.length)(q:∀aT,RI X κ lt aT (lo+n) 0→Q (.yield (none,lo+n)) aT):wpS (model prog w) A E s (Qg N lo n) Q st:=by
 have push:∀aT,RI X κ lt aT lo n→RI X κ lt (Qf lo n aT) (lo+n) 0:=fun aT r'=>by
  have ep:(Δ (Qf lo n aT)).toList=(Δ aT).toList++[(lo,n,0)]:=by
   show((Δ aT).push (lo,n,0)).toList=_;simp
  refine⟨⟨r'.b.pm,r'.b.kd,r'.b.fl⟩,?_,fun z hz=>?_,fun i j a b c=>by lia⟩
  ·rw[ep];exact Ch.split.mpr ⟨lo,r'.ch,rfl,h1,rfl⟩
  ·rw[ep]at hz;rcases List.mem_append.mp hz with hz|hz
   ·exact r'.sw z hz
   ·have:z=(lo,n,0):=by simpa using hz
    subst this;exact r'.tl
 unfold Qg;refine wpS_bind (wpS_get ?_);cases e:(Δ st).back? with
 |none=>exact wpS_bind (wpS_modify (wpS_pure (q _ (push _ r))))
 |some z=>
  obtain⟨z1,z2,z3⟩:=z;dsimp only;refine wpS_bind (Lx C r UQ fun dS r2=>?_);dsimp only;refine wpS_bind (wpS_modify (wpS_bind (wpS_modify (wpS_pure (q _ (push _ ?_))))));have ep:(Δ (UZ (power' N (2*z1+z2) (2*z1+z2+z2+n) N) dS)).toList=(Δ dS).toList.modify ((Δ dS).size-1) fun(p,l,_)=>(p,l,power' N (2*z1+z2) (2*z1+z2+z2+n) N):=by
   show((Δ dS).modify _ _).toList=_;simp
  refine⟨⟨r2.b.pm,r2.b.kd,r2.b.fl⟩,?_,fun z hz=>?_,r2.tl⟩
  ·rw[ep];refine Ch.mod ?_ r2.ch;exact fun _=>⟨rfl,rfl⟩
  ·rw[ep]at hz;rcases BO hz with hz|⟨x,h1,h2⟩
   ·exact r2.sw z hz
   ·rw[h2];exact r2.sw x h1
theorem Ly{st:SortSt}{N:Nat}{Q:Option Unit×Unit→SortSt→Prop}(hN:N=X.length)(h0:0<N)(r:RI X κ lt st N 0)(q:∀aT,SB X κ aT→Sw lt (WU aT) 0 N→Q (none,()) aT):wpS (model prog w) A E s (Su N) Q st:=by
 have one:∀aT,RI X κ lt aT N 0→(Δ aT).size≤1→Q (none,()) aT:=fun aT r' hs=>by
  have ch:=r'.ch;have sw:=r'.sw;cases e:(Δ aT).toList with
  |nil=>rw[e]at ch;have:0=N:=ch;lia
  |cons x l=>
   have hl:l=[]:=by
    have:=congrArg List.length e;simp at this;exact List.length_eq_zero_iff.mp UQ
   subst hl;rw[e]at ch sw;obtain⟨c1,c2,c3⟩:=ch;have c3:0+x.2.1=N:=c3;have:=sw x (ZF);rw[c1,c3]at this;exact q aT r'.b this
 unfold Su;refine wpS_forRange (I:=fun x c aT=>c=(none,())∧RI X κ lt aT N 0∧((Δ aT).size+x≤N∨(Δ aT).size≤1)) ?_ ?_ ⟨rfl,r, .inl ?_⟩
 ·rintro x c aT _ hx ⟨rfl,r',hs⟩;refine wpS_bind (wpS_get ?_);by_cases h1:(Δ aT).size≤1
  ·rw[Z7 h1];exact wpS_pure (one aT r' h1)
  ·rw[Z5 h1];refine wpS_bind (Jv C r' UQ ?_ fun dS r2 Ki=>?_)
   ·have key:∀c:Bool,(if c=true then(Δ aT).size-2-1 else(Δ aT).size-2)+1<(Δ aT).size:=fun c=>by cases c<;>simp<;>lia
    exact key _
   ·rw[if_neg ZA];exact wpS_pure ⟨rfl,r2,by lia⟩
 ·rintro c aT ⟨rfl,r',hs⟩;exact one aT r' (by rcases hs with hs|hs<;>lia)
 ·have:=r.ch.all.1;simp at this
  lia
theorem Lz{st:SortSt}{Q:Unit→SortSt→Prop}(h0:0<X.length)(b:SB X κ st)(hp:pendingOf st=#[])(q:∀aT,SB X κ aT→Sw lt (WU aT) 0 X.length→Q () aT):wpS (model prog w) A E s sortRuns' Q st:=by
 rw[HJ];refine wpS_bind (wpS_get ?_);rw[b.size];refine wpS_bind (wpS_mono (wpS_forRange (I:=fun x c aT=>∃lo,c=(none,lo)∧RI X κ lt aT lo 0∧lo≤X.length∧x≤lo) (Q:=fun c aT=>c.1=none∧RI X κ lt aT X.length 0) ?_ ?_ ⟨0,rfl,⟨b,by rw[hp];rfl,(fun q hq=>by rw[hp]at hq;cases hq),fun i j a b c=>by lia⟩,by lia,by lia⟩) ?_)
 ·rintro x c aT _ hx ⟨lo,rfl,r,Ms,SA⟩;dsimp only;by_cases h1:lo≥X.length
  ·rw[Z7 h1];have:lo=X.length:=by lia
   subst this;exact wpS_pure ⟨rfl,r⟩
  ·rw[Z5 h1];refine wpS_bind (Ou C r.b UQ (by lia) fun m dS b2 Cp Qj m1 m2 Qk=>?_);dsimp only;have r2:RI X κ lt dS lo m:=⟨b2,by rw[Cp];exact r.ch,fun z hz=>by
    rw[Cp]at hz;have:=r.ch.all.2 z hz;exact(r.sw z hz).congr fun t _ h2=>Qj t (by lia),Qk⟩
   by_cases h2:m<minRun' X.length X.length 0
   ·rw[Z7 h2];refine wpS_bind (wpS_lift (wpAny_rule ⟨rfl,?_⟩));refine wpS_bind (Ov C b2 (n:=min (X.length-lo) (minRun' X.length X.length 0)) (by lia) m1 UQ Qk fun D5 b3 U6 Xf Xg=>?_);rw[if_neg ZA];refine Fo C ⟨b3,by rw[U6,Cp];exact r.ch,fun z hz=>?_,Xg⟩ UQ (by lia) fun PV r4=>⟨_,rfl,r4,by lia,by lia⟩
    rw[U6]at hz;have:=r2.ch.all.2 z hz;exact(r2.sw z hz).congr fun t _ h2=>Xf t (by lia)
   ·rw[Z5 h2];exact Fo C r2 m1 UQ fun PV r4=>⟨_,rfl,r4,by lia,by lia⟩
 ·rintro c aT ⟨lo,rfl,r,Ms,SA⟩;have:lo=X.length:=by lia
  subst this;exact⟨rfl,r⟩
 ·rintro⟨c1,c2⟩ aT ⟨e,r⟩;dsimp only at e⊢;subst e;exact wpS_bind (Ly C rfl h0 r fun dS b2 Qk=>wpS_pure (q dS b2 Qk))
end
open Classical in
noncomputable def Fp(X:List Keyed)(x:Keyed):Nat:=if h:∃i:Nat,X[i]?=some x then Classical.choose h else 0
theorem nH{X:List Keyed}{x:Keyed}(h:x∈X):X[Fp X x]?=some x:=by
 have h':∃i:Nat,X[i]?=some x:=List.mem_iff_getElem?.mp h;unfold Fp;rw[dif_pos h'];exact Classical.choose_spec h'
theorem LA{X:List Keyed}(nd:X.Nodup){i:Nat}{x:Keyed}(h:X[i]?=some x):Fp X x=i:=by
 have:=nH (Z0 h);exact(List.getElem?_inj (ZO this).1 nd).mp (this.trans h.symm)
theorem nJ{X:List Keyed}{x:Keyed}(h:x∈X):Fp X x<X.length:=(ZO (nH h)).1
section
variable{prog:Program}{w:World}{A:Around}{E:Value→Shared→Prop}{s:Shared}{X:List Keyed}{κ:SortKind}{lt:Nat→Nat→Bool}
theorem HL{st:SortSt}{Q:Unit→SortSt→Prop}(nd:X.Nodup)(h0:0<X.length)(L:An X.length lt)(ha:(WU st).toList=X)(hk:kindOf st=κ)(hp:pendingOf st=#[])(hf:failedOf st=none)
  (hc:∀i j x y,X[i]?=some x→X[j]?=some y→∀C:Bool→Shared→Prop,C (lt i j) s→wpAny (model prog w) A (keyLt' κ x.1 y.1) C (fun _ _=>False) s)
  (q:∀p aT,ye X.length p→Sd lt p X.length→(WU aT).toList=p.toList.map (fun i=>X.getD i (.none, .none))→failedOf aT=none→Q () aT):wpS (model prog w) A E s sortRuns' Q st:=by
 have C:E9 prog w A s X κ fun x y=>lt (Fp X x) (Fp X y):=by
  refine⟨fun x hx y hy=>hc _ _ x y (nH hx) (nH hy),fun x hx y hy z hz=>L.tr _ _ _ (nJ hx) (nJ hy) (nJ hz),fun x hx y hy=>L.as _ _ (nJ hx) (nJ hy),fun x hx y hy hn=>L.R9 _ _ (nJ hx) (nJ hy) fun e=>hn ?_,nd⟩;have h1:=nH hx;rw[e,nH hy]at h1;exact(Z' h1).symm
 refine Lz C h0 ⟨by rw[ha],hk,hf⟩ hp fun aT b sw=>?_
 have mem:∀x∈(WU aT).toList,x∈X:=fun x hx=>b.pm.mem_iff.mp hx
 refine q ((WU aT).map (Fp X)) aT ?_ (fun i j uy hj=>?_) ?_ b.fl
 ·unfold ye;rw[Array.toList_map];have h1:=b.pm.map (Fp X);have h2:X.map (Fp X)=List.range X.length:=by
   apply List.ext_getElem
   ·simp
   ·intro i h1 h2;simp only[List.getElem_map,List.getElem_range];exact LA nd (by simp at h1;simp[h1])
  rw[h2]at h1;exact h1
 ·have:=sw i j (Nat.zero_le _) uy hj;have g:∀k,k<X.length→gd ((WU aT).map (Fp X)) k=Fp X (gg (WU aT) k):=fun k hk=>by
   have EV:k<(WU aT).size:=by rw[b.size];exact hk
   rw[E8,oV];simp[EV]
  rw[g i UQ,g j hj];exact this
 ·rw[Array.toList_map,List.map_map]
  conv=>lhs;rw[←List.map_id (WU aT).toList]
  apply List.map_congr_left;intro x hx;have:=nH (mem x hx);simp[List.getD_eq_getElem?_getD,this]
theorem BP{ks vs:List Value}(hl:ks.length=vs.length)(h0:0<vs.length)(L:An vs.length lt)(nd:ks.Nodup)
  (hc:∀i j,i<vs.length→j<vs.length→∀C:Bool→Shared→Prop,C (lt i j) s→wpAny (model prog w) A (keyLt' κ (ks.getD i .none) (ks.getD j .none)) C (fun _ _=>False) s):
  wpAny (model prog w) A ((sortRuns').run (SortSt.mk' κ (ks.toArray.zip vs.toArray) #[] 7 none)) (fun r s'=>∃p:Array Nat,s'=s∧ye vs.length p∧Sd lt p vs.length∧arrOf r.2=p.map (kas_item (ks.toArray.zip vs.toArray))∧failedOf r.2=none) E s:=by
 have hz:(ks.zip vs).length=vs.length:=by rw[List.length_zip];lia
 have ea:(ks.toArray.zip vs.toArray).toList=ks.zip vs:=ZF;have Xh:(ks.zip vs).Nodup:=by
  refine List.pairwise_iff_getElem.mpr fun i j hi hj uy e=>?_
  rw[List.getElem_zip,List.getElem_zip]at e;have:=(List.getElem_inj nd).mp (Prod.mk.inj e).1
  lia
 have run:=HL (prog:=prog) (w:=w) (A:=A) (E:=E) (s:=s) (X:=ks.zip vs) (κ:=κ) (lt:=lt) (st:=SortSt.mk' κ (ks.toArray.zip vs.toArray) #[] 7 none) (Q:=fun _ aT=>∃p:Array Nat,ye vs.length p∧Sd lt p vs.length∧arrOf aT=p.map (kas_item (ks.toArray.zip vs.toArray))∧failedOf aT=none) Xh UQ (by rw[hz];exact L) ea rfl rfl rfl (fun i j x y hx hy C h=>?_) fun p aT h1 h2 h3 h4=>⟨p,by rw[←hz];exact h1,by rw[←hz];exact h2,?_,h4⟩
 ·unfold wpS at run;refine wpAny_mono run (fun r s' ⟨h1,p,h2⟩=>⟨p,h1,h2⟩) fun _ _ e=>e
 ·obtain⟨x1,x2⟩:=x;obtain⟨y1,y2⟩:=y;have hi:=(ZO hx).1;have hj:=(ZO hy).1;rw[hz]at hi hj;obtain⟨e1,_⟩:=List.getElem?_zip_eq_some.mp hx;obtain⟨e2,_⟩:=List.getElem?_zip_eq_some.mp hy;have:=hc i j hi hj C h;simpa[List.getD_eq_getElem?_getD,e1,e2]using this
 ·apply Array.toList_inj.mp;rw[h3,Array.toList_map];apply List.map_congr_left;intro i _;unfold kas_item;rw[Array.getD_eq_getD_getElem?,←Array.getElem?_toList,ea,List.getD_eq_getElem?_getD]
end
def Kp(a:Addr)(h h':Heap):Prop:=∀b o,b≠a→h.get? b=some o→h'.get? b=some o
section
variable{prog:Program}{w:World}{A:Around}{E:Value→Shared→Prop}{s:Shared}
theorem CU{a:Addr}{vs:List Value}{n:Nat}{κ:SortKind}{lt:Nat→Nat→Bool}{P:PySem.Fin→Shared→Prop}(ho:s.heap.get? a=some (seqObj "list" vs.toArray n))(h2:2≤vs.length)(Fq:vs.length<10000)(Oy:vs.Nodup)(L:An vs.length lt)
  (hk:∀s',Kp a s.heap s'.heap→∀Q':SortKind→Shared→Prop,Q' κ s'→wpAny (model prog w) A (keyKind' vs.toArray) Q' (fun _ _=>False) s')
  (hc:∀i j,i<vs.length→j<vs.length→∀s',Kp a s.heap s'.heap→∀C:Bool→Shared→Prop,C (lt i j) s'→wpAny (model prog w) A (keyLt' κ (vs.getD i .none) (vs.getD j .none)) C (fun _ _=>False) s')
  (h:∀p h' c,ye vs.length p→Sd lt p vs.length→Kp a s.heap h'→h'.get? a=some (seqObj "list" (List.toArray (p.toList.map fun i=>vs.getD i Value.none)) c)→P (.done (.ret .none)) {s with heap:=h'}):
  wpAny (model prog w) A (Builtin.«list.sort» ⟨[.ref a],[]⟩) P E s:=by
 have s1:=Heap.SameBut.update s.heap a (Obj.mapSeq fun _=>(#[]:Array Value));obtain⟨e1,HM⟩:∃e1,(ν a).get? a=some (seqObj "list" #[] e1):=⟨_,get?_update_seq ho fun _=>#[]⟩
 rw[list_sort_plain];refine wpAny_bind (listItems_at ho rfl (Ζ (listUpdate_at ho rfl ?_ (by rw[List.size_toArray,sizeLine_eq];lia) (Nat.zero_le _))));refine wpAny_bind (seqEpoch_at HM rfl (Ζ (wpAny_newTuple (Ζ (wpAny_newList (wpAny_holding ?_) (Nat.zero_le _))) (by show vs.length≤_;rw[sizeLine_eq];lia))));generalize hh:(((ν a).push {cls:= .type "tuple",data:= .seq vs.toArray 0}).push {cls:= .type "list",data:= .seq #[] 0})=h3;have k3:Kp a s.heap h3:=fun b o hb e=>by
  rw[←hh];exact Z6 (Z6 ((s1.2 b hb).trans e))
 have LB:h3.get? a=some (seqObj "list" #[] e1):=by
  rw[←hh];exact Z6 (Z6 HM)
 show wpAny (model prog w) A _ P E {s with heap:=h3};dsimp only;have yb:¬vs.toArray.size<2:=by rw[List.size_toArray];lia
 rw[Z5 yb,Z5 yb];refine wpAny_bind (wpAny_mono (hk {s with heap:=h3} k3 (fun Ql s'=>Ql=κ∧s'={s with heap:=h3}) ⟨rfl,rfl⟩) ?_ fun _ _ x=>x.elim);rintro _ _ ⟨rfl,rfl⟩;refine wpAny_bind (wpAny_mono (BP (lt:=lt) rfl (by lia) L Oy fun i j hi hj C hC=>hc i j hi hj {s with heap:=h3} k3 C hC) ?_ fun _ _ e=>e);rintro⟨⟨⟩,aT⟩ s' ⟨p,rfl,hp,hs,SD,hf⟩;dsimp only;rw[kat_snds rfl SD];have hsz:(List.toArray (p.toList.map fun i=>vs.getD i Value.none)).size=vs.length:=by rw[List.size_toArray,List.length_map,Array.length_toList,hp.size]
 have s2:=Heap.SameBut.update h3 a (Obj.mapSeq fun _=>List.toArray (p.toList.map fun i=>vs.getD i Value.none));obtain⟨c2,qm⟩:∃c2,(h3.update a (Obj.mapSeq fun _=>List.toArray (p.toList.map fun i=>vs.getD i Value.none))).get? a=some (seqObj "list" (List.toArray (p.toList.map fun i=>vs.getD i Value.none)) c2):=⟨_,get?_update_seq LB fun _=>List.toArray (p.toList.map fun i=>vs.getD i Value.none)⟩
 refine wpAny_bind (seqEpoch_at (s:={s with heap:=h3}) LB rfl (Ζ (listUpdate_at (s:={s with heap:=h3}) LB rfl ?_ (Nat.zero_le _) (Nat.le_trans (Nat.le_of_eq hsz) (by rw[sizeLine_eq];lia)))));rw[hf];simp only[bne_self_eq_false,Bool.false_eq_true,if_false];exact Ε (h p _ c2 hp hs (fun b o hb e=>(s2.2 b hb).trans (k3 b o hb e)) qm)
theorem yW{a:Addr}{vs:List Value}{n:Nat}{P:PySem.Fin→Shared→Prop}(ho:s.heap.get? a=some (seqObj "list" vs.toArray n))(h2:vs.length<2)
  (h:∀h' c,Kp a s.heap h'→h'.get? a=some (seqObj "list" vs.toArray c)→P (.done (.ret .none)) {s with heap:=h'}):
  wpAny (model prog w) A (Builtin.«list.sort» ⟨[.ref a],[]⟩) P E s:=by
 have s1:=Heap.SameBut.update s.heap a (Obj.mapSeq fun _=>(#[]:Array Value));obtain⟨e1,HM⟩:∃e1,(ν a).get? a=some (seqObj "list" #[] e1):=⟨_,get?_update_seq ho fun _=>#[]⟩
 rw[list_sort_plain];refine wpAny_bind (listItems_at ho rfl (Ζ (listUpdate_at ho rfl ?_ (by rw[List.size_toArray,sizeLine_eq];lia) (Nat.zero_le _))));refine wpAny_bind (seqEpoch_at HM rfl (Ζ (wpAny_newTuple (Ζ (wpAny_newList (wpAny_holding ?_) (Nat.zero_le _))) (by show vs.length≤_;rw[sizeLine_eq];lia))));generalize hh:(((ν a).push {cls:= .type "tuple",data:= .seq vs.toArray 0}).push {cls:= .type "list",data:= .seq #[] 0})=h3;have k3:Kp a s.heap h3:=fun b o hb e=>by
  rw[←hh];exact Z6 (Z6 ((s1.2 b hb).trans e))
 have LB:h3.get? a=some (seqObj "list" #[] e1):=by
  rw[←hh];exact Z6 (Z6 HM)
 show wpAny (model prog w) A _ P E {s with heap:=h3};dsimp only;have yb:vs.toArray.size<2:=by rw[List.size_toArray];lia
 rw[Z7 yb,Z7 yb];refine wpAny_bind (Ε (Ζ (Ε ?_)));dsimp only;have SE:(WU (SortSt.mk' general' (vs.toArray.zip vs.toArray) #[] 7 none)).map (·.2)=vs.toArray:=by
  show(vs.toArray.zip vs.toArray).map (·.2)=vs.toArray;apply Array.toList_inj.mp;rw[Array.toList_map,Array.toList_zip];exact List.map_snd_zip Λ
 have s2:=Heap.SameBut.update h3 a (Obj.mapSeq fun _=>vs.toArray);obtain⟨c2,qm⟩:∃c2,(h3.update a (Obj.mapSeq fun _=>vs.toArray)).get? a=some (seqObj "list" vs.toArray c2):=⟨_,get?_update_seq LB fun _=>vs.toArray⟩
 rw[SE];refine wpAny_bind (seqEpoch_at (s:={s with heap:=h3}) LB rfl (Ζ (listUpdate_at (s:={s with heap:=h3}) LB rfl ?_ (Nat.zero_le _) (by rw[List.size_toArray,sizeLine_eq];lia))));simp only[bne_self_eq_false,Bool.false_eq_true,if_false];exact Ε (h _ c2 (fun b o hb e=>(s2.2 b hb).trans (k3 b o hb e)) qm)
theorem Av{l:Addr}{vs:List Value}{κ:SortKind}{lt:Nat→Nat→Bool}{Q:Value→Shared→Prop}(hl:s.heap.IsList l vs.toArray)(Fq:vs.length<10000)(Oy:vs.Nodup)(L:An vs.length lt)
  (hk:2≤vs.length→∀s',(∀b o,s.heap.get? b=some o→s'.heap.get? b=some o)→∀Q':SortKind→Shared→Prop,Q' κ s'→wpAny (model prog w) A.in1.in1 (keyKind' vs.toArray) Q' (fun _ _=>False) s')
  (hc:∀i j,i<vs.length→j<vs.length→∀s',(∀b o,s.heap.get? b=some o→s'.heap.get? b=some o)→∀C:Bool→Shared→Prop,C (lt i j) s'→wpAny (model prog w) A.in1.in1 (keyLt' κ (vs.getD i .none) (vs.getD j .none)) C (fun _ _=>False) s')
  (h:∀p h' D c,ye vs.length p→Sd lt p vs.length→(∀b o,s.heap.get? b=some o→h'.get? b=some o)→s.heap.objs.size≤D→h'.get? D=some (seqObj "list" (List.toArray (p.toList.map fun i=>vs.getD i Value.none)) c)→Q (.ref D) {s with heap:=h'}):
  wpAny (model prog w) A (call (.builtin "sorted") [.ref l]) Q E s:=by
 refine Calls.call_function_entry kind_sorted plain_sorted entry_sorted (args_sorted1 _) ?_;unfold Builtin.«sorted»;refine wpAny_bind (m:=checkCount "sorted" 1 1 _) (Ε (Ζ (collect_list hl (Ζ (wpAny_newList ?_ (by rw[sizeLine_eq];lia))) (by rw[sizeLine_eq];lia))));generalize hh:((s.heap.push (seqObj "list" #[] 0)).update s.heap.objs.size (Obj.mapSeq (·++vs.toArray)))=h1;have hsz:h1.objs.size=s.heap.objs.size+1:=by rw[←hh,Heap.size_update,size_push']
 have keep:∀b o,s.heap.get? b=some o→(h1.push (seqObj "list" vs.toArray 0)).get? b=some o:=fun b o q=>by
  have ig:b<s.heap.objs.size:=Κ q;rw[Heap.get?_push_ne _ _ _ (by rw[hsz];exact Nat.ne_of_lt (Nat.lt_succ_of_lt ig)),←hh,Heap.get?_update_ne _ _ _ _ (Nat.ne_of_lt ig),Heap.get?_push_ne _ _ _ (Nat.ne_of_lt ig)];exact q
 have IL:(h1.push (seqObj "list" vs.toArray 0)).get? h1.objs.size=some (seqObj "list" vs.toArray 0):=Heap.get?_push_size _ rfl;have Jw:∀h',Kp h1.objs.size (h1.push (seqObj "list" vs.toArray 0)) h'→∀b o,s.heap.get? b=some o→h'.get? b=some o:=fun h' k b o q=>k b o (by have:=Heap.lt_size q;rw[hsz];exact Nat.ne_of_lt (Nat.lt_succ_of_lt this)) (keep b o q)
 show wpAny _ _ _ _ _ {s with heap:=h1.push (seqObj "list" vs.toArray 0)};refine wpAny_bind (wpAny_holding (wpAny_call_entry slot_list_sort ⟨_,IL,rfl⟩ entry_list_sort ?_ (args_list_sort _)));by_cases h2:2≤vs.length
 ·refine CU (s:={s with heap:=h1.push (seqObj "list" vs.toArray 0)}) (lt:=lt) IL h2 Fq Oy L (fun s' k Q' q=>hk h2 s' (Jw _ k) Q' q) (fun i j hi hj s' k C q=>hc i j hi hj s' (Jw _ k) C q) fun p h' c hp hs k e=>?_
  exact⟨_,rfl,Ε ⟨_,rfl,h p h' _ c hp hs (Jw _ k) (by rw[show({s with heap:=h1}:Shared).heap.objs.size=h1.objs.size from rfl,hsz];exact Nat.le_succ _) e⟩⟩
 ·refine yW (s:={s with heap:=h1.push (seqObj "list" vs.toArray 0)}) IL UQ fun h' c k e=>?_
  have hp:ye vs.length (List.toArray (Ι vs.length)):=by unfold ye;simp
  refine⟨_,rfl,Ε ⟨_,rfl,h _ h' _ c hp (fun i j uy hj=>by lia) (Jw _ k) (by rw[show({s with heap:=h1}:Shared).heap.objs.size=h1.objs.size from rfl,hsz];exact Nat.le_succ _) ?_⟩⟩;rw[e]
  congr 2
  match vs,h2 with
  |[],_=>rfl
  |[x],_=>rfl
  |x::y::r,h=>simp at h
end
def jy(p q:Int×Int):Bool:=if p.1=q.1 then decide (p.2<q.2)else decide (p.1<q.1)
theorem Fs{p q r:Int×Int}(a:jy p q=true)(b:jy q r=true):jy p r=true:=by
 unfold jy at*;split at a<;>split at b<;>split<;>simp_all<;>lia
theorem Aw{p q:Int×Int}(a:jy p q=true):jy q p=false:=by
 unfold jy at*;split at a<;>split<;>simp_all<;>lia
theorem BQ{p q:Int×Int}(h:p≠q):jy p q=true∨jy q p=true:=by
 unfold jy;by_cases e:p.1=q.1
 ·have:p.2≠q.2:=fun z=>h (Prod.ext e z)
  simp[e];lia
 ·have e':¬q.1=p.1:=fun z=>e z.symm
  simp[e,e'];lia
section
variable{prog:Program}{w:World}{A:Around}{E:Value→Shared→Prop}{s:Shared}
def rS(h:Heap)(x:Addr)(p:Int×Int):Prop:=∃o t u n,h.get? x=some o∧o.cls= .type "tuple"∧o.data= .seq #[.int p.1 t, .int p.2 u] n
theorem HN{x y:Addr}{p q:Int×Int}{C:Bool→Shared→Prop}(hx:rS s.heap x p)(hy:rS s.heap y q)(h:C (jy p q) s):wpAny (model prog w) A (keyLt' (tuples' true) (.ref x) (.ref y)) C E s:=by
 obtain⟨ox,t,u,n,h1,h2,h3⟩:=hx;obtain⟨oy,t',u',n',g1,g2,g3⟩:=hy;refine kat_lt h1 h3 g1 g3 (kat_cons ?_);have e0:SeqAt.EqAt A s (.int p.1 t) (.int q.1 t') (wu (.int p.1) (.int q.1)):=wz ⟨t,rfl⟩ ⟨t',rfl⟩ rfl rfl;have e1:SeqAt.EqAt A s (.int p.2 u) (.int q.2 u') (wu (.int p.2) (.int q.2)):=wz ⟨u,rfl⟩ ⟨u',rfl⟩ rfl rfl;refine e0 _ _ _ _ ?_;by_cases a:p.1=q.1
 ·have:wu (.int p.1) (.int q.1)=true:=by simp[wu,a]
  rw[this];refine kat_yes (kat_cons (e1 _ _ _ _ ?_));by_cases b:p.2=q.2
  ·have:wu (.int p.2) (.int q.2)=true:=by simp[wu,b]
   rw[this];refine kat_yes (kat_nil ?_);have:jy p q=decide (#[Value.int p.1 t, .int p.2 u].size<#[Value.int q.1 t', .int q.2 u'].size):=by simp[jy,a,b]
   rw[this]at h;exact h
  ·have:wu (.int p.2) (.int q.2)=false:=by simp[wu,b]
   rw[this];refine kat_no (kat_one _ _ (lt_int ?_));have:jy p q=decide (p.2<q.2):=by simp[jy,a]
   rw[this]at h;exact h
 ·have:wu (.int p.1) (.int q.1)=false:=by simp[wu,a]
  rw[this];refine kat_no (oneLt_int ?_);have:jy p q=decide (p.1<q.1):=by simp[jy,a]
  rw[this]at h;exact h
theorem vN{h:Heap}:∀{its:List Value},(∀v∈its,∃x p,v= .ref x∧rS h x p)→∃fs,KatTups h its fs∧fs.length=its.length∧∀f∈fs,∃i t,f=Value.int i t
 |[],_=>⟨[], .nil,rfl,fun f hf=>by cases hf⟩
 |v::r,hv=>by
  obtain⟨x,p,rfl,o,t,u,n,h1,h2,h3⟩:=hv v (List.mem_cons_self ..);obtain⟨fs,k1,k2,k3⟩:=vN (its:=r) fun v Nz=>hv v (ε Nz)
  refine⟨.int p.1 t::fs, .cons h1 h2 h3 rfl k1,by simp[k2],fun f hf=>?_⟩;rcases List.mem_cons.mp hf with rfl|hf
  ·exact⟨_,_,rfl⟩
  ·exact k3 f hf
theorem CV{its:List Value}{Q:SortKind→Shared→Prop}(eX:0<its.length)(hv:∀v∈its,∃x p,v= .ref x∧rS s.heap x p)(h:Q (tuples' true) s):wpAny (model prog w) A (keyKind' its.toArray) Q E s:=by
 obtain⟨fs,k1,k2,k3⟩:=vN hv;refine kat_kind (T:= .type "int") k1 UQ (fun v hv=>?_) (ZD) h;obtain⟨i,t,rfl⟩:=k3 v hv;exact .now
end
theorem yX{l:List Nat}{f:Nat→V}{g:Nat→Value}(h:∀i∈l,RelV (f i) (g i)):Vals (l.map f) (l.map g):=by
 induction l with
 |nil=>exact .nil
 |cons i r ih=>exact .cons (h i (List.mem_cons_self ..)) (ih fun j hj=>h j (ε hj))
end L2
namespace QF
open PySem L2 PySem.Spec PyProof.Rows PySem.W PySem.Calls
inductive Ft(K:Frag)(vs:List V)(H:Hp)(Q:VK):Prop
 |mk (l:Addr) (xs:List V) (ps:List Pr) (_:vs=[.ref l]) (_:iD K H l xs) (_:gM H xs ps) (_:ps.Nodup) (_:ps.length<10000) (_:∀D ys qs,H D=none→gM H ys qs→qs.Perm ps→qs.Pairwise (fun p q=>jy p q=true)→Q (.ref D) (upd H D (.lst ys))):Ft K vs H Q
theorem Ax{X:Cx}(K:Frag)(hK:X.K=K:=by rfl):iZ X (.builtin "sorted") (Ft K):=by
 subst hK;intro pins s σ H vs us Q I r h;obtain⟨l,xs,ps,rfl,hq,PS,nd,Fq,q⟩:=h;obtain⟨u,rfl,rx⟩:=vals1 r;cases rx;obtain⟨its,r',pl,hz⟩:=I.list hq;have hlen:=r'.length;have rq:=PS.1;have key:∀i,i<its.length→∃t,xs[i]?=some (.ref t)∧its[i]?=some (.ref t)∧H t=some (.tup (jw (ps.getD i (0,0))))∧rS s.heap t (ps.getD i (0,0)):=fun i hi=>by
  have hp:ps[i]?=some (ps.getD i (0,0)):=by simp[show i<ps.length by lia]
  obtain⟨t,h1,h2⟩:=PS.2 i _ hp;obtain⟨v,h3,h4⟩:=r'.get h1;cases h4;refine⟨t,h1,h3,h2,?_⟩;obtain⟨Ze,r2,⟨o,e1,e2,n,e3⟩,_⟩:=I.tuple (xs:=jw (ps.getD i (0,0))) (.of h2);cases r2 with
  |cons a b=>
   cases b with
   |cons c d=>
    cases d;obtain⟨ta,rfl⟩:=a;obtain⟨tc,rfl⟩:=c;exact⟨o,ta,tc,n,e1,e2,e3⟩
 have Jw:∀{h':Heap},(∀b o,s.heap.get? b=some o→h'.get? b=some o)→∀{x p},rS s.heap x p→rS h' x p:=fun k _ _ ⟨o,t,u,n,a,b⟩=>⟨o,t,u,n,k _ _ a,b⟩
 have L:An its.length fun i j=>jy (ps.getD i (0,0)) (ps.getD j (0,0)):=by
  refine⟨fun i j k _ _ _ a b=>Fs a b,fun i j _ _ a=>Aw a,fun i j hi hj eX=>BQ fun e=>eX ?_⟩;have e:ps[i]?=ps[j]?:=by
   rw[ι UQ,ι UQ];simpa[show i<ps.length by lia,show j<ps.length by lia]using e
  exact(List.getElem?_inj UQ nd).mp e
 have Oy:its.Nodup:=by
  refine List.pairwise_iff_getElem.mpr fun i j hi hj uy e=>?_
  obtain⟨t1,_,a2,a3,_⟩:=key i hi;obtain⟨t2,_,b2,b3,_⟩:=key j hj;rw[ι hi]at a2;rw[ι hj,←e,a2]at b2;cases b2;rw[a3]at b3;have h1:ps[i]?=some (ps.getD i (0,0)):=by simp[show i<ps.length by lia]
  have h2:ps[j]?=some (ps.getD j (0,0)):=by simp[show j<ps.length by lia]
  have e9:ps.getD i (0,0)=ps.getD j (0,0):=by
   have:=HO.tup.inj (Z' b3);simp only[jw,List.cons.injEq,V.int.injEq,and_true]at this;exact Prod.ext this.1 this.2
  have:=(List.getElem?_inj UQ nd).mp (h1.trans (by rw[e9];exact h2.symm))
  lia
 refine Av (κ:=tuples' true) pl.isList UQ Oy L (fun h2 s' k Q' hq=>?_) (fun i j hi hj s' k C hC=>?_) fun p h' D c hp hs k hD e=>?_
 ·refine CV UQ (fun v hv=>?_) hq;obtain⟨i,hi,rfl⟩:=List.mem_iff_getElem.mp hv;obtain⟨t,_,h3,_,h5⟩:=key i hi;exact⟨t,_,by rw[ι hi]at h3;exact Z' h3,Jw k h5⟩
 ·obtain⟨t,_,h3,_,h5⟩:=key i hi;obtain⟨t',_,g3,_,g5⟩:=key j hj;have e1:its.getD i .none= .ref t:=by simp[h3]
  have e2:its.getD j .none= .ref t':=by simp[g3]
  rw[e1,e2];exact HN (Jw k h5) (Jw k g5) hC
 ·have mem:∀i∈p.toList,i<its.length:=fun i hi=>by
   have:=hp.mem_iff.mp hi;simpa using this
  have rel:Vals (p.toList.map fun i=>xs.getD i .cR) (p.toList.map fun i=>its.getD i Value.none):=yX fun i hi=>by
   obtain⟨t,h1,h3,_⟩:=key i (mem i hi);have e1:xs.getD i .cR= .ref t:=by simp[h1]
   have e2:its.getD i .none= .ref t:=by simp[h3]
   rw[e1,e2];rfl
  have hsz:(p.toList.map fun i=>xs.getD i V.cR).length=its.length:=by rw[List.length_map,Array.length_toList,hp.size]
  have LC:(p.toList.map fun i=>ps.getD i (0,0)).length=its.length:=by rw[List.length_map,Array.length_toList,hp.size]
  refine⟨.ref D,_,I.laid (t':=s.toks) k hD (show cS X.prog X.w _ h' _ (.lst _)from⟨by rw[hsz,←hlen];exact hz,_,c,rel,e⟩),rfl,q D _ (p.toList.map fun i=>ps.getD i (0,0)) (I.bY.fresh hD) ⟨by rw[hsz,LC],fun i f hf=>?_⟩ ?_ ?_⟩
  ·rw[List.getElem?_map]at hf⊢;cases ei:p.toList[i]? with
   |none=>rw[ei]at hf;cases hf
   |some j=>
    rw[ei]at hf;have hf:ps.getD j (0,0)=f:=Z' hf;obtain⟨t,h1,h3,h4,_⟩:=key j (mem j (Z0 ei));refine⟨t,?_,by rw[←hf];exact h4⟩;show some (xs.getD j .cR)=_;simp[h1]
  ·have h1:=hp.map (fun i=>ps.getD i (0,0));refine h1.trans ?_;have:(Ι its.length).map (fun i=>ps.getD i (0,0))=ps:=by
    apply List.ext_getElem?;intro i;rw[List.getElem?_map];by_cases hi:i<its.length
    ·rw[List.getElem?_range hi];simp[show i<ps.length by lia]
    ·rw[List.getElem?_eq_none (by simp;lia),List.getElem?_eq_none UQ];rfl
   rw[this]
  ·rw[List.pairwise_iff_getElem];intro i j hi hj uy;have Bm:i<its.length:=by rw[LC]at hi;exact hi
   have DF:j<its.length:=by rw[LC]at hj;exact hj
   have:=hs i j uy DF;have DG:=hp.size;simp only[List.getElem_map];have e1:gd p i=p.toList[i]'(by simp;lia):=by simp[gd,show i<p.size by lia]
   have e2:gd p j=p.toList[j]'(by simp;lia):=by simp[gd,show j<p.size by lia]
   rw[e1,e2]at this;exact this
end QF
namespace L2
open PySem PySem.Spec PyProof.Rows PySem.W PySem.Calls
open AutoSeq1 (wpAny_loadPart')
theorem Oz{A:Around}{s:Shared}{i j:Int}{t u:Tok}:SeqAt.EqAt A s (.int i t) (.int j u) (decide (i=j)):=by
 have:=wz (A:=A) (s:=s) (y:= .int i) (x:= .int j) ⟨t,rfl⟩ ⟨u,rfl⟩ rfl rfl;simpa[wu,Bool.beq_eq_decide_eq]using this
theorem OA{prog:Program}{w:World}{A:Around}{E:Value→Shared→Prop}{s:Shared}{i j:Int}{t u:Tok}{Q:Value→Shared→Prop}(h:Q (.bool (decide (i<j))) s):wpAny (model prog w) A (richCompare .Lt (.int i t) (.int j u)) Q E s:=lt_int h
theorem Fu(l b:Addr)(p q:Int×Int)(t u t' u':Tok)(n n2:Nat)(dd EN:Option Addr)(sl yc:Array (Option Value)):
  Meets (Builtin.«tuple.__lt__» ⟨[.ref l, .ref b],[]⟩) (fun A R s=>s.heap.get? l=some {cls:= .type "tuple",dict:=dd,data:= .seq #[.int p.1 t, .int p.2 u] n,slots:=sl}∧s.heap.get? b=some {cls:= .type "tuple",dict:=EN,data:= .seq #[.int q.1 t', .int q.2 u'] n2,slots:=yc}∧
    R (.ok (.ret (.bool (jy p q)))) s):=
 .of_wp fun prog w A R s h=>by
  obtain⟨hp,g,d,tk,os⟩:=s;obtain⟨hl,hb,h⟩:=h;have f2:=AutoSeq1.sub_tuple_tuple
  wp_walk using wpAny_loadPart' hl,wpAny_loadPart' hb
  refine(show wpAny (model prog w) A.in1 (eqBool (.int p.1 t) (.int q.1 t')) _ _ _ from Oz _ _ _ _ ?_);by_cases a:p.1=q.1
  ·rw[decide_eq_true a]
   wp_walk
   refine(show wpAny (model prog w) A.in1 (eqBool (.int p.2 u) (.int q.2 u')) _ _ _ from Oz _ _ _ _ ?_);by_cases c:p.2=q.2
   ·rw[decide_eq_true c]
    wp_walk
    have e:jy p q=false:=by simp[jy,a,c]
    rw[e]at h;exact⟨_,rfl,h⟩
   ·rw[decide_eq_false c];have e:jy p q=decide (p.2<q.2):=by simp[jy,a]
    rw[e]at h
    wp_walk using OA
    exact⟨_,rfl,h⟩
  ·rw[decide_eq_false a];have e:jy p q=decide (p.1<q.1):=by simp[jy,a]
   rw[e]at h
   wp_walk using OA
   exact⟨_,rfl,h⟩
theorem Ay{prog:Program}{w:World}{A:Around}{E:Value→Shared→Prop}{s:Shared}{x y:Addr}{p q:Int×Int}{Q:Value→Shared→Prop}(hu:A.units<cLine)(hx:rS s.heap x p)(hy:rS s.heap y q)(h:Q (.bool (jy p q)) s):wpAny (model prog w) A (compareOp .Lt (.ref x) (.ref y)) Q E s:=by
 obtain⟨⟨c,dd,da,sl⟩,t,u,n,h1,h2,h3⟩:=hx;obtain⟨⟨c',I0,Zf,Q3⟩,t',u',n',g1,g2,g3⟩:=hy;simp only at h2 h3 g2 g3;subst h2 h3 g2 g3;exact richCompare_meets_room (op:= .Lt) ⟨_,h1,rfl⟩ ⟨_,g1,rfl⟩ F.slot_tuple_lt F.entry_tuple_lt (F.args_tuple_lt_2 _ _) (Fu x y p q t u t' u' n n' dd I0 sl Q3) ⟨h1,g1,show Value.bool (jy p q)≠Value.notImplemented∧Q (.bool (jy p q)) s from⟨(fun x=>nomatch x),h⟩⟩ hu
abbrev Kw:=Int×(Int×Int)
def zJ(a b:Kw):Bool:=if a.1=b.1 then jy a.2 b.2 else decide (a.1<b.1)
theorem LD{p q r:Kw}(a:zJ p q=true)(b:zJ q r=true):zJ p r=true:=by
 unfold zJ at*;by_cases h1:p.1=q.1<;>by_cases h2:q.1=r.1
 ·rw[Z7 h1]at a;rw[Z7 h2]at b;rw[Z7 (h1.trans h2)];exact Fs a b
 ·rw[Z5 h2]at b;rw[Z5 (by rw[h1];exact h2),h1];exact b
 ·rw[Z5 h1]at a;rw[Z5 (by rw[←h2];exact h1),←h2];exact a
 ·rw[Z5 h1]at a;rw[Z5 h2]at b;have a:=of_decide_eq_true a;have b:=of_decide_eq_true b;rw[Z5 UQ];exact decide_eq_true UQ
theorem LF{p q:Kw}(a:zJ p q=true):zJ q p=false:=by
 unfold zJ at*;by_cases h1:p.1=q.1
 ·rw[Z7 h1]at a;rw[Z7 h1.symm];exact Aw a
 ·rw[Z5 h1]at a;rw[Z5 (fun z=>h1 z.symm)];have a:=of_decide_eq_true a;exact decide_eq_false UQ
theorem HP{p q:Kw}(h:p≠q):zJ p q=true∨zJ q p=true:=by
 unfold zJ;by_cases h1:p.1=q.1
 ·rw[Z7 h1,Z7 h1.symm];exact BQ fun z=>h (Prod.ext h1 z)
 ·rw[Z5 h1,Z5 (fun z=>h1 z.symm)];rcases Int.lt_or_lt_of_ne h1 with z|z
  ·exact .inl (decide_eq_true z)
  ·exact .inr (decide_eq_true z)
section
variable{prog:Program}{w:World}{A:Around}{E:Value→Shared→Prop}{s:Shared}
def vO(h:Heap)(x:Addr)(k:Kw):Prop:=∃o t y c,h.get? x=some o∧o.cls= .type "tuple"∧o.data= .seq #[.int k.1 t, .ref y] c∧rS h y k.2
theorem CW{x y:Addr}{p q:Int×Int}(hu:A.units+1<cLine)(hx:rS s.heap x p)(hy:rS s.heap y q):SeqAt.EqAt A s (.ref x) (.ref y) (decide (p=q)):=by
 obtain⟨o,t,u,n,h1,h2,h3⟩:=hx;obtain⟨o',t',u',n',g1,g2,g3⟩:=hy;by_cases e:x=y
 ·subst e;rw[h1]at g1;cases g1;rw[h3]at g3;injection g3 with g3 _;have g3:=congrArg Array.toList g3;simp at g3;have:p=q:=Prod.ext g3.1.1 g3.2.1;rw[decide_eq_true this];exact SeqAt.EqAt.same _
 ·have:=SeqAt.EqAt.of_refs e (SeqAt.RcAt.tuples (A:=A) (s:=s) (items:=#[.int p.1 t, .int p.2 u]) (items2:=#[.int q.1 t', .int q.2 u']) (e:=fun j=>if j=0 then decide (p.1=q.1)else decide (p.2=q.2)) ⟨o,h1,h2,n,h3⟩ ⟨o',g1,g2,n',g3⟩ UQ fun j h1 h2=>by
   have:j=0∨j=1:=by simp at h1;lia
   rcases this with rfl|rfl
   ·exact Oz
   ·exact Oz)
  have e2:((Ι (min #[Value.int p.1 t, .int p.2 u].size #[Value.int q.1 t', .int q.2 u'].size)).all (fun j=>if j=0 then decide (p.1=q.1)else decide (p.2=q.2))&&#[Value.int p.1 t, .int p.2 u].size==#[Value.int q.1 t', .int q.2 u'].size)=decide (p=q):=by
   simp[List.range_succ];by_cases a:p.1=q.1<;>by_cases b:p.2=q.2<;>simp[Prod.ext_iff,a,b]
  rw[e2]at this;exact this
theorem LG{x y:Addr}{p q:Kw}{C:Bool→Shared→Prop}(hu:A.units+1<cLine)(hx:vO s.heap x p)(hy:vO s.heap y q)(h:C (zJ p q) s):wpAny (model prog w) A (keyLt' (tuples' true) (.ref x) (.ref y)) C E s:=by
 obtain⟨ox,t,z,n,h1,h2,h3,h4⟩:=hx;obtain⟨oy,t',z',n',g1,g2,g3,g4⟩:=hy;refine kat_lt h1 h3 g1 g3 (kat_cons (Oz _ _ _ _ ?_));by_cases a:p.1=q.1
 ·rw[decide_eq_true a];refine kat_yes (kat_cons (CW hu h4 g4 _ _ _ _ ?_));have e:zJ p q=jy p.2 q.2:=Z7 a;by_cases b:p.2=q.2
  ·rw[decide_eq_true b];refine kat_yes (kat_nil ?_);have:zJ p q=decide (#[Value.int p.1 t, .ref z].size<#[Value.int q.1 t', .ref z'].size):=by rw[e,b];simp[jy]
   rw[this]at h;exact h
  ·rw[decide_eq_false b];rw[e]at h;exact kat_no (kat_one _ _ (Ay UQ h4 g4 h))
 ·rw[decide_eq_false a];have e:zJ p q=decide (p.1<q.1):=Z5 a;rw[e]at h;exact kat_no (oneLt_int h)
end
theorem LH{X:Cx}{cm:Bool}{k:Nat}{f:Addr}{fd:FuncData}{ps:List Str}{sp:Sp}{A':Around}{pins:List (Addr×Obj)}{σ:St}{H:Hp}{s:Shared}{Q:VK}{us:List Value}{vs:List V}{E:Value→Shared→Prop}
  (F:a8 X.prog X.w X.K X.mg X.base (c7 X.prog X.w) cm k f fd ps sp) (hr:eV cm k A') (hf:A'.frames=X.A.frames) (hb:Binds X.K fd ps []) (I:Inv X pins σ H s) (r:Vals vs us) (h:sp vs H Q E0):
  wpAny (model X.prog X.w) A' (call (.ref f) us) (EP X pins σ Q) E s:=by
 have hl:(us++[]).length=ps.length:=by rw[List.append_nil,←r.length];exact F.len _ _ _ _ h
 have Mw:=hb s us I.qd hl;rw[List.append_nil]at Mw;refine wpAny_call (codeAny_mono (F.run A' X.stack s H ⟨us,[]⟩ us vs Q E0 hr {I.Kl with frames:=by rw[hf];exact I.ok.frames} Mw r h) fun r s' hq=>?_);cases r with
 |error e=>obtain⟨_,_,_,_,_,_,_,_,_,_,_,_,_,h⟩:=hq;exact h.elim
 |ok fl=>
  cases fl with
  |ret u=>exact I.after hq
  |next=>exact False.elim hq
  |brk=>exact False.elim hq
  |cont=>exact False.elim hq
end L2
namespace QF
open PySem L2 PySem.Spec PyProof.Rows PySem.W PySem.Calls
def KQ(H1:Hp)(w:Kw):VK:=fun y H2=>ax H1 H2∧∃k t,y= .ref k∧H2 k=some (.tup [.int w.1, .ref t])∧H2 t=some (.tup [.int w.2.1, .int w.2.2])
def kl(ws:List Kw)(i j:Nat):Bool:=zJ (ws.getD i (0,(0,0))) (ws.getD j (0,(0,0)))
def Ks(H:Hp)(ws:List Kw)(as:List Addr):Prop:=∀j k,as[j]?=some k→∃t,H k=some (.tup [.int (ws.getD j (0,(0,0))).1, .ref t])∧H t=some (.tup [.int (ws.getD j (0,(0,0))).2.1, .int (ws.getD j (0,(0,0))).2.2])
theorem Ks.key{X:Cx}{pins:List (Addr×Obj)}{σ:L2.St}{H:Hp}{s:Shared}{ws:List Kw}{as:List Addr}{j:Nat}{k:Addr}(I:Inv X pins σ H s)(h:Ks H ws as)(e:as[j]?=some k):vO s.heap k (ws.getD j (0,(0,0))):=by
 obtain⟨t,h1,h2⟩:=h j k e;obtain⟨its,r,⟨o,e1,e2,n,e3⟩,_⟩:=I.tuple (xs:=[.int (ws.getD j (0,(0,0))).1, .ref t]) (.of h1);obtain⟨its',r',⟨o',g1,g2,n',g3⟩,_⟩:=I.tuple (xs:=[.int (ws.getD j (0,(0,0))).2.1, .int (ws.getD j (0,(0,0))).2.2]) (.of h2);cases r with
 |cons a b=>cases b with
  |cons c d=>
   cases d;obtain⟨ta,rfl⟩:=a;cases c;cases r' with
   |cons a' b'=>cases b' with
    |cons c' d'=>
     cases d';obtain⟨Xi,rfl⟩:=a';obtain⟨Xj,rfl⟩:=c';exact⟨o,ta,t,n,e1,e2,e3,o',Xi,Xj,n',g1,g2,g3⟩
theorem yY{h:Heap}:∀{its:List Value},(∀v∈its,∃x p,v= .ref x∧vO h x p)→∃fs,KatTups h its fs∧fs.length=its.length∧∀f∈fs,∃i t,f=Value.int i t
 |[],_=>⟨[], .nil,rfl,fun f hf=>by cases hf⟩
 |v::r,hv=>by
  obtain⟨x,p,rfl,o,t,u,n,h1,h2,h3,_⟩:=hv v (List.mem_cons_self ..);obtain⟨fs,k1,k2,k3⟩:=yY (its:=r) fun v Nz=>hv v (ε Nz)
  refine⟨.int p.1 t::fs, .cons h1 h2 h3 rfl k1,by simp[k2],fun f hf=>?_⟩;rcases List.mem_cons.mp hf with rfl|hf
  ·exact⟨_,_,rfl⟩
  ·exact k3 f hf
theorem Fv{prog:Program}{w:World}{A:Around}{E:Value→Shared→Prop}{s:Shared}{its:List Value}{Q:SortKind→Shared→Prop}(eX:0<its.length)(hv:∀v∈its,∃x p,v= .ref x∧vO s.heap x p)(h:Q (tuples' true) s):wpAny (model prog w) A (keyKind' its.toArray) Q E s:=by
 obtain⟨fs,k1,k2,k3⟩:=yY hv;refine kat_kind (T:= .type "int") k1 UQ (fun v hv=>?_) (ZD) h;obtain⟨i,t,rfl⟩:=k3 v hv;exact .now
section
variable{X:Cx}{cm:Bool}{k:Nat}{f:Addr}{fd:FuncData}{ps:List Str}{sp:Sp}{A':Around}{pins:List (Addr×Obj)}{σ:L2.St}{H:Hp}{s:Shared}{E:Value→Shared→Prop}{a kS:Addr}{vs:List Value}{xs:List V}{ws:List Kw}{e1:Nat}{P:PySem.Fin→Shared→Prop}
theorem Fw(hu:A'.units+1<cLine)(I:Inv X pins σ H s){kA:Array Value}{e:Nat}{as:List Addr}(hk:s.heap.get? kS=some (seqObj "list" kA e))(ha:s.heap.get? a=some (seqObj "list" #[] e1))(fk:iz X pins H kS)(fa:iz X pins H a)(eX:kS≠a)
  (ek:kA.toList=as.map Value.ref) (el:as.length=vs.length) (K:Ks H ws as) (r:Vals xs vs) (hlen:ws.length=vs.length) (nd:ws.Nodup) (Fq:vs.length<10000)
  (h:∀p s',ye vs.length p→Sd (kl ws) p vs.length→Inv X pins σ (upd H a (.lst (p.toList.map fun i=>xs.getD i .cR))) s'→P (.done (.ret .none)) s'):
  wpAny (model X.prog X.w) A' (ksk_end a false vs.toArray e1 (.ref kS) kA) P E s:=by
 have Xk:kA=(as.map Value.ref).toArray:=by apply Array.toList_inj.mp;simpa using ek
 subst Xk;have hl:(as.map Value.ref).length=vs.length:=by rw[List.length_map];exact el
 have key:∀i,i<vs.length→∃x,(as.map Value.ref).getD i Value.none= .ref x∧vO s.heap x (ws.getD i (0,(0,0))):=fun i hi=>by
  have hx:as[i]?=some as[i]:=ι UQ;exact⟨as[i],by simp[show i<as.length by lia],K.key I hx⟩
 have L:An vs.length (kl ws):=by
  refine⟨fun i j k _ _ _ a b=>LD a b,fun i j _ _ a=>LF a,fun i j hi hj eX=>HP fun e=>eX ?_⟩;have e:ws[i]?=ws[j]?:=by
   rw[ι UQ,ι UQ];simpa[show i<ws.length by lia,show j<ws.length by lia]using e
  exact(List.getElem?_inj UQ nd).mp e
 have tail:∀(st:SortSt)(p:Array Nat),ye vs.length p→Sd (kl ws) p vs.length→(WU st).map (·.2)=List.toArray (p.toList.map fun i=>vs.getD i Value.none)→failedOf st=none→wpAny (model X.prog X.w) A' (ksk_tail a false e1 (.ref kS) st) P E s:=fun st p hp hs hm hf=>by
  have hsz:(List.toArray (p.toList.map fun i=>vs.getD i Value.none)).size=vs.length:=by rw[List.size_toArray,List.length_map,Array.length_toList,hp.size]
  have s1:=Heap.SameBut.update s.heap kS (Obj.mapSeq fun _=>(#[]:Array Value));have Au:(ν kS).get? a=some (seqObj "list" #[] e1):=(s1.2 a (Ne.symm eX)).trans ha;have s2:=Heap.SameBut.update (ν kS) a (Obj.mapSeq fun _=>List.toArray (p.toList.map fun i=>vs.getD i Value.none));obtain⟨c2,qm⟩:∃c2,((ν kS).update a (Obj.mapSeq fun _=>List.toArray (p.toList.map fun i=>vs.getD i Value.none))).get? a=some (seqObj "list" (List.toArray (p.toList.map fun i=>vs.getD i Value.none)) c2):=⟨_,get?_update_seq Au fun _=>List.toArray (p.toList.map fun i=>vs.getD i Value.none)⟩
  unfold ksk_tail
  try dsimp only
  simp only[Bool.false_eq_true,if_false];rw[hm];refine wpAny_bind (listUpdate_at hk rfl (Ζ (wpAny_letGo ?_)) (by rw[List.size_toArray,hl,sizeLine_eq];lia) (Nat.zero_le _));refine wpAny_bind (seqEpoch_at (s:={s with heap:=ν kS}) Au rfl (Ζ (listUpdate_at (s:={s with heap:=ν kS}) Au rfl ?_ (Nat.zero_le _) (Nat.le_trans (Nat.le_of_eq hsz) (by rw[sizeLine_eq];lia)))));rw[hf];simp only[bne_self_eq_false,Bool.false_eq_true,if_false];have hr:=r.length;have mem:∀i∈p.toList,i<vs.length:=fun i hi=>by
   have:=hp.mem_iff.mp hi;simpa using this
  have rel:Vals (p.toList.map fun i=>xs.getD i .cR) (p.toList.map fun i=>vs.getD i Value.none):=yX fun i hi=>by
   have hi:=mem i hi;obtain⟨v,h1,h2⟩:=r.get (i:=i) (x:=xs[i]) (by simp[show i<xs.length by lia]);have e1:xs.getD i .cR=xs[i]:=by simp[show i<xs.length by lia]
   have e2:vs.getD i .none=v:=by simp[h1]
   rw[e1,e2];exact h2
  refine wpAny_pure (h p _ hp hs (I.Bz (t':=s.toks) (fp:=[kS,a]) (fun b hb=>?_) fa (fun b o hb e=>?_) ⟨by rw[List.length_map,Array.length_toList,hp.size,sizeLine_eq];lia,_,c2,rel,qm⟩))
  ·simp only[List.mem_cons,List.mem_singleton,List.not_mem_nil,or_false]at hb;rcases hb with rfl|rfl
   ·exact fk
   ·exact fa
  ·simp only[List.mem_cons,List.not_mem_nil,or_false,not_or]at hb;exact(s2.2 b hb.2).trans ((s1.2 b hb.1).trans e)
 unfold ksk_end
 try dsimp only
 simp only[Bool.false_eq_true,if_false];by_cases h2:2≤vs.length
 ·have yb:¬vs.toArray.size<2:=by rw[List.size_toArray];lia
  rw[Z5 yb,Z5 yb];refine wpAny_bind (wpAny_mono (Fv (Q:=fun Ql s'=>Ql=tuples' true∧s'=s) (E:=E) (its:=as.map Value.ref) (by lia) (fun v hv=>?_) ⟨rfl,rfl⟩) ?_ fun _ _ x=>x)
  ·obtain⟨i,hi,rfl⟩:=List.mem_iff_getElem.mp hv;obtain⟨x,h3,h5⟩:=key i UQ;exact⟨x,_,by rw[←h3];simp[show i<as.length by simpa using hi],h5⟩
  rintro Ql s0 ⟨Xl,Xm⟩;rw[Xl,Xm];have OB:(as.map Value.ref).Nodup:=by
   refine List.pairwise_iff_getElem.mpr fun i j hi hj uy e=>?_
   have Bm:i<as.length:=by simpa using hi
   have DF:j<as.length:=by simpa using hj
   have e:as[i]=as[j]:=by simpa using e
   obtain⟨t1,a1,a2⟩:=K i as[i] (ι Bm);obtain⟨t2,b1,b2⟩:=K j as[j] (ι DF);rw[←e,a1]at b1;have h1:=HO.tup.inj (Z' b1);simp only[List.cons.injEq,V.int.injEq,V.ref.injEq,and_true]at h1;rw[←h1.2,a2]at b2;have h2:=HO.tup.inj (Z' b2);simp only[List.cons.injEq,V.int.injEq,and_true]at h2;have e9:ws.getD i (0,(0,0))=ws.getD j (0,(0,0)):=Prod.ext h1.1 (Prod.ext h2.1 h2.2);have g1:ws[i]?=some (ws.getD i (0,(0,0))):=by simp[show i<ws.length by lia]
   have g2:ws[j]?=some (ws.getD j (0,(0,0))):=by simp[show j<ws.length by lia]
   have:=(List.getElem?_inj UQ nd).mp (g1.trans (by rw[e9];exact g2.symm))
   lia
  refine wpAny_bind (wpAny_mono (BP (lt:=kl ws) hl UQ L OB fun i j hi hj C hC=>?_) ?_ fun _ _ e=>e)
  ·obtain⟨x,h3,h5⟩:=key i hi;obtain⟨y,g3,g5⟩:=key j hj;rw[h3,g3];exact LG hu h5 g5 hC
  rintro⟨⟨⟩,aT⟩ s' ⟨p,SF,hp,hs,SD,hf⟩;rw[SF];exact tail aT p hp hs (kat_snds hl SD) hf
 ·have yb:vs.toArray.size<2:=by rw[List.size_toArray];lia
  rw[Z7 yb,Z7 yb];refine wpAny_bind (Ε (Ζ (Ε ?_)));have hp:ye vs.length (List.toArray (Ι vs.length)):=by unfold ye;simp
  refine tail _ _ hp (fun i j uy hj=>by lia) ?_ rfl;show((as.map Value.ref).toArray.zip vs.toArray).map (·.2)=_;apply Array.toList_inj.mp;rw[Array.toList_map,Array.toList_zip];refine(List.map_snd_zip (by simp;lia)).trans ?_
  match vs,h2 with
  |[],_=>rfl
  |[x],_=>rfl
  |x::y::r,h=>simp at h
theorem CY(F:a8 X.prog X.w X.K X.mg X.base (c7 X.prog X.w) cm k f fd ps sp)(hr:eV cm k A')(hf:A'.frames=X.A.frames)(hb:Binds X.K fd ps [])(hu:A'.units+1<cLine)(I:Inv X pins σ H s)(hk:s.heap.get? kS=some (seqObj "list" #[] 0))(ha:s.heap.get? a=some (seqObj "list" #[] e1))
  (fk:iz X pins H kS) (fa:iz X pins H a) (eX:kS≠a) (r:Vals xs vs) (hlen:ws.length=vs.length) (nd:ws.Nodup) (Fq:vs.length<10000)
  (oA:∀i v H1,xs[i]?=some v→ax H H1→sp [v] H1 (KQ H1 (ws.getD i (0,(0,0)))) E0)
  (h:∀p H' s',ye vs.length p→Sd (kl ws) p vs.length→ax H H'→H' a=none→Inv X pins σ (upd H' a (.lst (p.toList.map fun i=>xs.getD i .cR))) s'→P (.done (.ret .none)) s'):
  wpAny (model X.prog X.w) A' (ksk_rest a (.ref f) false vs.toArray e1 (.ref kS)) P E s:=by
 have MB:=r.length;unfold ksk_rest;refine wpAny_bind (wpAny_rule ?_);first
  |rw[List.forIn_toArray]
  |(rw[←Array.forIn_toList];simp only[List.toList_toArray])
 refine wpAny_bind (ksk_fold (fun i s'=>∃(H':Hp)(as:List Addr)(e:Nat),Inv X pins σ H' s'∧ax H H'∧s'.heap.get? kS=some (seqObj "list" (as.map Value.ref).toArray e)∧s'.heap.get? a=some (seqObj "list" #[] e1)∧iz X pins H' kS∧iz X pins H' a∧as.length=i∧Ks H' ws as) vs 0 s
  ⟨H,[],0,I,fun _ _ z=>z,hk,ha,fk,fa,rfl,fun j k e=>by simp at e⟩ ?_ ?_)
 ·rintro j x s' hx ⟨H',as,e,I',sm,EV,OC,Qm,OD,el,K⟩;simp only[Nat.zero_add]at el⊢;have hj:j<vs.length:=(ZO hx).1;obtain⟨u,U7,Qn⟩:=r.get (i:=j) (x:=xs[j]) (by simp[show j<xs.length by lia]);rw[hx]at U7;cases U7;have Ip:=I'.pinned (fp:=[kS,a]) (fun b hb=>by
   simp only[List.mem_cons,List.not_mem_nil,or_false]at hb;rcases hb with rfl|rfl
   ·exact Qm
   ·exact OD) (fun b hb=>by
   simp only[List.mem_cons,List.not_mem_nil,or_false]at hb;rcases hb with rfl|rfl
   ·exact⟨_,EV,fun v z=>nomatch z⟩
   ·exact⟨_,OC,fun v z=>nomatch z⟩)
  refine wpAny_bind (wpAny_attempt (wpAny_mono (LH F hr hf hb Ip (.cons Qn .nil) (oA j xs[j] H' (by simp[show j<xs.length by lia]) sm)) (fun v wg he=>?_) fun _ _ z=>z));obtain⟨y,H2,I2,ry,SG,kk,t,rfl,k1,k2⟩:=he;cases ry;dsimp only;have pk:=I2.pin (kS,_) (γ (γ (gR ZA EV)));have pa:=I2.pin (a,_) (γ (γ (gR ZA OC)));have I3:=I2.lH;have s1:=Heap.SameBut.update wg.heap kS (Obj.mapSeq (·.push (.ref kk)));obtain⟨c2,qm⟩:∃c2,(wg.heap.update kS (Obj.mapSeq (·.push (.ref kk)))).get? kS=some (seqObj "list" ((as.map Value.ref).toArray.push (.ref kk)) c2):=⟨_,get?_update_seq pk.1 (·.push (.ref kk))⟩
  refine wpAny_bind (listUpdate_at pk.1 rfl ?_ (by simp;rw[sizeLine_eq];lia) (by simp;rw[sizeLine_eq];lia));have MD:iz X pins H2 kS:=⟨pk.2.1,Qm.2⟩
  have Xn:iz X pins H2 a:=⟨pa.2.1,OD.2⟩
  refine wpAny_pure ⟨rfl,H2,as++[kk],c2,I3.turned (t':=wg.toks) (it:=kS) (fun b o hb e=>(s1.2 b hb).trans e) MD.1 MD.2.1 MD.2.2.2.1 MD.2.2.2.2.1 MD.2.2.2.2.2,fun b o z=>SG b o (sm b o z),?_,(s1.2 a (Ne.symm eX)).trans pa.1,MD,Xn,by simp[el],fun i k ei=>?_⟩
  ·show(wg.heap.update kS (Obj.mapSeq (·.push (.ref kk)))).get? kS=_;rw[qm]
   congr 2
   simp
  ·by_cases hi:i<as.length
   ·rw[Υ hi]at ei;obtain⟨t',g1,g2⟩:=K i k ei;exact⟨t',SG _ _ g1,SG _ _ g2⟩
   ·rw[Ω UQ]at ei;have Xo:i-as.length=0:=by
     have:=(ZO ei).1;simp at this
     lia
    rw[Xo]at ei;have:kk=k:=by simpa using ei
    subst this;have:i=j:=by lia
    subst this;exact⟨t,k1,k2⟩
 ·rintro s' ⟨H',as,e,I',sm,EV,OC,Qm,OD,el,K⟩;refine wpAny_bind (listItems_at EV rfl ?_);exact Fw hu I' EV OC Qm OD eX ZA (by lia) K r hlen nd Fq fun p s2 hp hs I2=>h p H' s2 hp hs sm OD.1 I2
theorem CZ{n:Nat}(F:a8 X.prog X.w X.K X.mg X.base (c7 X.prog X.w) cm k f fd ps sp)(hr:eV cm k A')(hf:A'.frames=X.A.frames)(hb:Binds X.K fd ps [])(hu:A'.units+1<cLine)(I:Inv X pins σ H s)(ho:s.heap.get? a=some (seqObj "list" vs.toArray n))
  (fa:iz X pins H a) (r:Vals xs vs) (hlen:ws.length=vs.length) (nd:ws.Nodup) (Fq:vs.length<10000)
  (oA:∀i v H1,xs[i]?=some v→ax H H1→sp [v] H1 (KQ H1 (ws.getD i (0,(0,0)))) E0)
  (h:∀p H' s',ye vs.length p→Sd (kl ws) p vs.length→ax H H'→H' a=none→Inv X pins σ (upd H' a (.lst (p.toList.map fun i=>xs.getD i .cR))) s'→P (.done (.ret .none)) s'):
  wpAny (model X.prog X.w) A' (ksk_tree a (.ref f) false) P E s:=by
 have s1:=Heap.SameBut.update s.heap a (Obj.mapSeq fun _=>(#[]:Array Value));obtain⟨e1,HM⟩:∃e1,(ν a).get? a=some (seqObj "list" #[] e1):=⟨_,get?_update_seq ho fun _=>#[]⟩
 have I1:Inv X pins σ H {s with heap:=ν a}:=I.turned (t':=s.toks) (it:=a) (fun b o hb e=>(s1.2 b hb).trans e) fa.1 fa.2.1 fa.2.2.2.1 fa.2.2.2.2.1 fa.2.2.2.2.2;unfold ksk_tree;refine wpAny_bind (listItems_at ho rfl (Ζ (listUpdate_at ho rfl ?_ (by rw[List.size_toArray,sizeLine_eq];lia) (Nat.zero_le _))));refine wpAny_bind (seqEpoch_at HM rfl (Ζ (wpAny_newTuple (Ζ (wpAny_newList (wpAny_holding ?_) (Nat.zero_le _))) (by show vs.length≤_;rw[sizeLine_eq];lia))));have I2:Inv X pins σ H {s with heap:=(ν a).push (seqObj "tuple" vs.toArray 0)}:=I1.kept (t':=s.toks) fun b o e=>Z6 e
 have I3:Inv X pins σ H {s with heap:=((ν a).push (seqObj "tuple" vs.toArray 0)).push (seqObj "list" #[] 0)}:=I2.kept (t':=s.toks) fun b o e=>Z6 e
 have fk:=I2.uC Λ (I2.bY.fresh Λ);have yd:=Heap.get?_push_of_some (seqObj "tuple" vs.toArray 0) HM;exact CY F hr hf hb hu I3 (Heap.get?_push_size _ rfl) (Z6 yd) fk fa (Nat.ne_of_gt (Κ yd)) r hlen nd Fq oA h
theorem Az{l:Addr}{Q:VK}(F:a8 X.prog X.w X.K X.mg X.base (c7 X.prog X.w) cm k f fd ps sp)(hr:eV cm (k+1) X.A)(hb:Binds X.K fd ps [])(I:Inv X pins σ H s)(hq:iD X.K H l xs)(hlen:ws.length=xs.length)(nd:ws.Nodup)(Fq:xs.length<10000)
  (oA:∀i v H1,xs[i]?=some v→ax H H1→sp [v] H1 (KQ H1 (ws.getD i (0,(0,0)))) E0)
  (h:∀p H' D,ye xs.length p→Sd (kl ws) p xs.length→ax H H'→H D=none→H' D=none→Q (.ref D) (upd H' D (.lst (p.toList.map fun i=>xs.getD i .cR)))):
  wpAny (model X.prog X.w) X.A (call (.builtin "sorted") [.ref l] [(Str.ofString "key", .ref f)]) (EP X pins σ Q) E s:=by
 obtain⟨vs,r,pl,hz⟩:=I.list hq;have MB:=r.length;refine call_function_entry_kw kind_sorted plain_sorted entry_sorted (ksk_s1 _ _) ?_;unfold Builtin.«sorted»;refine wpAny_bind (m:=checkCount "sorted" 1 1 _) (Ε (Ζ (collect_list pl.isList (Ζ (wpAny_newList ?_ (by rw[sizeLine_eq];lia))) (by rw[sizeLine_eq];lia))));generalize hh:((s.heap.push (seqObj "list" #[] 0)).update s.heap.objs.size (Obj.mapSeq (·++vs.toArray)))=h1;have hsz:h1.objs.size=s.heap.objs.size+1:=by rw[←hh,Heap.size_update,size_push']
 have keep:∀b o,s.heap.get? b=some o→(h1.push (seqObj "list" vs.toArray 0)).get? b=some o:=fun b o q=>by
  have ig:b<s.heap.objs.size:=Κ q;rw[Heap.get?_push_ne _ _ _ (by rw[hsz];exact Nat.ne_of_lt (Nat.lt_succ_of_lt ig)),←hh,Heap.get?_update_ne _ _ _ _ (Nat.ne_of_lt ig),Heap.get?_push_ne _ _ _ (Nat.ne_of_lt ig)];exact q
 have IL:(h1.push (seqObj "list" vs.toArray 0)).get? h1.objs.size=some (seqObj "list" vs.toArray 0):=Heap.get?_push_size _ rfl;have hD:s.heap.objs.size≤h1.objs.size:=by rw[hsz];exact Nat.le_succ _
 have U8:H h1.objs.size=none:=I.bY.fresh hD;have I1:Inv X pins σ H {s with heap:=h1.push (seqObj "list" vs.toArray 0)}:=I.kept (t':=s.toks) keep;show wpAny _ _ _ _ _ {s with heap:=h1.push (seqObj "list" vs.toArray 0)};refine wpAny_bind (wpAny_holding (wpAny_call_entry_kw slot_list_sort ⟨_,IL,rfl⟩ entry_list_sort ?_ (ksk_l1 _ _)));show wpAny (model X.prog X.w) X.A.in1.in1 (Builtin.«list.sort» ⟨[.ref h1.objs.size],[(Str.ofString "key", .ref f)]⟩) _ _ _;rw[ksk_t1];have un:=hr.un;refine CZ F ⟨hr.hd,by have:=hr.dp;show X.A.depth+3*k+5<_;lia,by show X.A.units+1+1+16*k+200<_;lia⟩ rfl hb (by show X.A.units+1+1+1<_;lia) I1 IL (I.uC hD U8) r UQ nd UQ oA fun p H' s' hp hs sm hn I'=>⟨_,rfl,Ε ⟨_,rfl, .ref h1.objs.size,_,I',rfl,?_⟩⟩
 rw[←MB]at hp hs;exact h p H' _ hp hs sm U8 hn
end
inductive Fx(K:Frag)(sp:Sp)(x:V)(H:Hp)(Q:VK):Prop
 |mk (l:Addr) (xs:List V) (ws:List Kw) (_:x= .ref l) (_:iD K H l xs) (_:ws.length=xs.length) (_:ws.Nodup) (_:xs.length<10000) (_:∀i v H1,xs[i]?=some v→ax H H1→sp [v] H1 (KQ H1 (ws.getD i (0,(0,0)))) E0)
  (_:∀p H' D,ye xs.length p→Sd (kl ws) p xs.length→ax H H'→H D=none→H' D=none→Q (.ref D) (upd H' D (.lst (p.toList.map fun i=>xs.getD i .cR)))):Fx K sp x H Q
def LI(K:Frag)(sp:Sp)(ta:TE):TE:=fun σ H Q=>ta σ H fun x H1=>Fx K sp x H1 Q
theorem Fy{X:Cx}(K:Frag){cm:Bool}{k:Nat}{x:Str}{ps:List Str}{sp:Sp}{e:Expr}{ta:TE}{p pos kp fp:Pos}(D:bM X.prog X.w X.K X.mg X.base cm k x ps sp)(hr:eV cm (k+1) X.A)(he:PE X e ta)(hg:Gl X "sorted")(hm:X.mg "sorted"=none)
  (Xp:Gl X x:=by rfl) (we:(x==("__debug__":Str))=false:=by decide) (hs:starEach [e] X.env=[(false,eval e X.env)]:=by rfl) (hK:X.K=K:=by rfl):
  PE X (.Call (.Name "sorted" p) [e] [⟨some "key", .Name x fp,kp⟩] pos) (LI K sp ta):=by
 subst hK;obtain⟨f,fd,ok,Xq,hk,hb⟩:=D;intro pins s σ H Q I h;refine wpAny_Call_Name_kw (lF I hg hm (PyProof.Rows.Boot.«sorted») ?_ (ZD) (ZD));rw[hs];refine callWith_builtin_kwB (first:=[]) rfl rfl (evalArgs_kwB rfl ?_);refine Calls.spliced_cons ?_;show wpAny _ _ (eval e X.env) _ _ s;refine cI (he pins s σ H _ I h) fun v s1 ⟨y,H1,I1,r1,q1⟩=>Calls.spliced_nil ?_
 obtain⟨l,xs,ws,rfl,hq,hlen,nd,Fq,oA,q⟩:=q1;cases r1;refine kws_cons ?_;show wpAny _ _ (eval (.Name x fp) X.env) _ _ s1;refine cI (A8 (v:= .ref f) Xp Xq rfl we pins s1 σ H1 (fun y H2=>y= .ref f∧H2=H1) I1 ⟨rfl,rfl⟩) fun u s2 ⟨y,H2,I2,r2,e1,e2⟩=>?_
 subst e1 e2;cases r2;refine kws_nil ?_;exact Az ok hr hb I2 hq hlen nd Fq oA q
end QF
namespace L2
open PySem PySem.Spec PyProof.Rows PySem.W PySem.Calls
def ME(hi:Int)(n:Nat):It:=⟨fun i _=>i<n,fun i H x H'=>H'=H∧x= .int (hi-i),fun i _=>n≤i⟩
theorem C0{P:Program}{w:World}{K:PySem.W.Frag}{tg:Expr}(it:Addr)(hi:Int)(n:Nat):Turn P w K tg (ME hi n) [it] it (fun i h=>IsRangeIter h it (hi+(i:Nat)*(-1)) ((n:Int)-(i:Nat)) (-1)) where
 mem:=ZF
 obj:=fun i h st b hb=>by
  have e:b=it:=by simpa using hb
  subst e;exact⟨_,st,fun v z=>by
   have z':Data.fields _=Data.cell v:=z;cases z'⟩
 keep:=fun i h h' st k=>k it (ZF) _ st
 item:=by
  intro X hP hw hK hc i pins s σ H E I hf st hg;subst hP hw hK;obtain⟨f0,f1,f2,f3,f4,f5⟩:=hf it (ZF);have W:=Walks.range (prog:=X.prog) (w:=X.w) (I.ok.hd hc) it hi (-1) n;refine W.item i s _ _ hg st fun v h' tk hv aT kk=>?_
  obtain⟨t,rfl⟩:=hv;have I1:Inv X pins σ H {s with heap:=h',toks:=tk}:=I.turned (fun b o hb e=>kk b o (by simpa using hb) e) f0 f1 f3 f4 f5;refine⟨_,rfl,yt (s:={s with heap:=h',toks:=tk}) (n:="range_iterator") aT rfl rfl (ZD) ⟨.int (hi-i),H,I1,⟨t,?_⟩,⟨rfl,rfl⟩,aT,fun b hb=>(hf b hb).1⟩⟩
  congr 1
  lia
 done:=by
  intro X hP hw hK hc i pins s σ H E I hf st hg;subst hP hw hK;obtain⟨f0,f1,f2,f3,f4,f5⟩:=hf it (ZF);exact wpAny_pyNext_range_end (I.ok.hd hc) st (by have:n≤i:=hg;lia) fun h' eb=>⟨rfl,I.turned (t':=s.toks) (fun b o hb e=>eb b o hb e) f0 f1 f3 f4 f5⟩
 self:=fun _ _ _ _ _ st h=>wpAny_pyIter_rangeiter st h
theorem rangeSize_down(a b:Int):Builtin.Range.rangeSize a b (-1)=if a>b then a-b else 0:=by
 unfold Builtin.Range.rangeSize;rw[if_neg (ZD)];split<;>simp
theorem small_down{a b:Int}(ha:-(2^62)≤a)(OC:a<2^62)(hb:-(2^62)≤b)(Mw:b<2^62):Builtin.Range.small a b (-1)=true:=by
 unfold Builtin.Range.small;rw[rangeSize_down];simp only[Builtin.Range.rangeFitsLong,Bool.and_eq_true,Bool.or_eq_true,decide_eq_true_eq,beq_iff_eq,show ¬(-1:Int)>0 by decide,if_false];split<;>lia
section
variable{X:Cx}{tg:Expr}
theorem HQ{pins:List (Addr×Obj)}{σ:L2.St}{H:Hp}{s:Shared}{R:It→Hp→Prop}{E:Value→Shared→Prop}{hi lo:Int}{t u v:Tok}{tk:Nat}(I:Inv X pins σ H s)(h1:-(2^62)≤hi)(h2:hi<2^62)(h3:-(2^62)≤lo)(h4:lo<2^62)
  (q:R (ME hi (hi-lo).toNat) H):wpAny (model X.prog X.w) X.A (pyIter (.ref s.heap.objs.size)) (Ri X pins σ tg R) E {s with heap:=s.heap.push {cls:= .type "range",data:= .fields #[.int hi t, .int lo u, .int (-1) v]},toks:=tk}:=by
 refine wpAny_pyIter_range (IsRange.new ..) (small_down h1 h2 h3 h4) ?_;have I1:Inv X pins σ H {s with heap:=s.heap.push {cls:= .type "range",data:= .fields #[.int hi t, .int lo u, .int (-1) v]},toks:=tk}:=I.kept fun b o e=>Z6 e
 refine⟨(s.heap.push {cls:= .type "range",data:= .fields #[.int hi t, .int lo u, .int (-1) v]}).objs.size,[(s.heap.push {cls:= .type "range",data:= .fields #[.int hi t, .int lo u, .int (-1) v]}).objs.size],_,_,H,rfl,
  I1.kept (t':=tk) fun b o e=>Z6 e,C0 _ hi (hi-lo).toNat,?_,fun b hb=>?_,q⟩
 ·have e1:hi+((0:Nat):Int)*(-1)=hi:=ZF;have e2:(((hi-lo).toNat:Nat):Int)-((0:Nat):Int)=Builtin.Range.rangeSize hi lo (-1):=by rw[rangeSize_down];split<;>lia
  show IsRangeIter _ _ (hi+((0:Nat):Int)*(-1)) ((((hi-lo).toNat:Nat):Int)-((0:Nat):Int)) (-1);rw[e1,e2];exact Heap.get?_push_size _ rfl
 ·have e:b=(s.heap.push {cls:= .type "range",data:= .fields #[.int hi t, .int lo u, .int (-1) v]}).objs.size:=by simpa using hb
  subst e;exact I1.uC Λ (I1.bY.fresh Λ)
def OE(ta:TA):TI:=fun σ H R=>ta σ H fun vs H1=>∃i j:Int,vs=[.int i, .int j, .int (-1)]∧(-(2^30)≤i∧i<2^30∧-(2^30)≤j∧j<2^30)∧R (ME i (i-j).toNat) H1
theorem vP{a b c:Expr}{ta:TA}{p pos:Pos}(hg:Gl X "range")(hm:X.mg "range"=none)(ha:PA X [a,b,c] ta)(hs:starEach [a,b,c] X.env=[(false,eval a X.env),(false,eval b X.env),(false,eval c X.env)]:=by rfl)(Ki:starEach [b,c] X.env=[(false,eval b X.env),(false,eval c X.env)]:=by rfl):
  PI X tg (.Call (.Name "range" p) [a,b,c] [] pos) (OE ta):=by
 intro pins s σ H R I h;refine Call_ (lF I hg hm boot_range (PyProof.Rows.callWith_type1 (cI (ha pos pins s σ H _ I h) fun us s1 ⟨vs,H1,I1,r1,q1⟩=>?_) (by rw[hs,Ki]) (by rw[Ki];rfl)));obtain⟨i,j,e,⟨q1,q2,q3,q4⟩,q⟩:=q1;subst e;cases r1 with
 |cons r rr=>
  cases rr with
  |cons r' rr=>
   cases rr with
   |cons r2 rr=>
    cases rr;obtain⟨t,rfl⟩:=r;obtain⟨t',rfl⟩:=r';obtain⟨t2,rfl⟩:=r2;exact call_range_3 (ZD) (HQ I1 UQ (by lia) (by lia) (by lia) q) (Or.inl (PyProof.noPylong_small UQ))
theorem yZ{hi:Int}{n:Nat}{g:TG}{tb:TS}{D:Ends}{σ:L2.St}{H:Hp}(Pv:Nat→L2.St→Hp→Prop)(h0:Pv 0 σ H)
  (hs:∀i σ H,i<n→Pv i σ H→g (.int (hi-i)) σ H fun gc H2=>tb {D with nx:=Pv (i+1),ct:=Pv (i+1),bk:=D.nx} gc H2) (hd:∀σ H,Pv n σ H→D.nx σ H):
  ∃W:Nat→Nat→L2.St→Hp→Prop,(∃m,W 0 m σ H)∧∀i m σ H,W i m σ H→
   ((ME hi n).stop i H∧D.nx σ H)∨((ME hi n).go i H∧∃N:L2.St→Hp→Prop,(∀bq H',N bq H'→∃m',m'<m∧W (i+1) m' bq H')∧∀x H',(ME hi n).GK i H x H'→g x σ H' fun gc H2=>tb {D with nx:=N,ct:=N,bk:=D.nx} gc H2):=by
 refine⟨fun i m σ H=>m=n-i∧i≤n∧Pv i σ H,⟨n,ZF,Nat.zero_le _,h0⟩,?_⟩;rintro i m σ H ⟨rfl,Bm,p⟩;by_cases ig:i<n
 ·refine .inr ⟨ig,Pv (i+1),fun bq H' p'=>⟨n-(i+1),by lia,rfl,ig,p'⟩,fun x H' y=>?_⟩;obtain⟨e,y⟩:=y;subst e y;exact hs i σ _ ig p
 ·have e:i=n:=by lia
  subst e;exact .inl ⟨Nat.le_refl _,hd σ H p⟩
end
theorem C9{d:Addr}{o:Obj}{kvs:List (List Key×V)}{ls:List Str}{js:List Nat}{g:TG}{tt:TT}{te:TE}{σ:L2.St}{H1:Hp}{D:Addr}{Q:VK}(Pv:Nat→List V→L2.St→Hp→Prop)
  (h0:Pv 0 [] (lJ ls js σ) (upd H1 D (.lst []))) (hl:∀i ys σ H,i≤kvs.length→Pv i ys σ H→H d=some (.so o (.dT kvs)))
  (hs:∀i p ys σ H,kvs[i]?=some p→Pv i ys σ H→g p.2 σ H fun gc H3=>tt gc H3 fun b H4=>if b=true then te gc H4 fun y H5=>H5 D=some (.lst ys)∧ys.length<sizeLine∧Pv (i+1) (ys++[y]) gc (upd H5 D (.lst (ys++[y])))else Pv (i+1) ys gc H4)
  (hd:∀ys σ H,Pv kvs.length ys σ H→Q (.ref D) H):sW (R8 d o kvs) ls js g tt te σ H1 D Q:=
 oK (n:=kvs.length) Pv h0 (fun i ys σ H hi p=>⟨hl i ys σ H (Nat.le_of_lt hi) p,hi⟩) (fun ys σ H p=>⟨hl _ ys σ H Λ p,Nat.le_refl _⟩)
  (fun i ys σ H x H2 hi p y=>by
   obtain⟨rfl,q,hq,rfl⟩:=y;exact hs i q ys σ _ hq p) hd
theorem Fz{X:Cx}{cm:Bool}{k:Nat}{x:Str}{C:Addr}{ps:List Str}{mq:List V}{sp:Sp}{E:L2.St→XK}{p pos:Pos}(D:m4 X.prog X.w X.K X.mg X.base cm k x C ps mq sp)(hr:eV cm (k+1) X.A)(hx:Passes (c7 X.prog X.w) X E)(hg:Gl X x:=by rfl)(we:(x==("__debug__":Str))=false:=by decide):
  PE X (.Call (.Name x p) [] [] pos) (Bf C sp mq E Ea):=by
 obtain⟨f,fd,ds,ok,M,hm,hb,hd⟩:=D;exact Ed M ok hr hg hm hb hd hx we
end L2
namespace QF
open PySem L2
structure qA(H:Hp)(C x dx e b:Addr)(es bs:List Addr)(f:Nat→Nat→Option Int)(o p:Int)(n m:Nat):Prop where
 ob:H x=some (.ins C dx (gP o p e b))
 he:H e=some (.lst (es.map V.ref))
 te:i9 H es (dH f o p) n m
 hb:H b=some (.lst (bs.map V.ref))
 tb:i9 H bs (Bq f o p) (n+1) (m+1)
theorem qA.keep{H H':Hp}{C x dx e b:Addr}{es bs:List Addr}{f:Nat→Nat→Option Int}{o p:Int}{n m:Nat}(t:qA H C x dx e b es bs f o p n m)(s:ax H H'):qA H' C x dx e b es bs f o p n m:=
 ⟨s _ _ t.ob,s _ _ t.he,t.te.same s,s _ _ t.hb,t.tb.same s⟩
theorem FA(o p:Int)(e b:Addr):(gP o p e b).lookup ("goes_on":Str)=none:=by kernel_rfl
theorem BR(o p:Int)(e b:Addr):(gP o p e b).lookup ("crossings_before":Str)=none:=by kernel_rfl
theorem Jx(o p:Int)(e b:Addr):(gP o p e b).lookup ("is_brought_by":Str)=none:=by kernel_rfl
theorem LJ(o p:Int)(e b:Addr):(gP o p e b).lookup ("pair_before":Str)=none:=by kernel_rfl
theorem OF(o p:Int)(e b:Addr):(gP o p e b).lookup ("way_to":Str)=none:=by kernel_rfl
def gQ:Option Int→Bool
 |none=>false
 |some b=>decide (0≤b)
def bA(f:Nat→Nat→Option Int)(o p:Int)(i j:Nat):List Pr:=
 (if bE (Bq f o p i (j+1)) o=Bq f o p (i+1) (j+1)then[((i:Int),((j+1:Nat):Int))]else[])++(if bE (Bq f o p (i+1) j) p=Bq f o p (i+1) (j+1)then[(((i+1:Nat):Int),(j:Int))]else[])
def cN(f:Nat→Nat→Option Int)(o p:Int):Nat→Nat→Nat×Nat
 |0,_=>(0,0)
 | _+1,0=>(0,0)
 |i+1,j+1=>if dH f o p i j=Bq f o p (i+1) (j+1)then(i,j)else if bE (Bq f o p i (j+1)) o=Bq f o p (i+1) (j+1)then cN f o p i (j+1)else cN f o p (i+1) j
termination_by i j=>(i,j)
theorem kI(f:Nat→Nat→Option Int)(o p:Int):∀i j,0<i→0<j→(cN f o p i j).1<i∧(cN f o p i j).2<j∨Bq f o p i j=none
 |0,_,h,_=>Zn h UQ
 | _+1,0,_,h=>Zn h UQ
 |i+1,j+1,_,_=>by
  cases hB:Bq f o p (i+1) (j+1)with
  |none=>exact .inr rfl
  |some v=>
   left
   unfold cN;by_cases h1:dH f o p i j=Bq f o p (i+1) (j+1)
   ·rw[Z7 h1];exact⟨ZF,ZF⟩
   ·rw[Z5 h1];by_cases h2:bE (Bq f o p i (j+1)) o=Bq f o p (i+1) (j+1)
    ·rw[Z7 h2];have hn:Bq f o p i (j+1)≠none:=fun z=>by rw[z,hB]at h2;simp[bE]at h2
     have hi:0<i:=by
      cases i with
      |zero=>exact Zn (iI f o p (j+1)) hn
      |succ i=>lia
     rcases kI f o p i (j+1) hi UQ with z|z
     ·exact⟨by lia,z.2⟩
     ·exact Zn z hn
    ·rw[Z5 h2];have hn:Bq f o p (i+1) j≠none:=fun z=>by
      have e:Bq f o p (i+1) (j+1)=oQ [dH f o p i j,bE (Bq f o p i (j+1)) o,bE (Bq f o p (i+1) j) p]:=by
       rw[Bq];rfl
      rw[z]at e;have:bE none p=(none:Option Int):=rfl;rw[this]at e;have key:∀a b:Option Int,oQ [a,b,none]=a∨oQ [a,b,none]=b:=fun a b=>by
       cases a<;>cases b<;>simp[oQ]
       rename_i x y
       by_cases Aq:x≤y
       ·right;lia
       ·left;lia
      rcases key (dH f o p i j) (bE (Bq f o p i (j+1)) o)with k|k
      ·exact h1 (by rw[e,k])
      ·exact h2 (by rw[e,k])
     have hj:0<j:=by
      cases j with
      |zero=>exact Zn (by unfold Bq;rfl) hn
      |succ j=>lia
     rcases kI f o p (i+1) j UQ hj with z|z
     ·exact⟨z.1,by lia⟩
     ·exact Zn z hn
termination_by i j=>(i,j)
def eL(f:Nat→Nat→Option Int)(o p:Int):Nat→Nat→Nat→List (Nat×Nat)
 |0,i,j=>[(i,j)]
 |k+1,i,j=>if gQ (Bq f o p i j)=true then eL f o p k (cN f o p i j).1 (cN f o p i j).2++[(i,j)]else[(i,j)]
def aP(q:Nat×Nat):Pr:=((q.1:Int),(q.2:Int))
inductive qB(C CT:Addr)(vs:List V)(H:Hp)(Q:VK)(u3:XK):Prop
 |mk (x dx w t:Addr) (c:Case) (as:List Addr) (f:Nat→Nat→Option Int) (n m:Nat) (_:vs=[.ref x, .ref w, .ref t]) (_:H x=some (.ins C dx [])) (_:H dx=some (.own x)) (_:H w=some (.lst (as.map V.ref))) (_:i9 H as f n m) (_:yK H CT t c) (_:n≤1000) (_:m≤1000) (_:∀H' e b,SameBut x H H'→H' x=some (.ins C dx (gP c.out c.into e b))→Tab H H' e (dH f c.out c.into) n m→(0<n→Tab H H' b (Bq f c.out c.into) (n+1) (m+1))→Q .cR H'):qB C CT vs H Q u3
inductive xf(C:Addr)(vs:List V)(H:Hp)(Q:VK)(u3:XK):Prop
 |mk (x dx e b:Addr) (es bs:List Addr) (f:Nat→Nat→Option Int) (o p:Int) (n m:Nat) (pr:Addr) (i j:Nat) (_:vs=[.ref x, .ref pr]) (_:qA H C x dx e b es bs f o p n m) (_:H pr=some (.tup [.int i, .int j])) (_:i≤n) (_:j≤m) (_:Q (.bl (gQ (Bq f o p i j))) H):xf C vs H Q u3
inductive AA(C:Addr)(vs:List V)(H:Hp)(Q:VK)(u3:XK):Prop
 |mk (x dx e b:Addr) (es bs:List Addr) (f:Nat→Nat→Option Int) (o p:Int) (n m:Nat) (cr pr:Addr) (i j k l:Nat) (_:vs=[.ref x, .ref cr, .ref pr]) (_:qA H C x dx e b es bs f o p n m) (_:H cr=some (.tup [.int i, .int j])) (_:H pr=some (.tup [.int k, .int l])) (_:i≤n) (_:j≤m) (_:k<n) (_:l<m) (_:Q (.bl (decide (dH f o p k l=Bq f o p i j))) H):AA C vs H Q u3
inductive tJ(C:Addr)(vs:List V)(H:Hp)(Q:VK)(u3:XK):Prop
 |mk (x dx e b:Addr) (es bs:List Addr) (f:Nat→Nat→Option Int) (o p:Int) (n m:Nat) (cr:Addr) (i j:Nat) (_:vs=[.ref x, .ref cr]) (_:qA H C x dx e b es bs f o p n m) (_:H cr=some (.tup [.int ((i+1:Nat):Int), .int ((j+1:Nat):Int)])) (_:i<n) (_:j<m) (_:∀H' r us,ax H H'→H r=none→H' r=some (.lst us)→gM H' us (bA f o p i j)→Q (.ref r) H'):tJ C vs H Q u3
inductive xg(C:Addr)(vs:List V)(H:Hp)(Q:VK)(u3:XK):Prop
 |mk (x dx e b:Addr) (es bs:List Addr) (f:Nat→Nat→Option Int) (o p:Int) (n m:Nat) (pr:Addr) (i j:Nat) (_:vs=[.ref x, .ref pr]) (_:qA H C x dx e b es bs f o p n m) (_:H pr=some (.tup [.int i, .int j])) (_:i≤n) (_:j≤m) (_:Bq f o p i j≠none) (_:∀H' r,ax H H'→H' r=some (.tup (jw (aP (cN f o p i j))))→Q (.ref r) H'):xg C vs H Q u3
inductive AB(C:Addr)(vs:List V)(H:Hp)(Q:VK)(u3:XK):Prop
 |mk (x dx e b:Addr) (es bs:List Addr) (f:Nat→Nat→Option Int) (o p:Int) (n m:Nat) (pr:Addr) (i j:Nat) (_:vs=[.ref x, .ref pr]) (_:qA H C x dx e b es bs f o p n m) (_:H pr=some (.tup [.int i, .int j])) (_:i<n) (_:j<m) (_:n≤1000) (_:∀H' r us,ax H H'→H r=none→H' r=some (.lst us)→gM H' us ((eL f o p i i j).map aP)→Q (.ref r) H'):AB C vs H Q u3
theorem Xr(a b:Option Int):oQ [a,b,none]=a∨oQ [a,b,none]=b:=by
 cases a<;>cases b<;>simp[oQ]
 rename_i x y
 by_cases Aq:x≤y
 ·right;lia
 ·left;lia
theorem y4{f:Nat→Nat→Option Int}{o p:Int}{i j:Nat}(hB:Bq f o p (i+1) (j+1)≠none)(h1:dH f o p i j≠Bq f o p (i+1) (j+1)):
  ∃i2 j2,(bA f o p i j)[0]?=some (aP (i2+1,j2+1))∧i2≤i∧j2≤j∧i2+j2<i+j∧Bq f o p (i2+1) (j2+1)≠none∧cN f o p (i2+1) (j2+1)=cN f o p (i+1) (j+1):=by
 by_cases h2:bE (Bq f o p i (j+1)) o=Bq f o p (i+1) (j+1)
 ·have hn:Bq f o p i (j+1)≠none:=fun z=>by rw[z]at h2;exact hB h2.symm
  cases i with
  |zero=>exact Zn (iI f o p (j+1)) hn
  |succ i=>
   refine⟨i,j,?_,by lia,by lia,by lia,hn,?_⟩
   ·unfold bA;rw[Z7 h2];rfl
   ·conv=>rhs;unfold cN
    rw[Z5 h1,Z7 h2]
 ·have hn:Bq f o p (i+1) j≠none:=fun z=>by
   have e:Bq f o p (i+1) (j+1)=oQ [dH f o p i j,bE (Bq f o p i (j+1)) o,bE (Bq f o p (i+1) j) p]:=by rw[Bq];rfl
   rw[z,show bE none p=(none:Option Int)from rfl]at e;rcases Xr (dH f o p i j) (bE (Bq f o p i (j+1)) o)with k|k
   ·exact h1 (by rw[e,k])
   ·exact h2 (by rw[e,k])
  have h3:bE (Bq f o p (i+1) j) p=Bq f o p (i+1) (j+1):=by
   have e:Bq f o p (i+1) (j+1)=oQ [dH f o p i j,bE (Bq f o p i (j+1)) o,bE (Bq f o p (i+1) j) p]:=by rw[Bq];rfl
   have key:∀a b c:Option Int,oQ [a,b,c]≠a→oQ [a,b,c]≠b→c=oQ [a,b,c]:=fun a b c=>by
    cases a<;>cases b<;>cases c<;>simp[oQ]<;>lia
   rw[e];exact key _ _ _ (fun z=>h1 (by rw[e];exact z.symm)) (fun z=>h2 (by rw[e];exact z.symm))
  cases j with
  |zero=>exact Zn (by unfold Bq;rfl) hn
  |succ j=>
   refine⟨i,j,?_,by lia,by lia,by lia,hn,?_⟩
   ·unfold bA;rw[Z5 h2,Z7 h3];rfl
   ·conv=>rhs;unfold cN
    rw[Z5 h1,Z5 h2]
theorem kc{f:Nat→Nat→Option Int}{o p:Int}{i j:Nat}(h:gQ (Bq f o p i j)=true):0<i∧0<j∧Bq f o p i j≠none:=by
 have hn:Bq f o p i j≠none:=fun z=>by rw[z]at h;cases h
 refine⟨?_,?_,hn⟩
 ·cases i with
  |zero=>exact Zn (iI f o p j) hn
  |succ i=>lia
 ·cases j with
  |zero=>cases i with
   |zero=>exact Zn (iI f o p 0) hn
   |succ i=>exact Zn (by unfold Bq;rfl) hn
  |succ j=>lia
theorem gT{f:Nat→Nat→Option Int}{o p:Int}{i j:Nat}(h:¬gQ (Bq f o p i j)=true):∀k,eL f o p k i j=[(i,j)]
 |0=>rfl
 |k+1=>by rw[eL,Z5 h]
theorem C_(f:Nat→Nat→Option Int)(o p:Int)(i:Nat):∀k k' j,i≤k→i≤k'→eL f o p k i j=eL f o p k' i j:=by
 induction i using Nat.strongRecOn with
 |ind i ih=>
  intro k k' j h h';by_cases hg:gQ (Bq f o p i j)=true
  ·obtain⟨a,b,c⟩:=kc hg;have hl:=(kI f o p i j a b).resolve_right c;obtain⟨k,rfl⟩:∃k1,k=k1+1:=⟨k-1,by lia⟩
   obtain⟨k',rfl⟩:∃k1,k'=k1+1:=⟨k'-1,by lia⟩
   rw[eL,eL,Z7 hg,Z7 hg,ih _ hl.1 k k' _ (by lia) (by lia)]
  ·rw[gT hg,gT hg]
theorem vQ{f:Nat→Nat→Option Int}{o p:Int}{i j:Nat}(h:gQ (Bq f o p i j)=true):eL f o p i i j=eL f o p (cN f o p i j).1 (cN f o p i j).1 (cN f o p i j).2++[(i,j)]:=by
 obtain⟨a,b,c⟩:=kc h;have hl:=(kI f o p i j a b).resolve_right c;obtain⟨i,rfl⟩:∃k1,i=k1+1:=⟨i-1,by lia⟩
 rw[eL,Z7 h,C_ f o p _ i _ _ (by lia) (Nat.le_refl _)]
structure Jy(K:W.Frag)(C:Addr):Prop where
 cl:wc K C
 worth:b_ K C "worth"
 way:b_ K C "way"
 row:b_ K C "row"
 pairs:b_ K C "pairs"
def m9(w:Int)(a r p:Addr):List (Str×V):=[("worth", .int w),("way", .ref a),("row", .ref r),("pairs", .ref p)]
theorem ja(w:Int)(a r p:Addr):(m9 w a r p).lookup ("worth":Str)=some (V.int w):=by kernel_rfl
theorem qC(w:Int)(a r p:Addr):(m9 w a r p).lookup ("way":Str)=some (V.ref a):=by kernel_rfl
theorem AD(w:Int)(a r p:Addr):(m9 w a r p).lookup ("row":Str)=some (V.ref r):=by kernel_rfl
theorem ip(w:Int)(a r p:Addr):(m9 w a r p).lookup ("pairs":Str)=some (V.ref p):=by kernel_rfl
theorem LK(w:Int)(a r p:Addr):bx "pairs" (.ref p) (bx "row" (.ref r) (bx "way" (.ref a) (bx "worth" (.int w) [])))=m9 w a r p:=by kernel_rfl
inductive tK(C:Addr)(vs:List V)(H:Hp)(Q:VK)(u3:XK):Prop
 |mk (x dx a r p:Addr) (w:Int) (_:vs=[.ref x, .int w, .ref a, .ref r, .ref p]) (_:H x=some (.ins C dx [])) (_:Q .cR (upd H x (.ins C dx (m9 w a r p)))):tK C vs H Q u3
inductive tL(C:Addr)(vs:List V)(H:Hp)(Q:VK)(u3:XK):Prop
 |mk (x dx a r p:Addr) (w:Int) (us:List V) (ps:List Pr) (_:vs=[.ref x]) (_:H x=some (.ins C dx (m9 w a r p))) (_:H p=some (.lst us)) (_:gM H us ps) (_:ps≠[]) (_:∀H' k t,ax H H'→H' k=some (.tup [.int (-w), .ref t])→H' t=some (.tup [.int (lq ps).1, .int (lq ps).2])→Q (.ref k) H'):tL C vs H Q u3
inductive AE(C CF:Addr)(vs:List V)(H:Hp)(Q:VK)(u3:XK):Prop
 |mk (x dx e b:Addr) (es bs:List Addr) (f:Nat→Nat→Option Int) (o p:Int) (n m:Nat) (w:Int) (pr:Addr) (us:List V) (ps:List (Nat×Nat)) (q0:Nat×Nat) (_:vs=[.ref x, .int w, .ref pr]) (_:qA H C x dx e b es bs f o p n m) (_:H pr=some (.lst us)) (_:gM H us (ps.map aP)) (_:∀q∈ps,q.1<n∧q.2<m) (_:(ps.filter fun q=>decide (dH f o p q.1 q.2=some w))[0]?=some q0) (_:n≤1000) (_:ps.length≤5000)
  (_:∀H' y dy wy rw iy,ax H H'→H y=none→H dy=none→H wy=none→H rw=none→H' y=some (.ins CF dy (m9 w wy rw pr))→H' dy=some (.own y)→H' wy=some (.lst iy)→gM H' iy ((eL f o p q0.1 q0.1 q0.2).map aP)→H' rw=some (.lst ((eL f o p q0.1 q0.1 q0.2).map fun q=>bG (dH f o p q.1 q.2)))→Q (.ref y) H'):AE C CF vs H Q u3
theorem BS{f:Nat→Nat→Option Int}{o p:Int}{n m:Nat}:∀k i j,i<n→j<m→∀q∈eL f o p k i j,q.1<n∧q.2<m
 |0,i,j,hi,hj,q,hq=>by
  have:q=(i,j):=by simpa[eL]using hq
  subst this;exact⟨hi,hj⟩
 |k+1,i,j,hi,hj,q,hq=>by
  by_cases h:gQ (Bq f o p i j)=true
  ·rw[eL,Z7 h]at hq;obtain⟨a,b,c⟩:=kc h;have hl:=(kI f o p i j a b).resolve_right c;rcases List.mem_append.mp hq with z|z
   ·exact BS k _ _ (by lia) (by lia) q z
   ·have:q=(i,j):=by simpa using z
    subst this;exact⟨hi,hj⟩
  ·rw[gT h]at hq;have:q=(i,j):=by simpa using hq
   subst this;exact⟨hi,hj⟩
theorem y6{f:Nat→Nat→Option Int}{o p:Int}:∀k i j,(eL f o p k i j).length≤k+1
 |0,i,j=>by simp[eL]
 |k+1,i,j=>by
  by_cases h:gQ (Bq f o p i j)=true
  ·rw[eL,Z7 h,List.length_append];have:=y6 (f:=f) (o:=o) (p:=p) k (cN f o p i j).1 (cN f o p i j).2;simp
   lia
  ·rw[gT h];simp
end QF
namespace L2
open PySem PySem.Spec PyProof.Rows PySem.W PySem.Calls
section
variable{X:Cx}
inductive FC(K:Frag)(x:V)(y:V)(H:Hp)(Q:VK):Prop
 |mk (p q:Addr) (xs ys:List V) (_:x= .ref p) (_:y= .ref q) (_:DZ K H p xs) (_:DZ K H q ys) (_:xs.all rz=true) (_:ys.all rz=true) (_:Q (.bl (!uE xs ys)) H):FC K x y H Q
theorem Dd(K:Frag)(hu:X.A.units<cLine)(hK:X.K=K:=by rfl):rN X (compareOp .NotEq) (FC K):=by
 subst hK;intro pins s σ H x y v u Q I rx ry h;obtain⟨p,q,xs,ys,rfl,rfl,hp,hq,f1,f2,k⟩:=h;cases rx;cases ry;obtain⟨its,r,pl,hz⟩:=I.tuple hp;obtain⟨eJ,r2,Ho,Mt⟩:=I.tuple hq;have he:=tF (A:=X.A.in1) (s:=s) r r2 f1 f2;obtain⟨⟨cls,dd,data,sl⟩,ho,hc,n,hd⟩:=id pl;obtain⟨⟨KY,EN,data2,yc⟩,yd,qm,n2,hd2⟩:=id Ho;simp only at hc hd qm hd2;subst hc hd qm hd2;refine richCompare_meets_room (op:= .NotEq) ⟨_,ho,rfl⟩ ⟨_,yd,rfl⟩ F.slot_tuple_ne F.entry_tuple_ne (F.args_tuple_ne_2 _ _) (SeqAt.tuple_neAt p q its.toArray eJ.toArray n n2 dd EN sl yc _) ⟨ho,yd,he,?_⟩ hu;have e:(!((Ι (min its.toArray.size eJ.toArray.size)).all (fun j=>wu (xs.getD j .cR) (ys.getD j .cR))&&its.toArray.size==eJ.toArray.size))=!uE xs ys:=by
  rw[←kF,r.length,r2.length];simp
 rw[e];exact⟨(fun x=>nomatch x), .bl (!uE xs ys),H,I,rfl,k⟩
end
end L2
namespace QF
open PySem L2
theorem dz{p q:Pr}(h:bf p=bf q):p=q:=by
 simp only[bf,List.cons.injEq,Sum.inl.injEq,and_true]at h;exact Prod.ext h.1 h.2
theorem len_sub{α:Type}[DecidableEq α]:∀(l m:List α),l.Nodup→(∀x∈l,x∈m)→l.length≤m.length
 |[],m,_,_=>ZF
 |x::r,m,hn,h=>by
  have DY:=List.nodup_cons.mp hn;have hx:=h x (ZF);have:=len_sub r (m.erase x) DY.2 fun y hy=>(List.mem_erase_of_ne (fun e:y=x=>DY.1 (by rw[←e];exact hy))).mpr (h y (by simp[hy]))
  rw[List.length_erase_of_mem hx]at this;have:=List.length_pos_of_mem hx;simp
  lia
def Jz(E:Pr→Pr→Prop)(p:Pr):Pr→Pr→Prop:=fun a b=>E a b∨(a=p∧b=p)
def qD(E:Pr→Pr→Prop)(p q:Pr):Pr→Pr→Prop:=fun a b=>E a b∨((E a p∨E a q)∧(E b p∨E b q))
theorem De{E:Pr→Pr→Prop}{p q a b:Pr}:qD E p q a b↔qD E q p a b:=by
 unfold qD;rw[or_comm (a:=E a p),or_comm (a:=E b p)]
structure oW(S:Addr→Prop)(H:Hp)(S':Addr→Prop)(H':Hp):Prop where
 grow:∀a,S' a→S a∨H a=none
 keep:∀a o,¬S a→H a=some o→H' a=some o
theorem oW.trans{S S' Qo:Addr→Prop}{H H' Qp:Hp}(a:oW S H S' H')(b:oW S' H' Qo Qp):oW S H Qo Qp:=by
 refine⟨fun x hx=>?_,fun x o hs hx=>b.keep x o (fun z=>?_) (a.keep x o hs hx)⟩
 ·rcases b.grow x hx with h|h
  ·exact a.grow x h
  ·by_cases hs:S x
   ·exact .inl hs
   ·right
    cases e:H x with
    |none=>rfl
    |some o=>rw[a.keep x o hs e]at h;cases h
 ·rcases a.grow x z with h|h
  ·exact hs h
  ·rw[hx]at h;cases h
theorem oW.same{S:Addr→Prop}{H H':Hp}(s:ax H H'):oW S H S H':=⟨fun _ h=> .inl h,fun a o _ h=>s a o h⟩
theorem oW.put{S:Addr→Prop}{H:Hp}{a:Addr}{o:HO}(h:S a):oW S H S (upd H a o):=⟨fun _ h=> .inl h,fun b u hb e=>by rw[aj (fun z:b=a=>hb (by rw[z];exact h))];exact e⟩
structure OG(K:W.Frag)(C:Addr):Prop where
 cl:wc K C
 oX:b_ K C "leads"
 members:b_ K C "members"
def rB(dl dm:Addr):List (Str×V):=[("leads", .ref dl),("members", .ref dm)]
theorem jz(a b:Addr):(rB a b).lookup ("leads":Str)=some (V.ref a):=by kernel_rfl
theorem iW(a b:Addr):(rB a b).lookup ("members":Str)=some (V.ref b):=by kernel_rfl
theorem OH(a b:Addr):bx "members" (.ref b) (bx "leads" (.ref a) [])=rB a b:=by kernel_rfl
theorem OI(a b:Addr):(rB a b).lookup ("has":Str)=none:=by kernel_rfl
theorem FG(a b:Addr):(rB a b).lookup ("take_in":Str)=none:=by kernel_rfl
theorem BU(a b:Addr):(rB a b).lookup ("unite":Str)=none:=by kernel_rfl
theorem LL(a b:Addr):(rB a b).lookup ("told":Str)=none:=by kernel_rfl
def LM(H:Hp)(v:Option V):Option Pr→Prop
 |none=>v=none
 |some l=>∃t,v=some (.ref t)∧H t=some (.tup (jw l))
def SH(H:Hp)(S:Addr→Prop)(v:Option V):Option (List Pr)→Prop
 |none=>v=none
 |some ms=>∃a us,v=some (.ref a)∧H a=some (.lst us)∧gM H us ms∧S a
theorem LM.cz{H H':Hp}{v:Option V}{o:Option Pr}(h:LM H v o)(t:cU H H'):LM H' v o:=by
 cases o with
 |none=>exact h
 |some l=>obtain⟨a,h1,h2⟩:=h;exact⟨a,h1,t _ _ h2⟩
structure DH(H:Hp)(S:Addr→Prop)(dl dm:Addr)(kl km:List (List Key×V))(ld:Pr→Option Pr)(mm:Pr→Option (List Pr)):Prop where
 hl:H dl=some (.dT kl)
 hm:H dm=some (.dT km)
 sl:S dl
 sm:S dm
 ne:dl≠dm
 lv:∀p,LM H (bC kl (bf p)) (ld p)
 mv:∀p,SH H S (bC km (bf p)) (mm p)
 inj:∀p q a,bC km (bf p)=some (.ref a)→bC km (bf q)=some (.ref a)→p=q
 key:∀kv∈km,∃p,kv.1=bf p
 BV:(km.map (·.1)).Nodup
 ms:∀l ms,mm l=some ms→ms.Nodup∧∀p,p∈ms↔ld p=some l
 ml:∀p l,ld p=some l→∃ms,mm l=some ms
 self:∀l ms,mm l=some ms→ld l=some l
theorem DH.keep{H H':Hp}{S:Addr→Prop}{dl dm:Addr}{kl km:List (List Key×V)}{ld:Pr→Option Pr}{mm:Pr→Option (List Pr)}(d:DH H S dl dm kl km ld mm)(h:∀a o,S a→H a=some o→H' a=some o)(t:cU H H'):DH H' S dl dm kl km ld mm:=by
 refine⟨h _ _ d.sl d.hl,h _ _ d.sm d.hm,d.sl,d.sm,d.ne,fun p=>(d.lv p).cz t,fun p=>?_,d.inj,d.key,d.BV,d.ms,d.ml,d.self⟩;have:=d.mv p;cases e:mm p with
 |none=>rw[e]at this;exact this
 |some ms=>
  rw[e]at this;obtain⟨a,us,h1,h2,h3,h4⟩:=this;exact⟨a,us,h1,h _ _ h4 h2,h3.cz t,h4⟩
theorem DH.vB{H:Hp}{S:Addr→Prop}{dl dm:Addr}{kl km:List (List Key×V)}{ld:Pr→Option Pr}{mm:Pr→Option (List Pr)}(d:DH H S dl dm kl km ld mm){ms:List Pr}(hn:ms.Nodup)(h:∀p∈ms,∃l,ld p=some l):ms.length≤kl.length:=by
 have:=len_sub (ms.map bf) (kl.map (·.1)) (List.Pairwise.map _ (fun a b FH z=>FH (dz z)) hn) fun k hk=>by
  obtain⟨p,hp,rfl⟩:=List.mem_map.mp hk;obtain⟨l,hl⟩:=h p hp;have:=d.lv p;rw[hl]at this;obtain⟨t,h1,_⟩:=this;exact Bk h1
 simpa using this
theorem DH.take{H H':Hp}{S:Addr→Prop}{dl dm a t:Addr}{kl km:List (List Key×V)}{ld:Pr→Option Pr}{mm:Pr→Option (List Pr)}{p:Pr}(d:DH H S dl dm kl km ld mm)(hn:ld p=none)(ht:H t=some (.tup (jw p)))(ha:H a=none)
  (h1:H' dl=some (.dT (putK kl (bf p) (.ref t)))) (h2:H' dm=some (.dT (putK km (bf p) (.ref a)))) (h3:H' a=some (.lst [.ref t])) (hk:∀b o,b≠dl→b≠dm→H b=some o→H' b=some o):
  DH H' (fun x=>S x∨x=a) dl dm (putK kl (bf p) (.ref t)) (putK km (bf p) (.ref a)) (fun q=>if q=p then some p else ld q) (fun q=>if q=p then some [p]else mm q):=by
 have T:cU H H':=fun b v hb=>hk b _ (fun z=>by rw[z,d.hl]at hb;cases hb) (fun z=>by rw[z,d.hm]at hb;cases hb) hb
 have U9:mm p=none:=by
  cases e:mm p with
  |none=>rfl
  |some ms=>have:=d.self p ms e;rw[hn]at this;cases this
 have FI:bC km (bf p)=none:=by have:=d.mv p;rw[U9]at this;exact this
 have OJ:∀q b,bC km (bf q)=some (.ref b)→b≠a:=fun q b hq z=>by
  have:=d.mv q;cases e:mm q with
  |none=>rw[e]at this;have:bC km (bf q)=none:=this;rw[this]at hq;cases hq
  |some ms=>
   rw[e]at this;obtain⟨a',us,e1,e2,_⟩:=this;rw[hq]at e1;cases e1;rw[z,ha]at e2;cases e2
 refine⟨h1,h2, .inl d.sl, .inl d.sm,d.ne,fun q=>?_,fun q=>?_,fun q r b hq hr=>?_,fun kv Qq=>?_,?_,fun l ms hl=>?_,fun q l hq=>?_,fun l ms hl=>?_⟩
 ·rw[i5];by_cases e:q=p
  ·rw[Z7 (by rw[e]),Z7 e];exact⟨t,rfl,T _ _ ht⟩
  ·rw[Z5 (fun z=>e (dz z)),Z5 e];exact(d.lv q).cz T
 ·show SH _ _ _ (if q=p then some [p]else mm q);rw[i5];by_cases e:q=p
  ·rw[Z7 (by rw[e]),Z7 e];exact⟨a,_,rfl,h3,gM.one (T _ _ ht), .inr rfl⟩
  ·rw[Z5 (fun z=>e (dz z)),Z5 e];have:=d.mv q;cases e2:mm q with
   |none=>rw[e2]at this;exact this
   |some ms=>
    rw[e2]at this;obtain⟨b,us,z1,z2,z3,z4⟩:=this;exact⟨b,us,z1,hk b _ (fun z=>by rw[z,d.hl]at z2;cases z2) (fun z=>by rw[z,d.hm]at z2;cases z2) z2,z3.cz T, .inl z4⟩
 ·rw[i5]at hq hr;by_cases e:q=p
  ·by_cases e2:r=p
   ·rw[e,e2]
   ·rw[Z7 (by rw[e])]at hq;rw[Z5 (fun z=>e2 (dz z))]at hr;cases hq;exact absurd rfl (OJ r _ hr)
  ·rw[Z5 (fun z=>e (dz z))]at hq;by_cases e2:r=p
   ·rw[Z7 (by rw[e2])]at hr;cases hr;exact absurd rfl (OJ q _ hq)
   ·rw[Z5 (fun z=>e2 (dz z))]at hr;exact d.inj q r b hq hr
 ·rw[sQ _ FI]at Qq;rcases List.mem_append.mp Qq with z|z
  ·exact d.key kv z
  ·exact⟨p,by rw[List.mem_singleton.mp z]⟩
 ·rw[sQ _ FI,List.map_append];refine List.nodup_append.mpr ⟨d.BV,ZF,fun x hx y hy e=>?_⟩;have hy:y=bf p:=by simpa using hy
  rw[e,hy]at hx;exact yE FI hx
 ·have hl:(if l=p then some [p]else mm l)=some ms:=hl;by_cases e:l=p
  ·rw[Z7 e]at hl;cases hl;refine⟨ZF,fun q=>?_⟩;rw[List.mem_singleton];show q=p↔(if q=p then some p else ld q)=some l;by_cases e2:q=p
   ·rw[Z7 e2,e];simp[e2]
   ·rw[Z5 e2];refine⟨fun z=>Zn z e2,fun z=>?_⟩;obtain⟨ms,DI⟩:=d.ml q l z;rw[e,U9]at DI;cases DI
  ·rw[Z5 e]at hl;obtain⟨z1,z2⟩:=d.ms l ms hl;refine⟨z1,fun q=>?_⟩;rw[z2];show ld q=some l↔(if q=p then some p else ld q)=some l;by_cases e2:q=p
   ·rw[Z7 e2,e2,hn];refine⟨fun z=>(by cases z),fun z=>Zn (Z' z).symm e⟩
   ·rw[Z5 e2]
 ·have hq:(if q=p then some p else ld q)=some l:=hq;show ∃ms,(if l=p then some [p]else mm l)=some ms;by_cases e:l=p
  ·exact⟨[p],Z7 e⟩
  ·rw[Z5 e];by_cases e2:q=p
   ·rw[Z7 e2]at hq;exact Zn (Z' hq).symm e
   ·rw[Z5 e2]at hq;exact d.ml q l hq
 ·have hl:(if l=p then some [p]else mm l)=some ms:=hl;show(if l=p then some p else ld l)=some l;by_cases e:l=p
  ·rw[Z7 e,e]
  ·rw[Z5 e]at hl⊢;exact d.self l ms hl
theorem BX{κ:Type}[DecidableEq κ]{k:κ}{v:V}:∀{kvs:List (κ×V)}{i:Nat},(kvs.map (·.1)).Nodup→kvs[i]?=some (k,v)→bC kvs k=some v
 |[],i,_,h=>by simp at h
 |p::r,0,_,h=>by
  have h:p=(k,v):=by simpa using h
  subst h;exact cH rfl
 |p::r,i+1,hn,h=>by
  have DY:=List.nodup_cons.mp (show(p.1::r.map (·.1)).Nodup from hn);have h:r[i]?=some (k,v):=by simpa using h
  rw[cB (fun e=>DY.1 (by rw[e];exact List.mem_map.mpr ⟨_,Z0 h,rfl⟩))];exact BX DY.2 h
theorem y8{κ:Type}[DecidableEq κ]{k:κ}{v:V}:∀{kvs:List (κ×V)},bC kvs k=some v→∃i:Nat,kvs[i]?=some (k,v)
 |[],h=>by cases h
 |p::r,h=>by
  by_cases e:p.1=k
  ·rw[cH e]at h;exact⟨0,by simp;exact Prod.ext e (Z' h)⟩
  ·rw[cB e]at h;obtain⟨i,hi⟩:=y8 h;exact⟨i+1,by simpa using hi⟩
theorem mC{κ:Type}[DecidableEq κ](k j:κ):∀kvs:List (κ×V),bC (i4 kvs k) j=if j=k then none else bC kvs j
 |[]=>by simp[i4,bC]
 |p::r=>by
  have ih:=mC k j r;unfold i4 at ih⊢;rw[List.filter_cons];by_cases e:p.1=k
  ·rw[Z5 (by simpa using e),ih];by_cases e2:j=k
   ·rw[Z7 e2,Z7 e2]
   ·rw[Z5 e2,Z5 e2,cB (fun z=>e2 (z.symm.trans e))]
  ·rw[Z7 (by simpa using e)];by_cases e2:p.1=j
   ·rw[cH e2,Z5 (fun z=>e (e2.trans z)),cH e2]
   ·rw[cB e2,ih,cB e2]
theorem DH.OL{H H':Hp}{S:Addr→Prop}{dl dm al tl:Addr}{kl uF km:List (List Key×V)}{ld:Pr→Option Pr}{mm:Pr→Option (List Pr)}{l g:Pr}{m1 m2:List Pr}{lz iy:List V}(d:DH H S dl dm kl km ld mm)(BY:l≠g)(h1:mm l=some m1)(h2:mm g=some m2)(B0:bC km (bf l)=some (.ref al))(P1:gM H lz m1)(P2:gM H iy m2)(Rz:H al=some (.lst lz))(y9:H tl=some (.tup (jw l)))
  (SI:∀r,bC uF (bf r)=if r∈m2 then some (.ref tl)else bC kl (bf r)) (e1:H' dl=some (.dT uF)) (e2:H' dm=some (.dT (i4 km (bf g)))) (e3:H' al=some (.lst (lz++iy))) (hk:∀b o,b≠dl→b≠dm→b≠al→H b=some o→H' b=some o):
  DH H' S dl dm uF (i4 km (bf g)) (fun r=>if r∈m2 then some l else ld r) (fun r=>if r=g then none else if r=l then some (m1++m2)else mm r):=by
 have T:cU H H':=fun b v hb=>hk b _ (fun z=>by rw[z,d.hl]at hb;cases hb) (fun z=>by rw[z,d.hm]at hb;cases hb) (fun z=>by rw[z,Rz]at hb;cases hb) hb
 obtain⟨n1,q1⟩:=d.ms l m1 h1;obtain⟨n2,q2⟩:=d.ms g m2 h2;refine⟨e1,e2,d.sl,d.sm,d.ne,fun r=>?_,fun r=>?_,fun p q a hp hq=>?_,fun kv Qq=>d.key kv (List.mem_filter.mp Qq).1,d.BV.sublist (List.filter_sublist.map _),fun x ms hx=>?_,fun p x hp=>?_,fun x ms hx=>?_⟩
 ·show LM H' _ (if r∈m2 then some l else ld r);rw[SI];by_cases e:r∈m2
  ·rw[Z7 e,Z7 e];exact⟨tl,rfl,T _ _ y9⟩
  ·rw[Z5 e,Z5 e];exact(d.lv r).cz T
 ·show SH H' S _ (if r=g then none else if r=l then some (m1++m2)else mm r);rw[mC];by_cases e:r=g
  ·rw[Z7 (by rw[e]),Z7 e];rfl
  ·rw[Z5 (fun z=>e (dz z)),Z5 e];by_cases e4:r=l
   ·rw[Z7 e4,e4,B0];have:=d.mv l;rw[h1]at this;obtain⟨a,us,z1,_,_,z4⟩:=this;rw[B0]at z1;cases z1;exact⟨al,_,rfl,e3,(P1.append P2).cz T,z4⟩
   ·rw[Z5 e4];have:=d.mv r;cases e5:mm r with
    |none=>rw[e5]at this;exact this
    |some ms=>
     rw[e5]at this;obtain⟨a,us,z1,z2,z3,z4⟩:=this;exact⟨a,us,z1,hk a _ (fun z=>by rw[z,d.hl]at z2;cases z2) (fun z=>by rw[z,d.hm]at z2;cases z2) (fun z=>e4 (d.inj r l al (by rw[z1,z]) B0)) z2,z3.cz T,z4⟩
 ·rw[mC]at hp hq;by_cases e:p=g
  ·rw[Z7 (by rw[e])]at hp;cases hp
  ·by_cases e4:q=g
   ·rw[Z7 (by rw[e4])]at hq;cases hq
   ·rw[Z5 (fun z=>e (dz z))]at hp;rw[Z5 (fun z=>e4 (dz z))]at hq;exact d.inj p q a hp hq
 ·have hx:(if x=g then none else if x=l then some (m1++m2)else mm x)=some ms:=hx;by_cases e:x=g
  ·rw[Z7 e]at hx;cases hx
  ·rw[Z5 e]at hx;by_cases e4:x=l
   ·rw[Z7 e4]at hx;cases hx;refine⟨List.nodup_append.mpr ⟨n1,n2,fun a ha b hb z=>?_⟩,fun p=>?_⟩
    ·have ha:=(q1 a).mp ha;have hb:=(q2 b).mp hb;rw[z,hb]at ha;exact BY (Z' ha).symm
    ·rw[List.mem_append];show p∈m1∨p∈m2↔(if p∈m2 then some l else ld p)=some x;rw[e4];by_cases e5:p∈m2
     ·rw[Z7 e5];simp[e5]
     ·rw[Z5 e5,←q1];simp[e5]
   ·rw[Z5 e4]at hx;obtain⟨z1,z2⟩:=d.ms x ms hx;refine⟨z1,fun p=>?_⟩;rw[z2];show ld p=some x↔(if p∈m2 then some l else ld p)=some x;by_cases e5:p∈m2
    ·rw[Z7 e5,(q2 p).mp e5];exact⟨fun z=>Zn (Z' z).symm e,fun z=>Zn (Z' z).symm e4⟩
    ·rw[Z5 e5]
 ·have hp:(if p∈m2 then some l else ld p)=some x:=hp;show ∃ms,(if x=g then none else if x=l then some (m1++m2)else mm x)=some ms;by_cases e5:p∈m2
  ·rw[Z7 e5]at hp;cases hp;exact⟨m1++m2,by rw[Z5 BY,if_pos rfl]⟩
  ·rw[Z5 e5]at hp;have hg:x≠g:=fun z=>e5 ((q2 p).mpr (by rw[hp,z]))
   by_cases e4:x=l
   ·exact⟨m1++m2,by rw[Z5 hg,Z7 e4]⟩
   ·obtain⟨ms,DI⟩:=d.ml p x hp;exact⟨ms,by rw[Z5 hg,Z5 e4];exact DI⟩
 ·have hx:(if x=g then none else if x=l then some (m1++m2)else mm x)=some ms:=hx;show(if x∈m2 then some l else ld x)=some x;by_cases e:x=g
  ·rw[Z7 e]at hx;cases hx
  ·rw[Z5 e]at hx;have U_:ld x=some x:=by
    by_cases e4:x=l
    ·rw[e4];exact d.self l m1 h1
    ·rw[Z5 e4]at hx;exact d.self x ms hx
   have:x∉m2:=fun z=>by
    have:=(q2 x).mp z;rw[U_]at this;exact e (Z' this)
   rw[Z5 this,U_]
theorem LN{ld:Pr→Option Pr}{l g p q:Pr}{m2:List Pr}(BY:l≠g)(hp:ld p=some l)(hq:ld q=some g)(q2:∀r,r∈m2↔ld r=some g){E:Pr→Pr→Prop}(hE:∀a b,E a b↔∃x,ld a=some x∧ld b=some x)(a b:Pr):
  qD E p q a b↔∃x,(if a∈m2 then some l else ld a)=some x∧(if b∈m2 then some l else ld b)=some x:=by
 have A:∀c,(E c p∨E c q)↔(if c∈m2 then some l else ld c)=some l:=fun c=>by
  rw[hE,hE,hp,hq];by_cases e:c∈m2
  ·rw[Z7 e,(q2 c).mp e];simp
  ·rw[Z5 e];have:ld c≠some g:=fun z=>e ((q2 c).mpr z)
   constructor
   ·rintro(⟨x,h1,h2⟩|⟨x,h1,h2⟩)
    ·cases h2;exact h1
    ·cases h2;exact Zn h1 this
   ·exact fun z=> .inl ⟨l,z,rfl⟩
 unfold qD;rw[A,A,hE];constructor
 ·rintro(⟨x,h1,h2⟩|⟨h1,h2⟩)
  ·by_cases e:x=g
   ·subst e;exact⟨l,by rw[Z7 ((q2 a).mpr h1)],by rw[Z7 ((q2 b).mpr h2)]⟩
   ·exact⟨x,by rw[Z5 (fun z=>e (by have:=(q2 a).mp z;rw[h1]at this;exact Z' this))];exact h1,by rw[Z5 (fun z=>e (by have:=(q2 b).mp z;rw[h2]at this;exact Z' this))];exact h2⟩
  ·exact⟨l,h1,h2⟩
 ·rintro⟨x,h1,h2⟩;by_cases e:x=l
  ·subst e;exact .inr ⟨h1,h2⟩
  ·left
   refine⟨x,?_,?_⟩
   ·by_cases e2:a∈m2
    ·rw[Z7 e2]at h1;exact Zn (Z' h1).symm e
    ·rw[Z5 e2]at h1;exact h1
   ·by_cases e2:b∈m2
    ·rw[Z7 e2]at h2;exact Zn (Z' h2).symm e
    ·rw[Z5 e2]at h2;exact h2
def jU(H:Hp)(C g:Addr)(S:Addr→Prop)(E:Pr→Pr→Prop)(B:Nat):Prop:=
 ∃dg dl dm kl km ld mm,H g=some (.ins C dg (rB dl dm))∧¬S g∧DH H S dl dm kl km ld mm∧(∀a b,E a b↔∃l,ld a=some l∧ld b=some l)∧kl.length≤B∧km.length≤B
theorem jU.keep{H H':Hp}{C g:Addr}{S:Addr→Prop}{E:Pr→Pr→Prop}{B:Nat}(G:jU H C g S E B)(h:∀a o,S a→H a=some o→H' a=some o)(t:cU H H')(hg:∀o,H g=some o→H' g=some o):jU H' C g S E B:=by
 obtain⟨dg,dl,dm,kl,km,ld,mm,a1,a2,a3,a4⟩:=G;exact⟨dg,dl,dm,kl,km,ld,mm,hg _ a1,a2,a3.keep h t,a4⟩
theorem jU.same{H H':Hp}{C g:Addr}{S:Addr→Prop}{E:Pr→Pr→Prop}{B:Nat}(G:jU H C g S E B)(s:ax H H'):jU H' C g S E B:=G.keep (fun a o _ h=>s a o h) (cU.same s) (fun o h=>s _ _ h)
theorem jU.iff{H:Hp}{C g:Addr}{S:Addr→Prop}{E E':Pr→Pr→Prop}{B B':Nat}(G:jU H C g S E B)(h:∀a b,E' a b↔E a b)(hB:B≤B'):jU H C g S E' B':=by
 obtain⟨dg,dl,dm,kl,km,ld,mm,a1,a2,a3,a4,a5,a6⟩:=G;exact⟨dg,dl,dm,kl,km,ld,mm,a1,a2,a3,fun a b=>(h a b).trans (a4 a b),by lia,by lia⟩
structure Told(E:Pr→Pr→Prop)(gs:List (List Pr)):Prop where
 qc:∀ps∈gs,ps.Pairwise fun p q=>jy p q=true
 ne:∀ps∈gs,ps≠[]
 cls:∀ps∈gs,∀a∈ps,∀b,b∈ps↔E a b
 all:∀a,E a a→∃ps∈gs,a∈ps
 apart:gs.Pairwise fun ps qs=>∀a∈ps,a∉qs
inductive tM(C:Addr)(vs:List V)(H:Hp)(Q:VK)(u3:XK):Prop
 |mk (x dx:Addr) (_:vs=[.ref x]) (_:H x=some (.ins C dx [])) (_:∀H' S,SameBut x H H'→(∀a,S a→H a=none)→jU H' C x S (fun _ _=>False) 0→Q .cR H'):tM C vs H Q u3
inductive AF(C:Addr)(vs:List V)(H:Hp)(Q:VK)(u3:XK):Prop
 |mk (x t:Addr) (p:Pr) (S:Addr→Prop) (E:Pr→Pr→Prop) (B:Nat) (_:vs=[.ref x, .ref t]) (_:jU H C x S E B) (_:H t=some (.tup (jw p))) (_:∀b:Bool,(b=true↔E p p)→Q (.bl b) H):AF C vs H Q u3
inductive xh(C:Addr)(vs:List V)(H:Hp)(Q:VK)(u3:XK):Prop
 |mk (x t:Addr) (p:Pr) (S:Addr→Prop) (E:Pr→Pr→Prop) (B:Nat) (_:vs=[.ref x, .ref t]) (_:jU H C x S E B) (_:H t=some (.tup (jw p))) (_:B≤10000) (_:∀H' S',oW S H S' H'→jU H' C x S' (Jz E p) (B+1)→Q .cR H'):xh C vs H Q u3
inductive tN(C:Addr)(vs:List V)(H:Hp)(Q:VK)(u3:XK):Prop
 |mk (x t u:Addr) (p q:Pr) (S:Addr→Prop) (E:Pr→Pr→Prop) (B:Nat) (_:vs=[.ref x, .ref t, .ref u]) (_:jU H C x S E B) (_:H t=some (.tup (jw p))) (_:H u=some (.tup (jw q))) (_:E p p) (_:E q q) (_:B≤10000) (_:∀H',oW S H S H'→jU H' C x S (qD E p q) B→Q .cR H'):tN C vs H Q u3
inductive xi(C:Addr)(vs:List V)(H:Hp)(Q:VK)(u3:XK):Prop
 |mk (x:Addr) (S:Addr→Prop) (E:Pr→Pr→Prop) (B:Nat) (_:vs=[.ref x]) (_:jU H C x S E B) (_:B<10000) (_:∀H' r us gs,oW S H S H'→H r=none→H' r=some (.lst us)→gj H' us gs→(∀(k:Nat) a,us[k]?=some (.ref a)→H a=none)→Told E gs→Q (.ref r) H'):xi C vs H Q u3
theorem AG(g:Pr→Option Int)(o i:Int){as:List Pr}(eX:as≠[])(q:Pr)(bs:List Pr):vl g o i (as++q::bs)=vl g o i as-gp o i (lstP as) q+vl g o i (q::bs):=by
 rw[w8,oS g o i eX]
 lia
theorem Wy.app{g:Pr→Option Int}{as:List Pr}{q:Pr}{bs:List Pr}(a:Wy g as)(b:Wy g (q::bs))(s:zG (lstP as) q):Wy g (as++q::bs):=by
 refine⟨ZF,fun x hx=>?_,List.pairwise_append.mpr ⟨a.up,b.up,fun x hx y hy=>?_⟩⟩
 ·rcases List.mem_append.mp hx with h|h
  ·exact a.ok x h
  ·exact b.ok x h
 ·have h1:zG x q:=by
   rcases pw_lst a.up hx with e|e
   ·rw[e];exact s
   ·exact qx e s
  rcases List.mem_cons.mp hy with e|e
  ·rw[e];exact h1
  ·exact qx h1 ((List.pairwise_cons.mp b.up).1 y e)
theorem Wy.left{g:Pr→Option Int}{as bs:List Pr}(w:Wy g (as++bs))(h:as≠[]):Wy g as:=⟨h,fun x hx=>w.ok x (List.mem_append_left _ hx),(List.pairwise_append.mp w.up).1⟩
theorem Wy.right{g:Pr→Option Int}{as bs:List Pr}(w:Wy g (as++bs))(h:bs≠[]):Wy g bs:=⟨h,fun x hx=>w.ok x (γ hx),(List.pairwise_append.mp w.up).2.1⟩
section
variable(f:Nat→Nat→Option Int)(o p W:Int)
def BW(ps:List Pr):Prop:=Wy (lf f) ps∧vl (lf f) o p ps=W
def e8:Prop:=∀ps,Wy (lf f) ps→vl (lf f) o p ps≤W
inductive f':Pr→Pr→Prop
 |way {a b:Pr} (ps:List Pr) (_:BW f o p W ps) (_:a∈ps) (_:b∈ps):f' a b
 |tr {a b c:Pr} (_:f' a b) (_:f' b c):f' a c
def uG(as:List Pr)(x y:Int):Int:=vl (lf f) o p as-(o*(x-1-(lstP as).1)+p*(y-1-(lstP as).2))
def OM(q:Pr)(bs:List Pr)(x y:Int):Int:=vl (lf f) o p (q::bs)-(o*(q.1-x)+p*(q.2-y))
def Over(x y:Int)(r:Pr):Prop:=∃as q bs,Wy (lf f) as∧Wy (lf f) (q::bs)∧(lstP as).1<x∧(lstP as).2<y∧x≤q.1∧y≤q.2∧vl (lf f) o p (as++q::bs)=W∧r∈q::bs
end
section
variable{f:Nat→Nat→Option Int}{o p W:Int}
theorem f'.symm{a b:Pr}(h:f' f o p W a b):f' f o p W b a:=by
 induction h with
 |way ps h1 h2 h3=>exact .way ps h1 h3 h2
 |tr _ _ i1 i2=>exact .tr i2 i1
theorem f'.left{a b:Pr}(h:f' f o p W a b):f' f o p W a a:= .tr h h.symm
theorem f'.on{a b:Pr}(h:f' f o p W a b):∃ps,BW f o p W ps∧a∈ps:=by
 induction h with
 |way ps h1 h2 h3=>exact⟨ps,h1,h2⟩
 |tr _ _ i1 _=>exact i1
theorem nK{as:List Pr}{q:Pr}{bs:List Pr}(eX:as≠[])(x y:Int):vl (lf f) o p (as++q::bs)=uG f o p as x y+OM f o p q bs x y:=by
 rw[AG _ _ _ eX];unfold uG OM gp;have e1:q.1-(lstP as).1-1=(x-1-(lstP as).1)+(q.1-x):=by lia
 have e2:q.2-(lstP as).2-1=(y-1-(lstP as).2)+(q.2-y):=by lia
 rw[e1,e2,Int.mul_add,Int.mul_add]
 lia
theorem mD(T:e8 f o p W){as yf:List Pr}{q:Pr}{bs:List Pr}{x y:Int}(a:Wy (lf f) as)(b:Wy (lf f) (q::bs))(h3:x≤q.1)(h4:y≤q.2)(hW:vl (lf f) o p (as++q::bs)=W)
  (a':Wy (lf f) yf) (l1:(lstP yf).1<x) (l2:(lstP yf).2<y) (hb:uG f o p as x y≤uG f o p yf x y):BW f o p W (yf++q::bs):=by
 have w:=a'.app b ⟨by lia,by lia⟩;refine⟨w,?_⟩;have:=T _ w;rw[nK a'.ne x y]at this⊢;rw[nK a.ne x y]at hW
 lia
theorem xj{as:List Pr}{i j:Nat}(a:Wy (lf f) as)(l1:(lstP as).1<(i:Int))(l2:(lstP as).2<(j:Int)):∃b,Bq f o p i j=some b∧uG f o p as i j≤b:=by
 have m:=f9 f o p i j;cases e:Bq f o p i j with
 |none=>rw[e]at m;exact Zn ⟨as,a,l1,l2,rfl⟩ (m _)
 |some b=>rw[e]at m;exact⟨b,rfl,m.2 _ ⟨as,a,l1,l2,rfl⟩⟩
theorem xk{i j:Nat}{b:Int}(e:Bq f o p i j=some b):∃as,Wy (lf f) as∧(lstP as).1<(i:Int)∧(lstP as).2<(j:Int)∧uG f o p as i j=b:=by
 have m:=f9 f o p i j;rw[e]at m;obtain⟨as,h1,h2,h3,h4⟩:=m.1;exact⟨as,h1,h2,h3,h4.symm⟩
theorem mE{i j:Nat}{b:Int}(e:dH f o p i j=some b):∃as,Wy (lf f) as∧lstP as=aP (i,j)∧vl (lf f) o p as=b:=by
 have m:=tH f o p i j;rw[e]at m;obtain⟨as,h1,h2,h3⟩:=m.1;exact⟨as,h1,h2,h3.symm⟩
theorem xl{as:List Pr}{i j:Nat}(a:Wy (lf f) as)(l:lstP as=aP (i,j)):∃b,dH f o p i j=some b∧vl (lf f) o p as≤b:=by
 have m:=tH f o p i j;cases e:dH f o p i j with
 |none=>rw[e]at m;exact Zn ⟨as,a,l,rfl⟩ (m _)
 |some b=>rw[e]at m;exact⟨b,rfl,m.2 _ ⟨as,a,l,rfl⟩⟩
theorem FJ{i j:Nat}(e:dH f o p i j=some W):f' f o p W (aP (i,j)) (aP (i,j)):=by
 obtain⟨as,h1,h2,h3⟩:=mE e;have:aP (i,j)∈as:=by rw[←h2];exact dw h1.ne
 exact .way as ⟨h1,h3⟩ this this
theorem Df(T:e8 f o p W){i j:Nat}{r:Pr}(h:Over f o p W ((i+1:Nat):Int) ((j+1:Nat):Int) r)(e:dH f o p i j=Bq f o p (i+1) (j+1)):f' f o p W (aP (i,j)) r:=by
 obtain⟨as,q,bs,a,b,l1,l2,l3,l4,hW,hr⟩:=h;obtain⟨v,hv,hle⟩:=xj (o:=o) (p:=p) a l1 l2;rw[hv]at e;obtain⟨yf,a',k1,k2⟩:=mE e;have hb:uG f o p yf ((i+1:Nat):Int) ((j+1:Nat):Int)=v:=by
  unfold uG;rw[k1,k2];have e1:((i+1:Nat):Int)-1-(aP (i,j)).1=0:=by show((i+1:Nat):Int)-1-(i:Int)=0;lia
  have e2:((j+1:Nat):Int)-1-(aP (i,j)).2=0:=by show((j+1:Nat):Int)-1-(j:Int)=0;lia
  rw[e1,e2,Int.mul_zero,Int.mul_zero];lia
 have:=mD T a b l3 l4 hW a' (by rw[k1];simp[aP];lia) (by rw[k1];simp[aP];lia) (by rw[hb];exact hle);refine .way _ this (List.mem_append_left _ ?_) (γ hr);rw[←k1];exact dw a'.ne
theorem rC(T:e8 f o p W){i j x y:Nat}{r:Pr}{c:Int}(h:Over f o p W ((i+1:Nat):Int) ((j+1:Nat):Int) r)(hx:x≤i+1)(hy:y≤j+1)(hc:c=o*((i+1:Nat)-x:Int)+p*((j+1:Nat)-y:Int))(e:bE (Bq f o p x y) c=Bq f o p (i+1) (j+1)):Over f o p W (x:Int) (y:Int) r:=by
 obtain⟨as,q,bs,a,b,l1,l2,l3,l4,hW,hr⟩:=h;obtain⟨v,hv,hle⟩:=xj (o:=o) (p:=p) a l1 l2;rw[hv]at e;cases e2:Bq f o p x y with
 |none=>rw[e2]at e;cases e
 |some v2=>
  rw[e2]at e;have e:v2-c=v:=by simpa[bE]using e
  obtain⟨yf,a',k1,k2,k3⟩:=xk e2;have hb:uG f o p yf ((i+1:Nat):Int) ((j+1:Nat):Int)=v:=by
   unfold uG at k3⊢;have e1:((i+1:Nat):Int)-1-(lstP yf).1=((x:Int)-1-(lstP yf).1)+((i+1:Nat)-x:Int):=by lia
   have e2:((j+1:Nat):Int)-1-(lstP yf).2=((y:Int)-1-(lstP yf).2)+((j+1:Nat)-y:Int):=by lia
   rw[e1,e2,Int.mul_add,Int.mul_add]
   lia
  have:=mD T a b l3 l4 hW a' UQ (by lia) (by rw[hb];exact hle);exact⟨yf,q,bs,a',b,k1,k2,by lia,by lia,this.2,hr⟩
theorem HR(T:e8 f o p W){i j:Nat}(h:f' f o p W (aP (i,j)) (aP (i,j)))(g:gQ (Bq f o p i j)=true):Over f o p W (i:Int) (j:Int) (aP (i,j)):=by
 obtain⟨ws,⟨hw,hW⟩,hm⟩:=h.on;obtain⟨u,v,rfl⟩:=List.append_of_mem hm;cases e:Bq f o p i j with
 |none=>rw[e]at g;cases g
 |some b=>
  rw[e]at g;have g:0≤b:=by simpa[gQ]using g
  obtain⟨as,a,k1,k2,k3⟩:=xk e;have hr:Wy (lf f) (aP (i,j)::v):=hw.right ZA;have ws:=a.app hr ⟨k1,k2⟩;have hle:=T _ ws;have cv:=nK (f:=f) (o:=o) (p:=p) (q:=aP (i,j)) (bs:=v) a.ne (i:Int) (j:Int);have ha:OM f o p (aP (i,j)) v (i:Int) (j:Int)=vl (lf f) o p (aP (i,j)::v):=by
   unfold OM;have e1:(aP (i,j)).1-(i:Int)=0:=by simp[aP]
   have e2:(aP (i,j)).2-(j:Int)=0:=by simp[aP]
   rw[e1,e2,Int.mul_zero,Int.mul_zero];lia
  have Zg:W≤b+vl (lf f) o p (aP (i,j)::v):=by
   by_cases hu:u=[]
   ·subst hu;simp only[List.nil_append]at hW
    lia
   ·have cu:=nK (f:=f) (o:=o) (p:=p) (q:=aP (i,j)) (bs:=v) hu (i:Int) (j:Int);have Qr:Wy (lf f) u:=hw.left hu;have hs:zG (lstP u) (aP (i,j)):=(List.pairwise_append.mp hw.up).2.2 _ (dw hu) _ (ZF);obtain⟨b2,yg,Xs⟩:=xj (o:=o) (p:=p) Qr (i:=i) (j:=j) hs.1 hs.2;rw[e]at yg;cases yg
    lia
  exact⟨as,aP (i,j),v,a,hr,k1,k2,by simp[aP],by simp[aP],by lia,ZF⟩
theorem over_over(T:e8 f o p W){x y:Int}{r r':Pr}(h:Over f o p W x y r)(h':Over f o p W x y r'):f' f o p W r r':=by
 obtain⟨as,q,bs,a,b,l1,l2,l3,l4,hW,hr⟩:=h;obtain⟨yf,q',Xu,a',b',k1,k2,k3,k4,U',LO⟩:=h';have w1:BW f o p W (as++q::bs):=⟨a.app b ⟨by lia,by lia⟩,hW⟩
 have w2:BW f o p W (yf++q'::Xu):=⟨a'.app b' ⟨by lia,by lia⟩,U'⟩
 by_cases hb:uG f o p as x y≤uG f o p yf x y
 ·have:=mD T a b l3 l4 hW a' k1 k2 hb;exact .tr (.way (b:=lstP yf) _ this (γ hr) (List.mem_append_left _ (dw a'.ne))) (.way _ w2 (List.mem_append_left _ (dw a'.ne)) (γ LO))
 ·have:=mD T a' b' k3 k4 U' a l1 l2 UQ;exact .tr (.way (b:=lstP as) _ w1 (γ hr) (List.mem_append_left _ (dw a.ne))) (.way _ this (List.mem_append_left _ (dw a.ne)) (γ LO))
theorem between(T:e8 f o p W){u v:List Pr}{q r:Nat×Nat}(w:BW f o p W (u++aP q::aP r::v)):
  (∀x y:Nat,q.1<x→q.2<y→x≤r.1→y≤r.2→Bq f o p x y=some (uG f o p (u++[aP q]) x y))∧dH f o p q.1 q.2=some (vl (lf f) o p (u++[aP q]))∧0≤uG f o p (u++[aP q]) r.1 r.2:=by
 obtain⟨w,hW⟩:=w;have e:u++aP q::aP r::v=(u++[aP q])++aP r::v:=ZF;rw[e]at w hW;have hl:Wy (lf f) (u++[aP q]):=w.left ZA;have hr:Wy (lf f) (aP r::v):=w.right ZA;have ls:lstP (u++[aP q])=aP q:=dO;have vk:zG (aP q) (aP r):=by
  have:=(List.pairwise_append.mp w.up).2.2 _ (dw hl.ne) (aP r) (ZF);rw[ls]at this;exact this
 refine⟨fun x y h1 h2 h3 h4=>?_,?_,?_⟩
 ·have c1:(lstP (u++[aP q])).1<(x:Int):=by rw[ls];simp[aP];lia
  have c2:(lstP (u++[aP q])).2<(y:Int):=by rw[ls];simp[aP];lia
  obtain⟨b,hb,hle⟩:=xj (o:=o) (p:=p) hl c1 c2;rw[hb]
  congr 1
  obtain⟨as,a,k1,k2,k3⟩:=xk hb;have wa:=a.app hr ⟨by simp[aP];lia,by simp[aP];lia⟩;have:=T _ wa;rw[nK a.ne (x:Int) (y:Int)]at this;rw[nK hl.ne (x:Int) (y:Int)]at hW
  lia
 ·obtain⟨b,hb,hle⟩:=xl (o:=o) (p:=p) hl (i:=q.1) (j:=q.2) ls;rw[hb]
  congr 1
  obtain⟨as,a,k1,k2⟩:=mE hb;have wa:=a.app hr (by rw[k1];exact vk);have:=T _ wa;rw[AG _ _ _ a.ne,k1,show aP (q.1,q.2)=aP q from rfl]at this;rw[AG _ _ _ hl.ne,ls]at hW
  lia
 ·have:=T _ hr;rw[nK hl.ne (r.1:Int) (r.2:Int)]at hW;unfold OM at hW;have e1:(aP r).1-(r.1:Int)=0:=by simp[aP]
  have e2:(aP r).2-(r.2:Int)=0:=by simp[aP]
  rw[e1,e2,Int.mul_zero,Int.mul_zero]at hW
  lia
end
abbrev GS:=(Pr→Pr→Prop)×(Pr→Option Pr)
def y_(s:GS)(c r:Pr):GS:=
 match s.2 c with
 |some r0=>(qD s.1 r0 r,s.2)
 |none=>(s.1,fun x=>if x=c then some r else s.2 x)
section
variable(f:Nat→Nat→Option Int)(o p W:Int)
def JA(i j:Nat)(s:GS)(r:Pr):GS:=(if dH f o p i j=Bq f o p (i+1) (j+1)then qD (Jz s.1 (aP (i,j))) (aP (i,j)) r else s.1,s.2)
def LP(i j:Nat)(s:GS)(r:Pr):GS:=(bA f o p i j).foldl (fun s c=>y_ s c r) (JA f o p i j s r)
def HS(i j:Nat)(s:GS):GS:=(if dH f o p i j=some W then Jz s.1 (aP (i,j))else s.1,s.2)
def DJ(i j:Nat)(s:GS):GS:=
 match s.2 (aP (i+1,j+1))with
 |some r=>LP f o p i j (HS f o p W i j s) r
 |none=>HS f o p W i j s
open Classical in
noncomputable def zK(i j:Nat)(s:GS):GS:=if (DJ f o p W i j s).1 (aP (i,j)) (aP (i,j))∧gQ (Bq f o p i j)=true then y_ (DJ f o p W i j s) (aP (i,j)) (aP (i,j))else DJ f o p W i j s
structure iq(s:GS):Prop where
 sy:∀a b,s.1 a b→s.1 b a
 tr:∀a b c,s.1 a b→s.1 b c→s.1 a c
 hg:∀a b,s.1 a b→f' f o p W a b
 mr:∀c r,s.2 c=some r→s.1 r r∧∃i j:Nat,c=aP (i,j)∧Over f o p W (i:Int) (j:Int) r
end
structure Gw(s s':GS)(N:Pr→Prop)(M:Pr→Prop):Prop where
 e:∀a b,s.1 a b→s'.1 a b
 n:∀a,s'.1 a a→s.1 a a∨N a
 m:∀c r,s.2 c=some r→s'.2 c=some r
 k:∀c r,s'.2 c=some r→s.2 c=some r∨M c
theorem Gw.refl{s:GS}{N M:Pr→Prop}:Gw s s N M:=⟨fun _ _ h=>h,fun _ h=> .inl h,fun _ _ h=>h,fun _ _ h=> .inl h⟩
theorem Gw.trans{s s' wg:GS}{N M:Pr→Prop}(a:Gw s s' N M)(b:Gw s' wg N M):Gw s wg N M:=
 ⟨fun x y h=>b.e x y (a.e x y h),fun x h=>(b.n x h).elim (a.n x) .inr,fun c r h=>b.m c r (a.m c r h),fun c r h=>(b.k c r h).elim (a.k c r) .inr⟩
theorem Gw.wide{s s':GS}{N M N' M':Pr→Prop}(a:Gw s s' N M)(hN:∀x,N x→N' x)(hM:∀x,M x→M' x):Gw s s' N' M':=⟨a.e,fun x h=>(a.n x h).imp id (hN x),a.m,fun c r h=>(a.k c r h).imp id (hM c)⟩
section
variable{f:Nat→Nat→Option Int}{o p W:Int}{s:GS}
theorem iq.Va(k:iq f o p W s){a b:Pr}(ha:s.1 a a)(hb:s.1 b b)(h:f' f o p W a b):iq f o p W (qD s.1 a b,s.2):=by
 have hc:∀c,s.1 c a∨s.1 c b→f' f o p W c a:=fun c h'=>h'.elim (k.hg c a) fun z=> .tr (k.hg c b z) h.symm
 refine⟨fun x y h=>?_,fun x y z h1 h2=>?_,fun x y h=>?_,fun c r h=>⟨.inl (k.mr c r h).1,(k.mr c r h).2⟩⟩
 ·exact h.imp (k.sy x y) fun h=>⟨h.2,h.1⟩
 ·rcases h1 with h1|⟨h1,Jj⟩
  ·rcases h2 with h2|⟨h2,Jk⟩
   ·exact .inl (k.tr _ _ _ h1 h2)
   ·exact .inr ⟨h2.imp (k.tr _ _ _ h1) (k.tr _ _ _ h1),Jk⟩
  ·rcases h2 with h2|⟨h2,Jk⟩
   ·exact .inr ⟨h1,Jj.imp (k.tr _ _ _ (k.sy _ _ h2)) (k.tr _ _ _ (k.sy _ _ h2))⟩
   ·exact .inr ⟨h1,Jk⟩
 ·rcases h with h|⟨h1,h2⟩
  ·exact k.hg x y h
  ·exact .tr (hc x h1) (hc y h2).symm
theorem iq.take(k:iq f o p W s){a:Pr}(h:f' f o p W a a):iq f o p W (Jz s.1 a,s.2):=by
 refine⟨fun x y h=>?_,fun x y z h1 h2=>?_,fun x y h'=>?_,fun c r h=>⟨.inl (k.mr c r h).1,(k.mr c r h).2⟩⟩
 ·exact h.imp (k.sy x y) fun h=>⟨h.2,h.1⟩
 ·rcases h1 with h1|⟨h1,Jj⟩
  ·rcases h2 with h2|⟨h2,Jk⟩
   ·exact .inl (k.tr _ _ _ h1 h2)
   ·subst h2 Jk;exact .inl h1
  ·subst h1 Jj;exact h2
 ·rcases h' with h'|⟨h1,h2⟩
  ·exact k.hg x y h'
  ·subst h1 h2;exact h
theorem FK(sy:∀a b,s.1 a b→s.1 b a)(tr:∀a b c,s.1 a b→s.1 b c→s.1 a c){a b:Pr}:Gw s (qD s.1 a b,s.2) (fun _=>False) (fun _=>False):=by
 refine⟨fun _ _ h=> .inl h,fun x h=> .inl ?_,fun _ _ h=>h,fun _ _ h=> .inl h⟩;rcases h with h|⟨h,_⟩
 ·exact h
 ·exact h.elim (fun z=>tr _ _ _ z (sy _ _ z)) fun z=>tr _ _ _ z (sy _ _ z)
theorem iq.mark(T:e8 f o p W)(k:iq f o p W s){i j:Nat}{r:Pr}(hr:s.1 r r)(ov:Over f o p W (i:Int) (j:Int) r):iq f o p W (y_ s (aP (i,j)) r):=by
 unfold y_;cases e:s.2 (aP (i,j))with
 |some r0=>
  obtain⟨h1,i2,j2,h2,h3⟩:=k.mr _ _ e;have h2:(i:Int)=i2∧(j:Int)=j2:=by simpa[aP]using h2
  rw[←h2.1,←h2.2]at h3;exact k.Va h1 hr (over_over T h3 ov)
 |none=>
  refine⟨k.sy,k.tr,k.hg,fun c r' h=>?_⟩;have h:(if c=aP (i,j)then some r else s.2 c)=some r':=h;by_cases e2:c=aP (i,j)
  ·rw[Z7 e2]at h;cases h;exact⟨hr,i,j,e2,ov⟩
  ·rw[Z5 e2]at h;exact k.mr c r' h
theorem JB(k:iq f o p W s){c r:Pr}:Gw s (y_ s c r) (fun _=>False) (·=c):=by
 unfold y_;cases e:s.2 c with
 |some r0=>exact(FK k.sy k.tr).wide (fun _ h=>h) fun _ h=>h.elim
 |none=>
  refine⟨fun _ _ h=>h,fun _ h=> .inl h,fun c' r' h=>?_,fun c' r' h=>?_⟩
  ·show(if c'=c then some r else s.2 c')=some r';rw[Z5 (fun z=>by rw[z,e]at h;cases h)];exact h
  ·have h:(if c'=c then some r else s.2 c')=some r':=h;by_cases e2:c'=c
   ·exact .inr e2
   ·rw[Z5 e2]at h;exact .inl h
theorem FN(k:iq f o p W s){c r:Pr}(hr:s.1 r r):∃r',(y_ s c r).2 c=some r'∧(y_ s c r).1 r r':=by
 unfold y_;cases e:s.2 c with
 |some r0=>exact⟨r0,e, .inr ⟨.inr hr, .inl (k.mr _ _ e).1⟩⟩
 |none=>exact⟨r,ZF,hr⟩
theorem tO(T:e8 f o p W){r:Pr}:∀(cs:List Pr)(s:GS),iq f o p W s→s.1 r r→(∀c∈cs,∃i j:Nat,c=aP (i,j)∧Over f o p W (i:Int) (j:Int) r)→
  iq f o p W (cs.foldl (fun s c=>y_ s c r) s)∧Gw s (cs.foldl (fun s c=>y_ s c r) s) (fun _=>False) (·∈cs)∧∀c∈cs,∃r',(cs.foldl (fun s c=>y_ s c r) s).2 c=some r'∧(cs.foldl (fun s c=>y_ s c r) s).1 r r'
 |[],s,k,_,_=>⟨k, .refl,fun c h=>by cases h⟩
 |c::cs,s,k,hr,h=>by
  obtain⟨i,j,rfl,ov⟩:=h c (ZF);have k1:=k.mark T hr ov;have g1:=JB k (c:=aP (i,j)) (r:=r);obtain⟨r',m1,m2⟩:=FN k (c:=aP (i,j)) hr;obtain⟨a1,a2,a3⟩:=tO T cs _ k1 (g1.e _ _ hr) fun c hc=>h c (by simp[hc])
  refine⟨a1,(g1.wide (fun _ h=>h) fun x hx=>?_).trans (a2.wide (fun _ h=>h) fun x hx=>?_),fun c hc=>?_⟩
  ·show x∈_::_;rw[hx];simp
  ·exact ε hx
  ·rcases List.mem_cons.mp hc with rfl|hc
   ·exact⟨r',a2.m _ _ m1,a2.e _ _ m2⟩
   ·exact a3 c hc
theorem rD(T:e8 f o p W){i j:Nat}{r:Pr}(h:Over f o p W ((i+1:Nat):Int) ((j+1:Nat):Int) r):∀c∈bA f o p i j,∃x y:Nat,c=aP (x,y)∧Over f o p W (x:Int) (y:Int) r:=by
 intro c hc;unfold bA at hc;rcases List.mem_append.mp hc with hc|hc
 ·split at hc
  ·rename_i e
   have:c=aP (i,j+1):=by simpa[aP]using hc
   refine⟨i,j+1,this,rC T h UQ (by lia) ?_ e⟩;have e1:((i+1:Nat):Int)-(i:Int)=1:=by lia
   have e2:((j+1:Nat):Int)-((j+1:Nat):Int)=0:=by lia
   rw[e1,e2];lia
  ·cases hc
 ·split at hc
  ·rename_i e
   have:c=aP (i+1,j):=by simpa[aP]using hc
   refine⟨i+1,j,this,rC T h UQ (by lia) ?_ e⟩;have e1:((i+1:Nat):Int)-((i+1:Nat):Int)=0:=by lia
   have e2:((j+1:Nat):Int)-(j:Int)=1:=by lia
   rw[e1,e2];lia
  ·cases hc
theorem FO(T:e8 f o p W)(k:iq f o p W s){i j:Nat}{r:Pr}(hr:s.1 r r)(ov:Over f o p W ((i+1:Nat):Int) ((j+1:Nat):Int) r):
  iq f o p W (JA f o p i j s r)∧Gw s (JA f o p i j s r) (·=aP (i,j)) (·∈bA f o p i j)∧(dH f o p i j=Bq f o p (i+1) (j+1)→(JA f o p i j s r).1 (aP (i,j)) r):=by
 unfold JA;by_cases e:dH f o p i j=Bq f o p (i+1) (j+1)
 ·rw[Z7 e];have h:=Df T ov e;have k1:=k.take h.left;have k2:=k1.Va (a:=aP (i,j)) (b:=r) (.inr ⟨rfl,rfl⟩) (.inl hr) h;refine⟨k2,⟨fun a b h=> .inl (.inl h),fun a h=>?_,fun _ _ h=>h,fun _ _ h=> .inl h⟩,fun _=> .inr ⟨.inl (.inr ⟨rfl,rfl⟩), .inr (.inl hr)⟩⟩;rcases(FK (s:=(Jz s.1 (aP (i,j)),s.2)) k1.sy k1.tr).n a h with h|h
  ·exact h.imp id And.left
  ·exact h.elim
 ·rw[Z5 e];exact⟨⟨k.sy,k.tr,k.hg,k.mr⟩, .refl,fun z=>Zn z e⟩
theorem ON(T:e8 f o p W)(k:iq f o p W s){i j:Nat}{r:Pr}(hr:s.1 r r)(ov:Over f o p W ((i+1:Nat):Int) ((j+1:Nat):Int) r):
  iq f o p W (LP f o p i j s r)∧Gw s (LP f o p i j s r) (·=aP (i,j)) (·∈bA f o p i j)∧(dH f o p i j=Bq f o p (i+1) (j+1)→(LP f o p i j s r).1 (aP (i,j)) r)∧∀c∈bA f o p i j,∃r',(LP f o p i j s r).2 c=some r'∧(LP f o p i j s r).1 r r':=by
 obtain⟨b1,b2,b3⟩:=FO T k hr ov;obtain⟨a1,a2,a3⟩:=tO T (bA f o p i j) _ b1 (b2.e _ _ hr) (rD T ov);exact⟨a1,b2.trans (a2.wide (fun _ h=>h.elim) fun _ h=>h),fun e=>a2.e _ _ (b3 e),a3⟩
theorem FP(k:iq f o p W s)(i j:Nat):iq f o p W (HS f o p W i j s)∧Gw s (HS f o p W i j s) (·=aP (i,j)) (fun _=>False)∧(dH f o p i j=some W→(HS f o p W i j s).1 (aP (i,j)) (aP (i,j))):=by
 unfold HS;by_cases e:dH f o p i j=some W
 ·rw[Z7 e];exact⟨k.take (FJ e),⟨fun _ _ h=> .inl h,fun _ h=>h.imp id And.left,fun _ _ h=>h,fun _ _ h=> .inl h⟩,fun _=> .inr ⟨rfl,rfl⟩⟩
 ·rw[Z5 e];exact⟨⟨k.sy,k.tr,k.hg,k.mr⟩, .refl,fun z=>Zn z e⟩
def LQ(f:Nat→Nat→Option Int)(o p:Int)(i j:Nat)(c:Pr):Prop:=c∈bA f o p i j∨c=aP (i,j)
theorem FQ(T:e8 f o p W)(k:iq f o p W s)(i j:Nat):iq f o p W (DJ f o p W i j s)∧Gw s (DJ f o p W i j s) (·=aP (i,j)) (LQ f o p i j)∧(dH f o p i j=some W→(DJ f o p W i j s).1 (aP (i,j)) (aP (i,j)))∧∀r,s.2 (aP (i+1,j+1))=some r→
  (dH f o p i j=Bq f o p (i+1) (j+1)→(DJ f o p W i j s).1 (aP (i,j)) r)∧∀c∈bA f o p i j,∃r',(DJ f o p W i j s).2 c=some r'∧(DJ f o p W i j s).1 r r':=by
 obtain⟨k1,g1,e1⟩:=FP k i j;unfold DJ;cases e:s.2 (aP (i+1,j+1))with
 |none=>exact⟨k1,g1.wide (fun _ h=>h) fun _ h=>h.elim,e1,fun r h=>by cases h⟩
 |some r=>
  obtain⟨h1,i2,j2,h2,h3⟩:=k.mr _ _ e;have h2:((i+1:Nat):Int)=i2∧((j+1:Nat):Int)=j2:=by simpa[aP]using h2
  rw[←h2.1,←h2.2]at h3;obtain⟨a1,a2,a3,a4⟩:=ON T k1 (g1.e _ _ h1) h3;refine⟨a1,(g1.wide (fun _ h=>h) fun _ h=>h.elim).trans (a2.wide (fun _ h=>h) fun _ h=> .inl h),fun z=>a2.e _ _ (e1 z),fun r' h=>?_⟩;cases h;exact⟨a3,a4⟩
theorem OO(T:e8 f o p W)(k:iq f o p W s)(i j:Nat):iq f o p W (zK f o p W i j s)∧Gw s (zK f o p W i j s) (·=aP (i,j)) (LQ f o p i j)∧(dH f o p i j=some W→(zK f o p W i j s).1 (aP (i,j)) (aP (i,j)))∧(∀r,s.2 (aP (i+1,j+1))=some r→
  (dH f o p i j=Bq f o p (i+1) (j+1)→(zK f o p W i j s).1 (aP (i,j)) r)∧∀c∈bA f o p i j,∃r',(zK f o p W i j s).2 c=some r'∧(zK f o p W i j s).1 r r')∧
  ((zK f o p W i j s).1 (aP (i,j)) (aP (i,j))→gQ (Bq f o p i j)=true→∃r,(zK f o p W i j s).2 (aP (i,j))=some r∧(zK f o p W i j s).1 (aP (i,j)) r):=by
 obtain⟨k1,g1,e1,o1⟩:=FQ T k i j;unfold zK;split
 ·rename_i h
  have k2:=k1.mark T h.1 (HR T (k1.hg _ _ h.1) h.2);have g2:=JB k1 (c:=aP (i,j)) (r:=aP (i,j));refine⟨k2,g1.trans (g2.wide (fun _ h=>h.elim) fun _ h=> .inr h),fun z=>g2.e _ _ (e1 z),fun r hr=>?_,fun _ _=>FN k1 h.1⟩;obtain⟨a1,a2⟩:=o1 r hr;refine⟨fun z=>g2.e _ _ (a1 z),fun c hc=>?_⟩;obtain⟨r',b1,b2⟩:=a2 c hc;exact⟨r',g2.m _ _ b1,g2.e _ _ b2⟩
 ·rename_i h
  exact⟨k1,g1,e1,o1,fun h1 h2=>Zn ⟨h1,h2⟩ h⟩
end
structure Vd(f:Nat→Nat→Option Int)(o p W:Int)(V:Nat→Nat→Prop)(s:GS):Prop where
 ok:iq f o p W s
 Xv:∀a,s.1 a a→∃i j:Nat,a=aP (i,j)∧V i j
 en:∀i j,V i j→dH f o p i j=some W→s.1 (aP (i,j)) (aP (i,j))
 on:∀i j,V i j→s.1 (aP (i,j)) (aP (i,j))→gQ (Bq f o p i j)=true→∃r,s.2 (aP (i,j))=some r∧s.1 (aP (i,j)) r
 ov:∀i j r,V i j→s.2 (aP (i+1,j+1))=some r→(dH f o p i j=Bq f o p (i+1) (j+1)→s.1 (aP (i,j)) r)∧∀c∈bA f o p i j,∃r',s.2 c=some r'∧s.1 r r'
theorem iJ{a b c d:Nat}(h:aP (a,b)=aP (c,d)):a=c∧b=d:=by
 have h:(a:Int)=c∧(b:Int)=d:=by simpa[aP]using h
 lia
theorem FT{f:Nat→Nat→Option Int}{o p:Int}{i j a b:Nat}(h:LQ f o p i j (aP (a+1,b+1))):(a+1=i∧b+1=j)∨(a+1=i∧b=j)∨(a=i∧b+1=j):=by
 rcases h with h|h
 ·unfold bA at h;rcases List.mem_append.mp h with h|h
  ·split at h
   ·have:aP (a+1,b+1)=aP (i,j+1):=by simpa[aP]using h
    have:=iJ this
    lia
   ·cases h
  ·split at h
   ·have:aP (a+1,b+1)=aP (i+1,j):=by simpa[aP]using h
    have:=iJ this
    lia
   ·cases h
 ·have:=iJ h
  lia
def Vb(n m i j:Nat)(a b:Nat):Prop:=a<n∧b<m∧(i<a∨(i=a∧j≤b))
theorem Vd.start(f:Nat→Nat→Option Int)(o p W:Int)(n m:Nat):Vd f o p W (Vb n m n 0) (fun _ _=>False,fun _=>none):=by
 have no:∀a b,¬Vb n m n 0 a b:=fun a b ⟨h1,_,h2⟩=>by lia
 exact⟨⟨fun _ _ h=>h.elim,fun _ _ _ h=>h.elim,fun _ _ h=>h.elim,fun _ _ h=>(by cases h)⟩,fun _ h=>h.elim,fun i j h=>Zn h (no i j),fun i j h=>Zn h (no i j),fun i j r h=>Zn h (no i j)⟩
theorem Vd.turn{f:Nat→Nat→Option Int}{o p W:Int}{n m i:Nat}{s:GS}(v:Vd f o p W (Vb n m (i+1) 0) s):Vd f o p W (Vb n m i m) s:=by
 have e:Vb n m (i+1) 0=Vb n m i m:=by
  funext a b
  simp only[Vb,eq_iff_iff]
  lia
 rw[←e];exact v
theorem Vd.next{f:Nat→Nat→Option Int}{o p W:Int}{n m i j:Nat}{s:GS}(T:e8 f o p W)(hi:i<n)(hj:j<m)(v:Vd f o p W (Vb n m i (j+1)) s):Vd f o p W (Vb n m i j) (zK f o p W i j s):=by
 obtain⟨k,g,e,ov,on⟩:=OO T v.ok i j;have cut:∀a b,Vb n m i j a b→(a=i∧b=j)∨Vb n m i (j+1) a b:=fun a b h=>by
  unfold Vb at h⊢
  lia
 have old:∀a b r,Vb n m i j a b→(zK f o p W i j s).2 (aP (a+1,b+1))=some r→s.2 (aP (a+1,b+1))=some r:=fun a b r h hr=>by
  rcases g.k _ _ hr with z|z
  ·exact z
  ·have:=FT z;unfold Vb at h
   lia
 refine⟨k,fun a ha=>?_,fun a b h he=>?_,fun a b h h1 h2=>?_,fun a b r h hr=>?_⟩
 ·rcases g.n a ha with z|z
  ·obtain⟨x,y,h1,h2⟩:=v.Xv a z;exact⟨x,y,h1,by unfold Vb at h2⊢;lia⟩
  ·exact⟨i,j,z,by unfold Vb;lia⟩
 ·rcases cut a b h with⟨rfl,rfl⟩|h'
  ·exact e he
  ·exact g.e _ _ (v.en a b h' he)
 ·rcases cut a b h with⟨rfl,rfl⟩|h'
  ·exact on h1 h2
  ·have hs:s.1 (aP (a,b)) (aP (a,b)):=by
    rcases g.n _ h1 with z|z
    ·exact z
    ·have:=iJ z;unfold Vb at h'
     lia
   obtain⟨r,z1,z2⟩:=v.on a b h' hs h2;exact⟨r,g.m _ _ z1,g.e _ _ z2⟩
 ·have LO:=old a b r h hr;rcases cut a b h with⟨rfl,rfl⟩|h'
  ·exact ov r LO
  ·obtain⟨z1,z2⟩:=v.ov a b r h' LO;refine⟨fun z=>g.e _ _ (z1 z),fun c hc=>?_⟩;obtain⟨r',y1,y2⟩:=z2 c hc;exact⟨r',g.m _ _ y1,g.e _ _ y2⟩
theorem jV{f:Nat→Nat→Option Int}{n m:Nat}(t:DD f n m){ps:List Pr}(w:Wy (lf f) ps){a:Pr}(h:a∈ps):∃i j:Nat,a=aP (i,j)∧i<n∧j<m:=by
 have hs:=w.ok a h;obtain⟨i,j,rfl⟩:=BE hs;rw[qy]at hs;obtain⟨h1,h2⟩:=t i j hs;exact⟨i,j,rfl,h1,h2⟩
theorem Vd.step{f:Nat→Nat→Option Int}{o p W:Int}{n m:Nat}{s:GS}(T:e8 f o p W)(v:Vd f o p W (Vb n m 0 0) s){us vs:List Pr}{q r:Nat×Nat}(w:BW f o p W (us++aP q::aP r::vs))(hr:r.1<n)(zL:r.2<m)(hq:q.1<r.1)(FU:q.2<r.2)(hE:s.1 (aP r) (aP r)):s.1 (aP q) (aP r):=by
 obtain⟨b1,b2,b3⟩:=between T w;have ok:=v.ok;have V0:∀a b,a<n→b<m→Vb n m 0 0 a b:=fun a b h1 h2=>⟨h1,h2,by lia⟩
 have top:=b1 r.1 r.2 hq FU Λ (Nat.le_refl _);obtain⟨r0,m0,e0⟩:=v.on r.1 r.2 (V0 _ _ hr zL) hE (by rw[top];simpa[gQ]using b3);have Xw:∀x y:Nat,uG f o p (us++[aP q]) (x:Int) (y:Int)-o=uG f o p (us++[aP q]) ((x+1:Nat):Int) (y:Int):=fun x y=>by
  unfold uG;have e1:((x+1:Nat):Int)-1-(lstP (us++[aP q])).1=((x:Int)-1-(lstP (us++[aP q])).1)+1:=by lia
  rw[e1,Int.mul_add];lia
 have Xx:∀x y:Nat,uG f o p (us++[aP q]) (x:Int) (y:Int)-p=uG f o p (us++[aP q]) (x:Int) ((y+1:Nat):Int):=fun x y=>by
  unfold uG;have e1:((y+1:Nat):Int)-1-(lstP (us++[aP q])).2=((y:Int)-1-(lstP (us++[aP q])).2)+1:=by lia
  rw[e1,Int.mul_add];lia
 have go:∀d x y:Nat,(r.1-x)+(r.2-y)=d→q.1<x→q.2<y→x≤r.1→y≤r.2→∃r',s.2 (aP (x,y))=some r'∧s.1 (aP r) r':=by
  intro d
  induction d with
  |zero=>
   intro x y hd h1 h2 h3 h4;have:x=r.1:=by lia
   have:y=r.2:=by lia
   subst x y;exact⟨r0,m0,e0⟩
  |succ d ih=>
   intro x y hd h1 h2 h3 h4;by_cases hx:x<r.1
   ·obtain⟨r1,m1,e1⟩:=ih (x+1) y UQ (by lia) h2 UQ h4;obtain⟨y,rfl⟩:∃y',y=y'+1:=⟨y-1,by lia⟩
    obtain⟨_,z⟩:=v.ov x y r1 (V0 _ _ (by lia) (by lia)) m1;have hc:aP (x,y+1)∈bA f o p x y:=by
     unfold bA;refine List.mem_append_left _ ?_;rw[if_pos]
     ·simp[aP]
     ·rw[b1 x (y+1) h1 h2 h3 h4,b1 (x+1) (y+1) (by lia) h2 UQ h4];simp only[bE];rw[Xw]
    obtain⟨r2,m2,e2⟩:=z _ hc;exact⟨r2,m2,ok.tr _ _ _ e1 e2⟩
   ·obtain⟨r1,m1,e1⟩:=ih x (y+1) (by lia) h1 UQ h3 UQ;obtain⟨x,rfl⟩:∃x',x=x'+1:=⟨x-1,by lia⟩
    obtain⟨_,z⟩:=v.ov x y r1 (V0 _ _ (by lia) (by lia)) m1;have hc:aP (x+1,y)∈bA f o p x y:=by
     unfold bA;refine List.mem_append_right _ ?_;rw[if_pos]
     ·simp[aP]
     ·rw[b1 (x+1) y h1 h2 h3 h4,b1 (x+1) (y+1) h1 UQ h3 UQ];simp only[bE];rw[Xx]
    obtain⟨r2,m2,e2⟩:=z _ hc;exact⟨r2,m2,ok.tr _ _ _ e1 e2⟩
 obtain⟨r1,m1,e1⟩:=go _ (q.1+1) (q.2+1) rfl (by lia) (by lia) (by lia) (by lia);obtain⟨z,_⟩:=v.ov q.1 q.2 r1 (V0 _ _ (by lia) (by lia)) m1;have:=z (by
  rw[b2,b1 (q.1+1) (q.2+1) (by lia) (by lia) (by lia) (by lia)]
  congr 1
  unfold uG;rw[dO];have z1:((q.1+1:Nat):Int)-1-(aP q).1=0:=by show((q.1+1:Nat):Int)-1-(q.1:Int)=0;lia
  have z2:((q.2+1:Nat):Int)-1-(aP q).2=0:=by show((q.2+1:Nat):Int)-1-(q.2:Int)=0;lia
  rw[z1,z2,Int.mul_zero,Int.mul_zero];lia)
 exact ok.tr _ _ _ this (ok.sy _ _ e1)
theorem Vd.all{f:Nat→Nat→Option Int}{o p W:Int}{n m:Nat}{s:GS}(T:e8 f o p W)(t:DD f n m)(v:Vd f o p W (Vb n m 0 0) s){ws:List Pr}(w:BW f o p W ws):
  ∀(vs us:List Pr),ws=us++vs→vs≠[]→∀a∈vs,s.1 a (lq vs)
 |[],_,_,h=>absurd rfl h
 |[l],us,e,_=>fun a ha=>by
  have ha:a=l:=by simpa using ha
  subst ha;show s.1 a a;obtain⟨i,j,rfl,hi,hj⟩:=jV t w.1 (a:=a) (by rw[e];simp);have hl:lstP ws=aP (i,j):=by rw[e];exact dO
  obtain⟨b,hb,hle⟩:=xl (o:=o) (p:=p) w.1 hl;obtain⟨as,a1,a2,a3⟩:=mE hb;have:=T _ a1;have hW:=w.2;exact v.en i j ⟨hi,hj,by lia⟩ (by rw[hb];congr 1;lia)
 |q::r::vs,us,e,_=>fun a ha=>by
  have ih:=Vd.all T t v w (r::vs) (us++[q]) (by rw[e];simp) (ZF);have MF:s.1 r r:=ih r ZA;have ok:=v.ok;obtain⟨i,j,hq,hi,hj⟩:=jV t w.1 (a:=q) (by rw[e];simp);obtain⟨x,y,hr,hx,hy⟩:=jV t w.1 (a:=r) (by rw[e];simp);have vk:zG q r:=by
   have:=w.1.up;rw[e]at this;exact(List.pairwise_cons.mp (List.pairwise_append.mp this).2.1).1 r ZA
  rw[hq,hr]at vk;have h1:(i:Int)<x:=vk.1;have h2:(j:Int)<y:=vk.2;rw[e,hq,hr]at w;have key:=v.step T w (q:=(i,j)) (r:=(x,y)) hx hy (by show i<x;lia) (by show j<y;lia) (by rw[←hr];exact MF);rw[←hq,←hr]at key;show s.1 a q;rcases List.mem_cons.mp ha with rfl|ha
  ·exact ok.tr _ _ _ key (ok.sy _ _ key)
  ·exact ok.tr _ _ _ (ih a ha) (ok.sy _ _ key)
theorem Vd.SJ{f:Nat→Nat→Option Int}{o p W:Int}{n m:Nat}{s:GS}(T:e8 f o p W)(t:DD f n m)(v:Vd f o p W (Vb n m 0 0) s)(a b:Pr):s.1 a b↔f' f o p W a b:=by
 refine⟨v.ok.hg a b,fun h=>?_⟩
 induction h with
 |way ps w h1 h2=>
  have k:=Vd.all T t v w ps [] rfl w.1.ne;exact v.ok.tr _ _ _ (k _ h1) (v.ok.sy _ _ (k _ h2))
 |tr _ _ i1 i2=>exact v.ok.tr _ _ _ i1 i2
theorem Told.iff{E E':Pr→Pr→Prop}{gs:List (List Pr)}(t:Told E gs)(h:∀a b,E a b↔E' a b):Told E' gs:=
 ⟨t.qc,t.ne,fun ps hp a ha b=>(t.cls ps hp a ha b).trans (h a b),fun a ha=>t.all a ((h a a).mpr ha),t.apart⟩
def NT(H:Hp)(a:Addr):Prop:=∃o,H a=some o∧∀v,o≠ .tup v
theorem NT.same{H H':Hp}{a:Addr}(h:NT H a)(s:ax H H'):NT H' a:=let ⟨o,h1,h2⟩:=h;⟨o,s _ _ h1,h2⟩
theorem oW.cz{S S':Addr→Prop}{H H':Hp}(u:oW S H S' H')(h:∀a,S a→NT H a):cU H H':=fun t v e=>u.keep t _ (fun z=>by
 obtain⟨o,h1,h2⟩:=h t z;rw[e]at h1;cases h1;exact h2 v rfl) e
theorem oW.out{S S':Addr→Prop}{H H':Hp}(u:oW S H S' H'){a:Addr}{o:HO}(h:¬S a)(e:H a=some o):¬S' a:=fun z=>by
 rcases u.grow a z with z|z
 ·exact h z
 ·rw[e]at z;cases z
theorem jU.nt{H:Hp}{C g:Addr}{S:Addr→Prop}{E:Pr→Pr→Prop}{B:Nat}(G:jU H C g S E B):jU H C g (fun a=>S a∧NT H a) E B:=by
 obtain⟨dg,dl,dm,kl,km,ld,mm,a1,a2,D,a4⟩:=G;refine⟨dg,dl,dm,kl,km,ld,mm,a1,fun z=>a2 z.1,⟨D.hl,D.hm,⟨D.sl,_,D.hl,fun v=>(ZF)⟩,⟨D.sm,_,D.hm,fun v=>(ZF)⟩,D.ne,D.lv,fun p=>?_,D.inj,D.key,D.BV,D.ms,D.ml,D.self⟩,a4⟩;have:=D.mv p;cases e:mm p with
 |none=>rw[e]at this;exact this
 |some ms=>
  rw[e]at this;obtain⟨a,us,h1,h2,h3,h4⟩:=this;exact⟨a,us,h1,h2,h3,h4,_,h2,fun v=>(ZF)⟩
structure JC(K:W.Frag)(C:Addr):Prop where
 cl:wc K C
 tP:b_ K C "trails"
 worth:b_ K C "worth"
 groups:b_ K C "groups"
 marks:b_ K C "marks"
def jW(tr:Addr)(W:Int)(g dk:Addr):List (Str×V):=[("trails", .ref tr),("worth", .int W),("groups", .ref g),("marks", .ref dk)]
theorem mF(a:Addr)(W:Int)(b c:Addr):(jW a W b c).lookup ("trails":Str)=some (V.ref a):=by kernel_rfl
theorem FV(a:Addr)(W:Int)(b c:Addr):(jW a W b c).lookup ("worth":Str)=some (V.int W):=by kernel_rfl
theorem iX(a:Addr)(W:Int)(b c:Addr):(jW a W b c).lookup ("groups":Str)=some (V.ref b):=by kernel_rfl
theorem lQ(a:Addr)(W:Int)(b c:Addr):(jW a W b c).lookup ("marks":Str)=some (V.ref c):=by kernel_rfl
theorem B1(a:Addr)(W:Int)(b c:Addr):(jW a W b c).lookup ("mark":Str)=none:=by kernel_rfl
theorem HU(a:Addr)(W:Int)(b c:Addr):(jW a W b c).lookup ("go_over":Str)=none:=by kernel_rfl
theorem FW(a:Addr)(W:Int)(b c:Addr):(jW a W b c).lookup ("visit":Str)=none:=by kernel_rfl
theorem LR(a:Addr)(W:Int)(b c:Addr):bx "marks" (.ref c) (bx "groups" (.ref b) (bx "worth" (.int W) (bx "trails" (.ref a) [])))=jW a W b c:=by kernel_rfl
structure LS(H:Hp)(C CG x tr:Addr)(W:Int)(S:Addr→Prop)(s:GS)(B M:Nat)(dx g dk:Addr)(km:List (List Key×V))(S1:Addr→Prop):Prop where
 ob:H x=some (.ins C dx (jW tr W g dk))
 gr:jU H CG g S1 s.1 B
 hk:H dk=some (.dT km)
 mv:∀c,LM H (bC km (bf c)) (s.2 c)
 len:km.length≤M
 sS:∀a,S a↔S1 a∨a=dk
 BV:¬S1 dk
 nx:¬S x
 ng:¬S g
 nt:∀a,S a→NT H a
def ir(H:Hp)(C CG x tr:Addr)(W:Int)(S:Addr→Prop)(s:GS)(B M:Nat):Prop:=∃dx g dk km S1,LS H C CG x tr W S s B M dx g dk km S1
theorem ir.nt{H:Hp}{C CG x tr:Addr}{W:Int}{S:Addr→Prop}{s:GS}{B M:Nat}(G:ir H C CG x tr W S s B M):∀a,S a→NT H a:=let ⟨_,_,_,_,_,D⟩:=G;D.nt
theorem ir.same{H H':Hp}{C CG x tr:Addr}{W:Int}{S:Addr→Prop}{s:GS}{B M:Nat}(G:ir H C CG x tr W S s B M)(t:ax H H'):ir H' C CG x tr W S s B M:=by
 obtain⟨dx,g,dk,km,S1,D⟩:=G;exact⟨dx,g,dk,km,S1,t _ _ D.ob,D.gr.same t,t _ _ D.hk,fun c=>(D.mv c).cz (cU.same t),D.len,D.sS,D.BV,D.nx,D.ng,fun a h=>(D.nt a h).same t⟩
theorem ir.out{H:Hp}{C CG x tr:Addr}{W:Int}{S:Addr→Prop}{s:GS}{B M:Nat}(G:ir H C CG x tr W S s B M){a:Addr}(h:H a=none):¬S a:=fun z=>by
 obtain⟨o,e,_⟩:=G.nt a z;rw[h]at e;cases e
theorem ir.cast{H:Hp}{C CG x tr:Addr}{W:Int}{S:Addr→Prop}{s s':GS}{B M B' M':Nat}(G:ir H C CG x tr W S s B M)(h:s=s')(hB:B≤B')(hM:M≤M'):ir H C CG x tr W S s' B' M':=by
 subst h;obtain⟨dx,g,dk,km,S1,D⟩:=G;exact⟨dx,g,dk,km,S1,D.ob,D.gr.iff (fun _ _=>Iff.rfl) hB,D.hk,D.mv,by have:=D.len;lia,D.sS,D.BV,D.nx,D.ng,D.nt⟩
section
variable{H H':Hp}{C CG x tr dx g dk:Addr}{W:Int}{S S1 LU:Addr→Prop}{s:GS}{B M B':Nat}{km:List (List Key×V)}
theorem LS.Qs(D:LS H C CG x tr W S s B M dx g dk km S1){E':Pr→Pr→Prop}(u:oW S1 H LU H')(G:jU H' CG g LU E' B'):∃S' S2,oW S H S' H'∧LS H' C CG x tr W S' (E',s.2) B' M dx g dk km S2:=by
 have s1:∀a,S1 a→S a:=fun a h=>(D.sS a).mpr (.inl h)
 have Xy:∀a,S1 a→NT H a:=fun a h=>D.nt a (s1 a h)
 have T:=u.cz Xy;have EV:=u.keep dk _ D.BV D.hk;obtain⟨dg,dl,dm,kl,HV,ld,mm,og,_⟩:=id D.gr;have gone:∀{a o},¬S a→H a=some o→a≠dk→¬((LU a∧NT H' a)∨a=dk):=fun{a o} h1 h2 h3 z=>by
  rcases z with z|z
  ·exact u.out (fun y=>h1 (s1 _ y)) h2 z.1
  ·exact h3 z
 have AH:S dk:=(D.sS dk).mpr (.inr rfl);refine⟨fun a=>(LU a∧NT H' a)∨a=dk,fun a=>LU a∧NT H' a,⟨fun a h=>?_,fun a o h e=>u.keep a o (fun z=>h (s1 a z)) e⟩,⟨u.keep x _ (fun z=>D.nx (s1 _ z)) D.ob,G.nt,EV,fun c=>(D.mv c).cz T,D.len,fun a=>Iff.rfl,fun z=>u.out D.BV D.hk z.1,gone D.nx D.ob (fun z=>D.nx (by rw[z];exact AH)),gone D.ng og (fun z=>D.ng (by rw[z];exact AH)),fun a h=>?_⟩⟩
 ·rcases h with h|h
  ·exact(u.grow a h.1).imp (s1 a) id
  ·exact .inl (by rw[h];exact AH)
 ·rcases h with h|h
  ·exact h.2
  ·exact⟨_,by rw[h];exact EV,fun v=>(ZF)⟩
theorem LS.put(D:LS H C CG x tr W S s B M dx g dk km S1){c r:Pr}{t:Addr}(ht:H t=some (.tup (jw r))):oW S H S (upd H dk (.dT (putK km (bf c) (.ref t))))∧LS (upd H dk (.dT (putK km (bf c) (.ref t)))) C CG x tr W S (s.1,fun y=>if y=c then some r else s.2 y) B (M+1) dx g dk (putK km (bf c) (.ref t)) S1:=by
 have AH:S dk:=(D.sS dk).mpr (.inr rfl);have nx:x≠dk:=fun z=>D.nx (by rw[z];exact AH)
 have ng:g≠dk:=fun z=>D.ng (by rw[z];exact AH)
 have T:cU H (upd H dk (.dT (putK km (bf c) (.ref t)))):=fun b v hb=>by
  rw[aj (fun z=>by rw[z,D.hk]at hb;cases hb)];exact hb
 refine⟨.put AH,⟨by rw[aj nx];exact D.ob,D.gr.keep (fun a o h e=>by rw[aj (fun z=>D.BV (by rw[←z];exact h))];exact e) T (fun o e=>by rw[aj ng];exact e),ae,fun y=>?_,Nat.le_trans (eZ _ _ _) (by have:=D.len;lia),D.sS,D.BV,D.nx,D.ng,fun a h=>?_⟩⟩
 ·show LM _ _ (if y=c then some r else s.2 y);rw[i5];by_cases e:y=c
  ·rw[Z7 (by rw[e]),Z7 e];exact⟨t,rfl,T _ _ ht⟩
  ·rw[Z5 (fun z=>e (dz z)),Z5 e];exact(D.mv y).cz T
 ·by_cases e:a=dk
  ·exact⟨_,by rw[e];exact ae,fun v=>(ZF)⟩
  ·obtain⟨o,h1,h2⟩:=D.nt a h;exact⟨o,by rw[aj e];exact h1,h2⟩
end
structure Base(H0 H:Hp)(S:Addr→Prop):Prop where
 same:ax H0 H
 free:∀a,S a→H0 a=none
theorem Base.ups{H0 H H':Hp}{S S':Addr→Prop}(b:Base H0 H S)(u:oW S H S' H'):Base H0 H' S':=by
 refine⟨fun a o h=>u.keep a o (fun z=>by rw[b.free a z]at h;cases h) (b.same a o h),fun a h=>?_⟩;rcases u.grow a h with z|z
 ·exact b.free a z
 ·exact b.same.free z
theorem Base.more{H0 H H':Hp}{S:Addr→Prop}(b:Base H0 H S)(s:ax H H'):Base H0 H' S:=⟨b.same.trans s,b.free⟩
inductive qE(C CG:Addr)(vs:List V)(H:Hp)(Q:VK)(u3:XK):Prop
 |mk (x dx tr:Addr) (W:Int) (_:vs=[.ref x, .ref tr, .int W]) (_:H x=some (.ins C dx [])) (_:∀H' S,SameBut x H H'→(∀a,S a→H a=none)→ir H' C CG x tr W S (fun _ _=>False,fun _=>none) 0 0→Q .cR H'):qE C CG vs H Q u3
inductive tQ(C CG:Addr)(vs:List V)(H:Hp)(Q:VK)(u3:XK):Prop
 |mk (x tc tp tr:Addr) (W:Int) (c r:Pr) (S:Addr→Prop) (s:GS) (B M:Nat) (_:vs=[.ref x, .ref tc, .ref tp]) (_:ir H C CG x tr W S s B M) (_:H tc=some (.tup (jw c))) (_:H tp=some (.tup (jw r))) (_:s.1 r r) (_:∀r0,s.2 c=some r0→s.1 r0 r0) (_:B≤10000) (_:M≤10000) (_:∀H' S',oW S H S' H'→ir H' C CG x tr W S' (y_ s c r) B (M+1)→Q .cR H'):tQ C CG vs H Q u3
inductive tR(C CG CT:Addr)(vs:List V)(H:Hp)(Q:VK)(u3:XK):Prop
 |mk (x tc tp tr dt e b:Addr) (es bs:List Addr) (f:Nat→Nat→Option Int) (o p:Int) (n m:Nat) (W:Int) (i j:Nat) (r:Pr) (S:Addr→Prop) (s:GS) (B M:Nat) (H0:Hp) (_:vs=[.ref x, .ref tc, .ref tp]) (_:ir H C CG x tr W S s B M) (_:qA H0 CT tr dt e b es bs f o p n m) (_:Base H0 H S) (_:H tc=some (.tup (jw (aP (i+1,j+1))))) (_:H tp=some (.tup (jw (aP (i,j))))) (_:i<n) (_:j<m) (_:e8 f o p W) (_:iq f o p W s) (_:s.2 (aP (i+1,j+1))=some r) (_:B<10000) (_:M+2≤10000)
  (_:∀H' S',oW S H S' H'→ir H' C CG x tr W S' (LP f o p i j s r) (B+1) (M+2)→Q .cR H'):tR C CG CT vs H Q u3
inductive qF(C CG CT:Addr)(vs:List V)(H:Hp)(Q:VK)(u3:XK):Prop
 |mk (x tr dt e b:Addr) (es bs:List Addr) (f:Nat→Nat→Option Int) (o p:Int) (n m:Nat) (W:Int) (i j:Nat) (S:Addr→Prop) (s:GS) (B M:Nat) (H0:Hp) (_:vs=[.ref x, .int i, .int j]) (_:ir H C CG x tr W S s B M) (_:qA H0 CT tr dt e b es bs f o p n m) (_:Base H0 H S) (_:i<n) (_:j<m) (_:n≤1000) (_:m≤1000) (_:e8 f o p W) (_:iq f o p W s) (_:B+2≤10000) (_:M+3≤10000)
  (_:∀H' S',oW S H S' H'→ir H' C CG x tr W S' (zK f o p W i j s) (B+2) (M+3)→Q .cR H'):qF C CG CT vs H Q u3
inductive AI(CT:Addr)(vs:List V)(H:Hp)(Q:VK)(u3:XK):Prop
 |mk (tr dt e b:Addr) (es bs:List Addr) (f:Nat→Nat→Option Int) (o p:Int) (n m:Nat) (W:Int) (_:vs=[.ref tr, .int W]) (_:qA H CT tr dt e b es bs f o p n m) (_:DD f n m) (_:n*m≤3000) (_:n≤1000) (_:m≤1000) (_:e8 f o p W)
  (_:∀H' r us gs,ax H H'→H r=none→H' r=some (.lst us)→gj H' us gs→(∀(k:Nat) a,us[k]?=some (.ref a)→H a=none)→Told (f' f o p W) gs→Q (.ref r) H'):AI CT vs H Q u3
structure Fd where
 worth:Int
 way:List Pr
 row:List Int
 pairs:List Pr
def za(g:Pr→Option Int)(o p:Int)(ps:List Pr):List Int:=(Ι ps.length).map fun k=>vl g o p (ps.take (k+1))
theorem FX(g:Pr→Option Int)(o p:Int)(ps:List Pr)(q:Pr):za g o p (ps++[q])=za g o p ps++[vl g o p (ps++[q])]:=by
 unfold za;rw[List.length_append,List.length_singleton,List.range_succ,List.map_append]
 congr 1
 ·apply List.map_congr_left;intro k hk;have:k<ps.length:=by simpa using hk
  rw[List.take_append_of_le_length UQ]
 ·simp;rw[List.take_of_length_le ZA]
structure OP(f:Nat→Nat→Option Int)(o p W:Int)(d:Fd):Prop where
 worth:d.worth=W
 way:BW f o p W d.way
 row:d.row=za (lf f) o p d.way
 sub:∀q∈d.way,q∈d.pairs
def gk(f:Nat→Nat→Option Int)(ps:List Pr):Nat→Nat→Option Int:=fun i j=>if aP (i,j)∈ps then none else f i j
def Stop(f:Nat→Nat→Option Int)(o p least:Int):Prop:=∀ps,Wy (lf f) ps→vl (lf f) o p ps<least
structure g7(f:Nat→Nat→Option Int)(o p least W:Int)(gs:List (List Pr))(ds:List Fd):Prop where
 top:e8 f o p W
 ex:∃ps,BW f o p W ps
 least:least≤W
 told:Told (f' f o p W) gs
 DK:ds.map Fd.pairs=gs
 ok:∀d∈ds,OP f o p W d
inductive Reach(f0:Nat→Nat→Option Int)(o p least:Int):List Fd→(Nat→Nat→Option Int)→Prop
 |start:Reach f0 o p least [] f0
 |round {done:List Fd} {f:Nat→Nat→Option Int} {W:Int} {gs:List (List Pr)} {ds:List Fd} (_:Reach f0 o p least done f) (_:g7 f o p least W gs ds):Reach f0 o p least (done++ds) (gk f gs.flatten)
theorem FY{f:Nat→Nat→Option Int}{n m:Nat}(t:DD f n m)(ps:List Pr):DD (gk f ps) n m:=fun i j h=>t i j (by
 unfold gk at h;split at h
 ·cases h
 ·exact h)
theorem Reach.SK{f0 f:Nat→Nat→Option Int}{o p least:Int}{ds:List Fd}{n m:Nat}(t:DD f0 n m)(r:Reach f0 o p least ds f):DD f n m:=by
 induction r with
 |start=>exact t
 |round _ _ ih=>exact FY ih _
theorem sJ(f:Nat→Nat→Option Int)(ps:List Pr)(q:Pr):lf (gk f ps) q=if q∈ps then none else lf f q:=by
 unfold lf gk;by_cases h:0≤q.1∧0≤q.2
 ·rw[Z7 h,Z7 h];have:aP (q.1.toNat,q.2.toNat)=q:=Prod.ext (by simp[aP];lia) (by simp[aP];lia);rw[this]
 ·rw[Z5 h,Z5 h];split<;>rfl
theorem f'.open{f:Nat→Nat→Option Int}{o p W:Int}{a b:Pr}(h:f' f o p W a b):(lf f a).isSome=true:=by
 obtain⟨ps,⟨w,_⟩,hm⟩:=h.on;exact w.ok a hm
theorem Told.mem{E:Pr→Pr→Prop}{gs:List (List Pr)}(t:Told E gs){ps:List Pr}(h:ps∈gs){a:Pr}(ha:a∈ps):E a a:=(t.cls ps h a ha a).mp ha
structure Apart(f0 f:Nat→Nat→Option Int)(ds:List Fd):Prop where
 sub:∀q,(lf f q).isSome=true→lf f q=lf f0 q
 shut:∀d∈ds,∀q∈d.pairs,lf f q=none∧(lf f0 q).isSome=true
 ap:ds.Pairwise fun a b=>∀q∈a.pairs,q∉b.pairs
 qc:∀d∈ds,d.pairs.Pairwise (fun p q=>jy p q=true)∧d.pairs≠[]
 gone:∀q,lf f q=none→(lf f0 q).isSome=true→∃d∈ds,q∈d.pairs
theorem Reach.apart{f0 f:Nat→Nat→Option Int}{o p least:Int}{ds:List Fd}(r:Reach f0 o p least ds f):Apart f0 f ds:=by
 induction r with
 |start=>exact⟨fun _ _=>rfl,fun d h=>(by cases h), .nil,fun d h=>(by cases h),fun q h1 h2=>by rw[h1]at h2;cases h2⟩
 |@round done f W gs ds r R ih=>
  have mem:∀d∈ds,d.pairs∈gs:=fun d h=>by rw[←R.DK];exact List.mem_map.mpr ⟨d,h,rfl⟩
  have op:∀d∈ds,∀q∈d.pairs,(lf f q).isSome=true:=fun d h q hq=>(R.told.mem (mem d h) hq).open
  refine⟨fun q h=>?_,fun d h q hq=>?_,?_,fun d h=>?_,fun q h1 h2=>?_⟩
  ·rw[sJ]at h⊢;split at h
   ·cases h
   ·rename_i hn
    rw[Z5 hn];exact ih.sub q h
  ·rw[sJ];rcases List.mem_append.mp h with h|h
   ·obtain⟨h1,h2⟩:=ih.shut d h q hq;exact⟨by split;rfl;exact h1,h2⟩
   ·rw[Z7 (List.mem_flatten.mpr ⟨_,mem d h,hq⟩)];have:=op d h q hq;exact⟨rfl,by rw[←ih.sub q this];exact this⟩
  ·refine List.pairwise_append.mpr ⟨ih.ap,?_,fun a ha b hb q hq FU=>?_⟩
   ·have:=R.told.apart;rw[←R.DK,List.pairwise_map]at this;exact this
   ·have h1:=(ih.shut a ha q hq).1;have h2:=op b hb q FU;rw[h1]at h2;cases h2
  ·rcases List.mem_append.mp h with h|h
   ·exact ih.qc d h
   ·exact⟨R.told.qc _ (mem d h),R.told.ne _ (mem d h)⟩
  ·rw[sJ]at h1;by_cases hm:q∈gs.flatten
   ·obtain⟨ps,DG,hq⟩:=List.mem_flatten.mp hm;rw[←R.DK]at DG;obtain⟨d,hd,rfl⟩:=List.mem_map.mp DG;exact⟨d,γ hd,hq⟩
   ·rw[Z5 hm]at h1;obtain⟨d,hd,hq⟩:=ih.gone q h1 h2;exact⟨d,List.mem_append_left _ hd,hq⟩
theorem tS(f:Nat→Nat→Option Int)(o p:Int):∀i j v,Bq f o p i j=some v→∃e,dH f o p (cN f o p i j).1 (cN f o p i j).2=some e∧v=e-(o*((i:Int)-1-(cN f o p i j).1)+p*((j:Int)-1-(cN f o p i j).2))
 |0,j,v,h=>by rw[iI]at h;cases h
 |i+1,0,v,h=>by unfold Bq at h;cases h
 |i+1,j+1,v,hB=>by
  unfold cN;by_cases h1:dH f o p i j=Bq f o p (i+1) (j+1)
  ·rw[Z7 h1];refine⟨v,by rw[h1,hB],?_⟩;have e1:((i+1:Nat):Int)-1-((i,j).1:Int)=0:=by show((i+1:Nat):Int)-1-(i:Int)=0;lia
   have e2:((j+1:Nat):Int)-1-((i,j).2:Int)=0:=by show((j+1:Nat):Int)-1-(j:Int)=0;lia
   rw[e1,e2,Int.mul_zero,Int.mul_zero];lia
  ·rw[Z5 h1];by_cases h2:bE (Bq f o p i (j+1)) o=Bq f o p (i+1) (j+1)
   ·rw[Z7 h2];cases e:Bq f o p i (j+1)with
    |none=>rw[e,hB]at h2;cases h2
    |some v2=>
     rw[e,hB]at h2;have h2:v2-o=v:=by simpa[bE]using h2
     obtain⟨x,hx,hv⟩:=tS f o p i (j+1) v2 e;refine⟨x,hx,?_⟩;have e1:((i+1:Nat):Int)-1-((cN f o p i (j+1)).1:Int)=((i:Int)-1-(cN f o p i (j+1)).1)+1:=by lia
     rw[e1,Int.mul_add]
     lia
   ·rw[Z5 h2];have e0:Bq f o p (i+1) (j+1)=oQ [dH f o p i j,bE (Bq f o p i (j+1)) o,bE (Bq f o p (i+1) j) p]:=by rw[Bq];rfl
    have key:∀a b c:Option Int,oQ [a,b,c]≠a→oQ [a,b,c]≠b→c=oQ [a,b,c]:=fun a b c=>by
     cases a<;>cases b<;>cases c<;>simp[oQ]<;>lia
    have h3:bE (Bq f o p (i+1) j) p=Bq f o p (i+1) (j+1):=by
     rw[e0];exact key _ _ _ (fun z=>h1 (by rw[e0];exact z.symm)) (fun z=>h2 (by rw[e0];exact z.symm))
    cases e:Bq f o p (i+1) j with
    |none=>rw[e,hB]at h3;cases h3
    |some v2=>
     rw[e,hB]at h3;have h3:v2-p=v:=by simpa[bE]using h3
     obtain⟨x,hx,hv⟩:=tS f o p (i+1) j v2 e;refine⟨x,hx,?_⟩;have e1:((j+1:Nat):Int)-1-((cN f o p (i+1) j).2:Int)=((j:Int)-1-(cN f o p (i+1) j).2)+1:=by lia
     rw[e1,Int.mul_add]
     lia
termination_by i j=>(i,j)
theorem HW(f:Nat→Nat→Option Int)(o p:Int):∀(k i j:Nat)(v:Int),i≤k→dH f o p i j=some v→Wy (lf f) ((eL f o p i i j).map aP)∧lstP ((eL f o p i i j).map aP)=aP (i,j)∧vl (lf f) o p ((eL f o p i i j).map aP)=v∧(eL f o p i i j).map (fun q=>dH f o p q.1 q.2)=(za (lf f) o p ((eL f o p i i j).map aP)).map some:=by
 intro k
 induction k with
 |zero=>
  intro i j v hi he;have:i=0:=by lia
  subst this;rw[gT (fun h=>by rw[iI]at h;cases h)];have hw:f 0 j=some v:=by
   unfold dH at he;rw[iI]at he;cases e:f 0 j with
   |none=>rw[e]at he;cases he
   |some w=>rw[e]at he;exact he
  have hl:lf f (aP (0,j))=some v:=by rw[←hw];exact qy f 0 j
  refine⟨.one (by rw[hl];rfl),rfl,by simp[vl,hl],?_⟩;simp[za,vl,hl,he]
 |succ k ih=>
  intro i j v hi he;by_cases hg:gQ (Bq f o p i j)=true
  ·obtain⟨a1,a2,a3⟩:=kc hg;obtain⟨l1,l2⟩:=(kI f o p i j a1 a2).resolve_right a3;rw[vQ hg,List.map_append,List.map_append];cases eb:Bq f o p i j with
   |none=>exact Zn eb a3
   |some b=>
    obtain⟨x,hx,hb⟩:=tS f o p i j b eb;obtain⟨w1,w2,w3,w4⟩:=ih _ _ x (by lia) hx;have Zh:0≤b:=by rw[eb]at hg;simpa[gQ]using hg
    have hw:∃w,f i j=some w∧v=w+b:=by
     unfold dH at he;rw[eb]at he;cases e:f i j with
     |none=>rw[e]at he;cases he
     |some w=>
      rw[e]at he;simp only[Hy,show ¬b<0 by lia,if_false,Option.some.injEq]at he;exact⟨w,rfl,by lia⟩
    obtain⟨w,hw,hv⟩:=hw;have hl:lf f (aP (i,j))=some w:=by rw[←hw];exact qy f i j
    have st:zG (lstP ((eL f o p (cN f o p i j).1 (cN f o p i j).1 (cN f o p i j).2).map aP)) (aP (i,j)):=by
     rw[w2];exact⟨by simp[aP];lia,by simp[aP];lia⟩
    have ev:vl (lf f) o p ((eL f o p (cN f o p i j).1 (cN f o p i j).1 (cN f o p i j).2).map aP++[aP (i,j)])=v:=by
     rw[oS _ _ _ w1.ne,w2,w3,hl];simp only[gp,Option.getD_some];have e1:(aP (i,j)).1-(aP ((cN f o p i j).1,(cN f o p i j).2)).1-1=(i:Int)-1-(cN f o p i j).1:=by show(i:Int)-((cN f o p i j).1:Int)-1=_;lia
     have e2:(aP (i,j)).2-(aP ((cN f o p i j).1,(cN f o p i j).2)).2-1=(j:Int)-1-(cN f o p i j).2:=by show(j:Int)-((cN f o p i j).2:Int)-1=_;lia
     rw[e1,e2]
     lia
    refine⟨w1.snoc (by rw[hl];rfl) st,dO,ev,?_⟩;show _++[dH f o p i j]=(za (lf f) o p (_++[aP (i,j)])).map some;rw[FX,List.map_append,w4,he];show _++[some v]=_++[some _];rw[ev]
  ·rw[gT hg];have hw:f i j=some v:=by
    unfold dH at he;cases e:f i j with
    |none=>rw[e]at he;cases he
    |some w=>
     rw[e]at he;cases eb:Bq f o p i j with
     |none=>rw[eb]at he;exact he
     |some b=>
      rw[eb]at he hg;have:b<0:=by
       have:¬0≤b:=fun z=>hg (by simpa[gQ]using z)
       lia
      simp only[Hy,this,if_true]at he;exact he
   have hl:lf f (aP (i,j))=some v:=by rw[←hw];exact qy f i j
   refine⟨.one (by rw[hl];rfl),rfl,by simp[vl,hl],?_⟩;simp[za,vl,hl,he]
def HX(f:Nat→Nat→Option Int)(o p:Int)(n m:Nat):Option Int:=oQ ((Ι n).map fun i=>oQ ((Ι m).map (dH f o p i)))
theorem FZ{f:Nat→Nat→Option Int}{n m:Nat}(t:DD f n m)(o p:Int):f7 (fun v=>∃ps,Wy (lf f) ps∧v=vl (lf f) o p ps) (HX f o p n m):=by
 refine(kG _).UW (fun v hv=>?_) (fun v hv=>?_)
 ·obtain⟨i,_,h2⟩:=List.mem_map.mp hv;have h3:=kG ((Ι m).map (dH f o p i));rw[h2]at h3;obtain⟨j,_,h4⟩:=List.mem_map.mp h3.1;obtain⟨as,a1,_,a3⟩:=mE h4;exact⟨as,a1,a3.symm⟩
 ·obtain⟨ps,w,rfl⟩:=hv;obtain⟨i,j,hl,hi,hj⟩:=jV t w (dw w.ne);obtain⟨b,hb,hle⟩:=xl (o:=o) (p:=p) w hl;have h3:=kG ((Ι m).map (dH f o p i));have oj:some b∈(Ι m).map (dH f o p i):=List.mem_map.mpr ⟨j,by simpa using hj,hb⟩;cases e:oQ ((Ι m).map (dH f o p i))with
  |none=>rw[e]at h3;exact Zn oj (h3 b)
  |some u=>
   rw[e]at h3;refine⟨u,List.mem_map.mpr ⟨i,by simpa using hi,e⟩,?_⟩;have:=h3.2 b oj
   lia
theorem Dg{f:Nat→Nat→Option Int}{o p W:Int}(T:e8 f o p W){n m:Nat}(t:DD f n m){a b:Pr}(h:f' f o p W a b):∃i j:Nat,dH f o p i j=some W∧i<n∧j<m∧f' f o p W a (aP (i,j)):=by
 obtain⟨ps,w,hm⟩:=h.on;obtain⟨i,j,hl,hi,hj⟩:=jV t w.1 (dw w.1.ne);obtain⟨v,hb,hle⟩:=xl (o:=o) (p:=p) w.1 hl;obtain⟨as,a1,_,a3⟩:=mE hb;have:=T _ a1;have hW:=w.2;refine⟨i,j,by rw[hb];congr 1;lia,hi,hj, .way ps w hm ?_⟩;rw[←hl];exact dw w.1.ne
def tT(n m:Nat):List Pr:=(Ι n).flatMap fun i=>(Ι m).map fun j=>aP (i,j)
theorem oY(n m:Nat):(tT n m).length=n*m:=by
 unfold tT
 induction n with
 |zero=>simp
 |succ n ih=>
  rw[List.range_succ,List.flatMap_append,List.length_append,ih,Nat.succ_mul];simp
theorem lR{n m i j:Nat}(hi:i<n)(hj:j<m):aP (i,j)∈tT n m:=List.mem_flatMap.mpr ⟨i,by simpa using hi,List.mem_map.mpr ⟨j,by simpa using hj,rfl⟩⟩
theorem Told.vB{E:Pr→Pr→Prop}{gs:List (List Pr)}{n m:Nat}(t:Told E gs)(h:∀g∈gs,∀a∈g,∃i j:Nat,a=aP (i,j)∧i<n∧j<m):gs.length≤n*m:=by
 have hf:∀g∈gs,lq g∈g:=fun g hg=>by
  cases e:g with
  |nil=>exact Zn e (t.ne g hg)
  |cons a r=>simp[lq]
 have:=len_sub (gs.map lq) (tT n m) (List.pairwise_map.mpr (List.Pairwise.imp_of_mem (fun{a b} ha hb FH e=>FH (lq a) (hf a ha) (by rw[e];exact hf b hb)) t.apart)) fun x hx=>by
  obtain⟨g,hg,rfl⟩:=List.mem_map.mp hx;obtain⟨i,j,e,hi,hj⟩:=h g hg _ (hf g hg);rw[e];exact lR hi hj
 rw[List.length_map,oY]at this;exact this
structure vR(P:Addr→Prop)(H:Hp)(CF a:Addr)(d:Fd)(dy wy rw pr:Addr)(lz iy:List V):Prop where
 ob:H a=some (.ins CF dy (m9 d.worth wy rw pr))
 hw:H wy=some (.lst lz)
 pw:gM H lz d.way
 hr:H rw=some (.lst (d.row.map V.int))
 hp:H pr=some (.lst iy)
 pp:gM H iy d.pairs
 fa:P a
 fw:P wy
 fr:P rw
 fp:P pr
def cb(P:Addr→Prop)(H:Hp)(CF:Addr)(us:List V)(ds:List Fd):Prop:=us.length=ds.length∧∀(k:Nat) d,ds[k]?=some d→∃a dy wy rw pr lz iy,us[k]?=some (V.ref a)∧vR P H CF a d dy wy rw pr lz iy
theorem vR.keep{P P':Addr→Prop}{H H':Hp}{CF a:Addr}{d:Fd}{dy wy rw pr:Addr}{lz iy:List V}(F:vR P H CF a d dy wy rw pr lz iy)(h:∀b o,P b→H b=some o→H' b=some o)(t:cU H H')(hP:∀b,P b→P' b):vR P' H' CF a d dy wy rw pr lz iy:=
 ⟨h _ _ F.fa F.ob,h _ _ F.fw F.hw,F.pw.cz t,h _ _ F.fr F.hr,h _ _ F.fp F.hp,F.pp.cz t,hP _ F.fa,hP _ F.fw,hP _ F.fr,hP _ F.fp⟩
theorem cb.keep{P P':Addr→Prop}{H H':Hp}{CF:Addr}{us:List V}{ds:List Fd}(F:cb P H CF us ds)(h:∀b o,P b→H b=some o→H' b=some o)(t:cU H H')(hP:∀b,P b→P' b):cb P' H' CF us ds:=
 ⟨F.1,fun k d e=>let ⟨a,dy,wy,rw,pr,lz,iy,h1,h2⟩:=F.2 k d e;⟨a,dy,wy,rw,pr,lz,iy,h1,h2.keep h t hP⟩⟩
theorem cb.nil{P:Addr→Prop}{H:Hp}{CF:Addr}:cb P H CF [] []:=⟨rfl,fun k d e=>by simp at e⟩
theorem cb.append{P:Addr→Prop}{H:Hp}{CF:Addr}{us vs:List V}{ds es:List Fd}(F:cb P H CF us ds)(G:cb P H CF vs es):cb P H CF (us++vs) (ds++es):=by
 refine⟨by rw[List.length_append,List.length_append,F.1,G.1],fun k d e=>?_⟩;by_cases hk:k<ds.length
 ·rw[Υ hk]at e;rw[Υ (by rw[F.1];exact hk)];exact F.2 k d e
 ·rw[Ω UQ]at e;rw[Ω (by rw[F.1];lia),F.1];exact G.2 _ d e
inductive tU(CT:Addr)(vs:List V)(H:Hp)(Q:VK)(u3:XK):Prop
 |mk (f g t:Addr) (v:V) (c:Case) (shut:List Pr) (_:vs=[.ref f, .ref g, .ref t,v]) (_:H f=some (.lst (c.xs.map V.str))) (_:H g=some (.lst (c.ys.map V.str))) (_:yK H CT t c) (_:E4 H v shut) (_:shut.length≤1000) (_:c.xs.length≤1000) (_:c.ys.length≤1000) (_:∀H' e as,ax H H'→H' e=some (.lst (as.map V.ref))→H e=none→i9 H' as (i8 c shut) c.xs.length c.ys.length→as.Nodup→e∉as→(∀a∈as,H a=none)→Q (.ref e) H'):tU CT vs H Q u3
inductive oZ(CT CF:Addr)(vs:List V)(H:Hp)(Q:VK)(u3:XK):Prop
 |mk (w t:Addr) (as:List Addr) (c:Case) (f:Nat→Nat→Option Int) (n m:Nat) (_:vs=[.ref w, .ref t]) (_:H w=some (.lst (as.map V.ref))) (_:i9 H as f n m) (_:yK H CT t c) (_:DD f n m) (_:n*m≤3000) (_:n≤1000) (_:m≤1000)
  (_:Stop f c.out c.into c.least→∀H' r,ax H H'→H r=none→H' r=some (.lst [])→Q (.ref r) H')
  (_:∀W gs ds,g7 f c.out c.into c.least W gs ds→gs≠[]→∀H' r us,ax H H'→H r=none→H' r=some (.lst us)→cb (fun b=>H b=none) H' CF us ds→Q (.ref r) H'):oZ CT CF vs H Q u3
inductive tV(CF:Addr)(vs:List V)(H:Hp)(Q:VK)(u3:XK):Prop
 |mk (w md:Addr) (as:List Addr) (us:List V) (ds:List Fd) (f:Nat→Nat→Option Int) (n m:Nat) (_:vs=[.ref w, .ref md]) (_:H w=some (.lst (as.map V.ref))) (_:as.Nodup) (_:w∉as) (_:i9 H as f n m) (_:H md=some (.lst us)) (_:md∉as) (_:cb (fun b=>b∉as) H CF us ds) (_:∀d∈ds,∀q∈d.pairs,∃i j:Nat,q=aP (i,j)∧i<n∧j<m)
  (_:∀H',(∀b o,b∉as→H b=some o→H' b=some o)→cU H H'→i9 H' as (gk f (ds.map Fd.pairs).flatten) n m→Q .cR H'):tV CF vs H Q u3
def Dh(a b:Fd):Bool:=if a.worth=b.worth then jy (lq a.pairs) (lq b.pairs)else decide (b.worth<a.worth)
structure bQ(f0:Nat→Nat→Option Int)(o p least:Int)(es:List Fd):Prop where
 Qt:∃ds f,Reach f0 o p least ds f∧Stop f o p least∧es.Perm ds
 vB:es.length≤20
 qc:es.Pairwise fun a b=>Dh a b=true
inductive xm(CT CF CX:Addr)(vs:List V)(H:Hp)(Q:VK)(E:XK):Prop
 |mk (a b t:Addr) (c:Case) (_:vs=[.ref a, .ref b, .ref t]) (_:H a=some (.lst (c.xs.map V.str))) (_:H b=some (.lst (c.ys.map V.str))) (_:yK H CT t c) (_:c.xs.length≤50) (_:c.ys.length≤50)
  (_:∀es,bQ (i8 c []) c.out c.into c.least es→∀H' r us,ax H H'→H r=none→H' r=some (.lst us)→cb (fun b=>H b=none) H' CF us es→Q (.ref r) H')
  (_:∀ds f,Reach (i8 c []) c.out c.into c.least ds f→20<ds.length→∀H',ax H H'→E (.ref CX) none H'):xm CT CF CX vs H Q E
def F0(c:Case)(i m:Nat):Nat:=((Ι m).filter fun j=>(c.pw (aP (i,j))).isSome).length
def manyN(c:Case):Nat→Nat
 |0=>0
 |n+1=>manyN c n+F0 c n c.ys.length
theorem Di(c:Case)(i m:Nat):F0 c i (m+1)=F0 c i m+if (c.pw (aP (i,m))).isSome=true then 1 else 0:=by
 unfold F0;rw[List.range_succ,List.filter_append,List.length_append]
 congr 1
 by_cases h:(c.pw (aP (i,m))).isSome=true
 ·rw[Z7 h,List.filter_cons,Z7 h];rfl
 ·rw[Z5 h,List.filter_cons,Z5 h];rfl
theorem o6(c:Case):∀n,((tT n c.ys.length).filter fun q=>(c.pw q).isSome).length=manyN c n
 |0=>rfl
 |n+1=>by
  unfold tT;rw[List.range_succ,List.flatMap_append,List.filter_append,List.length_append];have ih:=o6 c n;unfold tT at ih;rw[ih,manyN]
  congr 1
  simp only[List.flatMap_cons,List.flatMap_nil,List.append_nil];rw[List.filter_map,List.length_map];rfl
def bo(c:Case):Nat:=manyN c c.xs.length/21+1
def cL(c:Case):Int:=min c.same (999999/(bo c:Int))
def bF(c:Case):Case:={c with same:=cL c,least:=max c.least (((bo c:Int)-1)*cL c+1)}
theorem AJ(s t:Int)(fs:List Form)(x y:Str):(cK s fs x y).isSome=(cK t fs x y).isSome:=by
 unfold cK;split
 ·rfl
 ·simp
theorem vS(c:Case)(q:Pr):((bF c).pw q).isSome=(c.pw q).isSome:=by
 unfold Case.pw;show((wd c.xs q.1).bind fun x=>(wd c.ys q.2).bind fun y=>cK (bF c).same c.fs x y).isSome=_;cases wd c.xs q.1 with
 |none=>rfl
 |some x=>
  cases wd c.ys q.2 with
  |none=>rfl
  |some y=>exact AJ _ _ _ _ _
theorem Dj{fs:List Form}(g:bb fs=true){x y:Str}{p:Int}(h:cJ fs x y=some p):0≤p:=by
 unfold cJ at h;cases e:fs.find? fun f=>decide (f.1=x∧f.2.1=y)with
 |none=>rw[e]at h;cases h
 |some f=>
  rw[e]at h;have h:f.2.2=p:=by simpa using h
  have hm:=List.mem_of_find?_eq_some e;simp only[bb,Bool.and_eq_true,List.all_eq_true]at g;have:=g.1.2 f hm;simp only[Bv,gi,inR,Bool.and_eq_true,decide_eq_true_eq]at this
  lia
theorem pw_le{c:Case}(g:bb c.fs=true){q:Pr}{w:Int}(h:c.pw q=some w):w≤c.same:=by
 unfold Case.pw at h;cases e1:wd c.xs q.1 with
 |none=>rw[e1]at h;cases h
 |some x=>
  cases e2:wd c.ys q.2 with
  |none=>rw[e1,e2]at h;cases h
  |some y=>
   rw[e1,e2]at h;have h:cK c.same c.fs x y=some w:=h;unfold cK at h;split at h
   ·cases h;exact Int.le_refl _
   ·cases e3:cJ c.fs x y with
    |none=>rw[e3]at h;cases h
    |some p=>
     rw[e3]at h;have h:c.same-p=w:=by simpa using h
     have:=Dj g e3
     lia
theorem xn(c:Case)(n:Nat):manyN c n≤n*c.ys.length:=by
 rw[←o6,←oY];exact List.length_filter_le _ _
theorem B2{m:Nat}{c:Case}(k:d7 m c)(hm:m≤60):d7 m (bF c):=by
 have h1:manyN c c.xs.length≤3600:=by
  have:=xn c c.xs.length;have h2:=Nat.mul_le_mul (Nat.le_trans k.x hm) (Nat.le_trans k.y hm)
  lia
 have he:(1:Int)≤bo c∧(bo c:Int)≤172:=by unfold bo;lia
 have hq:(bo c:Int)*(999999/(bo c:Int))≤999999:=by
  have:=Int.mul_ediv_self_le (x:=999999) (k:=(bo c:Int)) (by lia);exact this
 have OQ:1≤999999/(bo c:Int):=by
  have:(172:Int)≤999999:=ZD;exact(Int.le_ediv_iff_mul_le UQ).mpr UQ
 have hs:=k.same;have hl:=k.least;have s1:1≤cL c∧cL c≤999999∧cL c≤999999/(bo c:Int):=by unfold cL;lia
 refine⟨k.x,k.y,k.good,⟨s1.1,s1.2.1⟩,k.out,k.into,?_⟩;show 1≤max c.least (((bo c:Int)-1)*cL c+1)∧max c.least (((bo c:Int)-1)*cL c+1)≤999999;have h3:((bo c:Int)-1)*cL c+1≤999999:=by
  have h4:(bo c:Int)*cL c≤(bo c:Int)*(999999/(bo c:Int)):=Int.mul_le_mul_of_nonneg_left s1.2.2 UQ;rw[Int.sub_mul]
  lia
 lia
theorem jb{g g':Pr→Option Int}(o p:Int):∀{ps:List Pr},(∀q∈ps,g q=g' q)→vl g o p ps=vl g' o p ps
 |[],_=>rfl
 |[a],h=>by simp only[vl];rw[h a (ZF)]
 |a::b::r,h=>by
  have ih:=jb (g:=g) (g':=g') o p (ps:=b::r) fun q hq=>h q (by simp[hq])
  simp only[vl];rw[ih,h a (ZF)]
theorem Dk{g g':Pr→Option Int}(o p:Int){ps:List Pr}(h:∀q∈ps,g q=g' q):za g o p ps=za g' o p ps:=by
 unfold za;apply List.map_congr_left;intro k _;exact jb o p fun q hq=>h q (List.mem_of_mem_take hq)
theorem Wy.congr{g g':Pr→Option Int}{ps:List Pr}(w:Wy g ps)(h:∀q∈ps,g q=g' q):Wy g' ps:=⟨w.ne,fun q hq=>by rw[←h q hq];exact w.ok q hq,w.up⟩
theorem LV{o p:Int}(ho:0≤o)(hp:0≤p){a b:Pr}(s:zG a b):0≤gp o p a b:=by
 have h1:=s.1;have h2:=s.2;have:=Int.mul_nonneg ho (show 0≤b.1-a.1-1 by lia);have:=Int.mul_nonneg hp (show 0≤b.2-a.2-1 by lia);unfold gp
 lia
theorem F1{g:Pr→Option Int}{o p S:Int}(ho:0≤o)(hp:0≤p):∀{ps:List Pr},ps.Pairwise zG→(∀q∈ps,∃w,g q=some w∧w≤S)→vl g o p ps≤ps.length*S
 |[],_,_=>by simp[vl]
 |[a],_,h=>by
  obtain⟨w,h1,h2⟩:=h a (ZF);simp[vl,h1,h2]
 |a::b::r,hs,h=>by
  have m7:=List.pairwise_cons.mp hs;have ih:=F1 ho hp m7.2 fun q hq=>h q (by simp[hq])
  obtain⟨w,h1,h2⟩:=h a (ZF);have:=LV ho hp (m7.1 b (ZF));simp only[vl,h1,Option.getD_some];have e:((a::b::r).length:Int)*S=((b::r).length:Int)*S+S:=by
   rw[List.length_cons (as:=b::r),Int.natCast_add,Int.add_mul];simp
  rw[e]
  lia
structure OR(f0:Nat→Nat→Option Int)(o p least:Int)(d:Fd):Prop where
 way:Wy (lf f0) d.way
 worth:vl (lf f0) o p d.way=d.worth
 least:least≤d.worth
 row:d.row=za (lf f0) o p d.way
 sub:∀q∈d.way,q∈d.pairs
 qc:d.pairs.Pairwise fun p q=>jy p q=true
 op:∀q∈d.pairs,(lf f0 q).isSome=true
 part:∀a b,d.way=a++b→a≠[]→b≠[]→vl (lf f0) o p a≤d.worth∧vl (lf f0) o p b≤d.worth
theorem Reach.jX{f0 f:Nat→Nat→Option Int}{o p least:Int}{ds:List Fd}(r:Reach f0 o p least ds f):∀d∈ds,OR f0 o p least d:=by
 induction r with
 |start=>exact fun d h=>by cases h
 |@round done f W gs ds r R ih=>
  intro d hd;rcases List.mem_append.mp hd with hd|hd
  ·exact ih d hd
  have ap:=r.apart;have k:=R.ok d hd;have hg:d.pairs∈gs:=by rw[←R.DK];exact List.mem_map.mpr ⟨d,hd,rfl⟩
  have cg:∀q∈d.way,lf f q=lf f0 q:=fun q hq=>ap.sub q (k.way.1.ok q hq)
  refine⟨k.way.1.congr cg,?_,by rw[k.worth];exact R.least,by rw[k.row];exact Dk o p cg,k.sub,R.told.qc _ hg,fun q hq=>?_,fun a b e ha hb=>?_⟩
  ·rw[←jb o p cg,k.way.2,k.worth]
  ·have:=(R.told.mem hg hq).open;rw[←ap.sub q this];exact this
  ·have w:=k.way.1;rw[e]at w;rw[←jb o p (fun q hq=>cg q (by rw[e];exact List.mem_append_left _ hq)),←jb o p (fun q hq=>cg q (by rw[e];exact γ hq)),k.worth];exact⟨R.top _ (w.left ha),R.top _ (w.right hb)⟩
theorem Reach.met{f0 f:Nat→Nat→Option Int}{o p least:Int}{ds:List Fd}(r:Reach f0 o p least ds f){ws:List Pr}(w:Wy (lf f0) ws):(∀q∈ws,(lf f q).isSome=true)∨∃d∈ds,vl (lf f0) o p ws≤d.worth∧∃q∈ws,q∈d.pairs:=by
 induction r with
 |start=>exact .inl w.ok
 |@round done f W gs ds r R ih=>
  rcases ih with h|⟨d,h1,h2⟩
  ·have ap:=r.apart;by_cases hm:∃q∈ws,q∈gs.flatten
   ·obtain⟨q,hq,hg⟩:=hm;obtain⟨g,Vc,Xz⟩:=List.mem_flatten.mp hg;rw[←R.DK]at Vc;obtain⟨d,hd,rfl⟩:=List.mem_map.mp Vc;refine .inr ⟨d,γ hd,?_,q,hq,Xz⟩;have cg:∀q∈ws,lf f0 q=lf f q:=fun q hq=>(ap.sub q (h q hq)).symm
    rw[jb o p cg,(R.ok d hd).worth];exact R.top _ (w.congr cg)
   ·refine .inl fun q hq=>?_
    rw[sJ,Z5 (fun z=>hm ⟨q,hq,z⟩)];exact h q hq
  ·exact .inr ⟨d,List.mem_append_left _ h1,h2⟩
theorem bQ.met{f0:Nat→Nat→Option Int}{o p least:Int}{es:List Fd}(t:bQ f0 o p least es){ws:List Pr}(w:Wy (lf f0) ws)(h:least≤vl (lf f0) o p ws):∃d∈es,vl (lf f0) o p ws≤d.worth∧∃q∈ws,q∈d.pairs:=by
 obtain⟨ds,f,r,st,pm⟩:=t.Qt;rcases r.met w with z|⟨d,h1,h2⟩
 ·exfalso;have cg:∀q∈ws,lf f0 q=lf f q:=fun q hq=>(r.apart.sub q (z q hq)).symm
  have:=st ws (w.congr cg);rw[←jb o p cg]at this
  lia
 ·exact⟨d,pm.mem_iff.mpr h1,h2⟩
theorem bQ.jX{f0:Nat→Nat→Option Int}{o p least:Int}{es:List Fd}(t:bQ f0 o p least es):∀d∈es,OR f0 o p least d:=fun d hd=>by
 obtain⟨ds,f,r,_,pm⟩:=t.Qt;exact r.jX d (pm.mem_iff.mp hd)
theorem bQ.apart{f0:Nat→Nat→Option Int}{o p least:Int}{es:List Fd}(t:bQ f0 o p least es):es.Pairwise fun a b=>∀q∈a.pairs,q∉b.pairs:=by
 obtain⟨ds,f,r,_,pm⟩:=t.Qt;exact(pm.pairwise_iff fun{a b} h q hq FU=>h q FU hq).mpr r.apart.ap
theorem zb{l:List (List Pr)}{k:Nat}(h:∀x∈l,k≤x.length):l.length*k≤l.flatten.length:=by
 induction l with
 |nil=>simp
 |cons a r ih=>
  have h1:=h a (ZF);have h2:=ih fun x hx=>h x (by simp[hx])
  rw[List.flatten_cons,List.length_append,List.length_cons,Nat.succ_mul]
  lia
theorem kJ:∀{ds:List Fd},ds.Pairwise (fun a b=>∀q∈a.pairs,q∉b.pairs)→(∀d∈ds,d.pairs.Nodup)→(ds.map Fd.pairs).flatten.Nodup
 |[],_,_=>ZF
 |d::r,h,h2=>by
  have h':=List.pairwise_cons.mp h;rw[List.map_cons,List.flatten_cons];refine List.nodup_append.mpr ⟨h2 d (ZF),kJ h'.2 fun x hx=>h2 x (by simp[hx]),fun a ha b hb e=>?_⟩;obtain⟨ps,hp,hq⟩:=List.mem_flatten.mp hb;obtain⟨x,hx,rfl⟩:=List.mem_map.mp hp;exact h'.1 x hx a ha (by rw[e];exact hq)
theorem mG{ps:List Pr}(h:ps.Pairwise fun p q=>jy p q=true):ps.Nodup:=h.imp fun{a b} h e=>by
 rw[e]at h;unfold jy at h;simp at h
theorem tW(c:Case)(q:Pr):lf (i8 c []) q=c.pw q:=by
 rw[w9];simp[mO]
theorem F2{m:Nat}{c:Case}(k:d7 m (bF c)){ds:List Fd}{f:Nat→Nat→Option Int}(r:Reach (i8 (bF c) []) (bF c).out (bF c).into (bF c).least ds f):ds.length≤20:=by
 have each:∀d∈ds,bo c≤d.pairs.length:=fun d hd=>by
  have F:=r.jX d hd;have h1:=F1 (g:=lf (i8 (bF c) [])) (S:=(bF c).same) k.out.1 k.into.1 F.way.up fun q hq=>by
   obtain⟨w,hw⟩:=Option.isSome_iff_exists.mp (F.way.ok q hq);refine⟨w,hw,?_⟩;rw[tW]at hw;exact pw_le k.good hw
  rw[F.worth]at h1;have h2:=F.least;have h3:((bo c:Int)-1)*cL c+1≤(bF c).least:=by show _≤max c.least _;lia
  have hs:1≤cL c:=k.same.1;have h4:((bo c:Int)-1)*cL c<(d.way.length:Int)*cL c:=by
   have:(bF c).same=cL c:=rfl;rw[this]at h1
   lia
  have h5:(bo c:Int)-1<(d.way.length:Int):=Int.lt_of_mul_lt_mul_right h4 UQ;have h6:=len_sub d.way d.pairs (F.way.up.imp fun{a b} h e=>by
   rw[e]at h;have:=h.1
   lia) F.sub
  lia
 have h1:=zb (l:=ds.map Fd.pairs) (k:=bo c) fun x hx=>by
  obtain⟨d,hd,rfl⟩:=List.mem_map.mp hx;exact each d hd
 have h2:=kJ r.apart.ap fun d hd=>mG (r.jX d hd).qc
 have h3:=len_sub _ ((tT c.xs.length c.ys.length).filter fun q=>(c.pw q).isSome) h2 fun q hq=>by
  obtain⟨ps,hp,hq⟩:=List.mem_flatten.mp hq;obtain⟨d,hd,rfl⟩:=List.mem_map.mp hp;have:=(r.jX d hd).op q hq;rw[tW,vS]at this;refine List.mem_filter.mpr ⟨?_,this⟩;obtain⟨w,hw⟩:=Option.isSome_iff_exists.mp this;obtain⟨⟨a1,a2⟩,a3,a4⟩:=c.pw_in hw;have:=lR (n:=c.xs.length) (m:=c.ys.length) (i:=q.1.toNat) (j:=q.2.toNat) (by lia) (by lia);have e:aP (q.1.toNat,q.2.toNat)=q:=Prod.ext (by simp[aP];lia) (by simp[aP];lia);rw[e]at this;exact this
 rw[o6]at h3;rw[List.length_map]at h1;have h4:ds.length*bo c≤manyN c c.xs.length:=Nat.le_trans h1 h3;rcases Nat.lt_or_ge 20 ds.length with h|h
 ·exfalso;have h5:21*bo c≤ds.length*bo c:=Nat.mul_le_mul_right _ h;unfold bo at h4 h5
  lia
 ·exact h
inductive xo(vs:List V)(H:Hp)(Q:VK)(u3:XK):Prop
 |mk (a:Addr) (c:Case) (f g m l:Addr) (us:List V) (_:vs=[.ref a]) (_:dX H a c f g m l us) (_:d7 60 c) (_:∀H' b m',ax H H'→H b=none→H' b=some (.lst [.ref f, .ref g, .ref m', .ref l])→dX H' b (bF c) f g m' l us→Q (.ref b) H'):xo vs H Q u3
end QF
namespace QF
open PySem L2 PySem.Spec PyProof.Rows PySem.W PySem.Calls
section
variable{X:Cx}
inductive OS(K:Frag)(neg:Bool)(x:V)(y:V)(H:Hp)(Q:VK):Prop
 |mk (p q:Addr) (r:Pr) (vs:List V) (ps:List Pr) (_:x= .ref p) (_:y= .ref q) (_:H p=some (.tup (jw r))) (_:iD K H q vs) (_:gM H vs ps) (_:Q (.bl (xor neg (decide (r∈ps)))) H):OS K neg x y H Q
open Classical in
theorem F5{pins:List (Addr×Obj)}{s:Shared}{σ:L2.St}{H:Hp}{p q:Addr}{r:Pr}{vs:List V}{ps:List Pr}(hu:X.A.units+1<cLine)(I:Inv X pins σ H s)(hp:H p=some (.tup (jw r)))(hq:iD X.K H q vs)(P:gM H vs ps):
  ∃(its:List Value)(e:Value→Bool),s.heap.IsList q its.toArray∧(∀y∈its.toArray,SeqAt.EqAt X.A.in1 s y (.ref p) (e y))∧its.toArray.any e=decide (r∈ps):=by
 obtain⟨its,r1,pl,hz⟩:=I.tuple (xs:=jw r) (.of hp);obtain⟨eJ,r2,Ho,Mt⟩:=I.list hq;have lc:=P.1;have l2:=r2.length;have key:∀j,j<eJ.length→∃g t,ps[j]?=some g∧eJ[j]?=some (.ref t)∧H t=some (.tup (jw g)):=fun j hj=>by
  have hc:ps[j]?=some ps[j]:=by simp[show j<ps.length by lia]
  obtain⟨t,h1,h2⟩:=P.2 j _ hc;obtain⟨u,eu,ru⟩:=r2.get h1;cases ru;exact⟨_,t,hc,eu,h2⟩
 let e:Value→Bool:=fun y=>decide (∃t,y=Value.ref t∧H t=some (.tup (jw r)))
 have ee:∀{t g},H t=some (.tup (jw g))→e (.ref t)=decide (g=r):=fun{t g} h=>by
  show decide _=_;rw[Bool.eq_iff_iff,decide_eq_true_iff,decide_eq_true_iff];constructor
  ·rintro⟨t',e1,e2⟩;cases e1;rw[h]at e2;have:=HO.tup.inj (Z' e2);simp only[jw,List.cons.injEq,V.int.injEq,and_true]at this;exact Prod.ext this.1 this.2
  ·rintro rfl;exact⟨t,rfl,h⟩
 refine⟨eJ,e,Ho.isList,fun y hy=>?_,?_⟩
 ·obtain⟨j,hj,rfl⟩:=Array.mem_iff_getElem.mp hy;have DF:j<eJ.length:=by simpa using hj
  obtain⟨g,t,h1,h2,h3⟩:=key j DF;have ej:eJ.toArray[j]= .ref t:=by
   have:=(ZO h2).2;simpa using this
  rw[ej,ee h3];by_cases hn:t=p
  ·subst hn;rw[hp]at h3;have:=HO.tup.inj (Z' h3);simp only[jw,List.cons.injEq,V.int.injEq,and_true]at this;have:r=g:=Prod.ext this.1 this.2;rw[decide_eq_true this.symm];exact SeqAt.EqAt.same _
  ·obtain⟨OT,r3,SM,XA⟩:=I.tuple (xs:=jw g) (.of h3);have:=SeqAt.EqAt.of_refs hn (SeqAt.RcAt.tuples (A:=X.A.in1) SM pl (show X.A.in1.units<cLine from hu) (tF r3 r1 rfl rfl));rw[←w6,←kF,r3.length,r1.length];simpa using this
 ·rw[Bool.eq_iff_iff,Array.any_eq_true,decide_eq_true_iff];constructor
  ·rintro⟨j,hj,hh⟩;have DF:j<eJ.length:=by simpa using hj
   obtain⟨g,t,h1,h2,h3⟩:=key j DF;have ej:eJ.toArray[j]= .ref t:=by
    have:=(ZO h2).2;simpa using this
   rw[ej,ee h3,decide_eq_true_iff]at hh;rw[←hh];exact Z0 h1
  ·intro hm;obtain⟨j,hj,hg⟩:=List.mem_iff_getElem.mp hm;have DF:j<eJ.length:=by lia
   obtain⟨g,t,h1,h2,h3⟩:=key j DF;refine⟨j,by simpa using DF,?_⟩;have ej:eJ.toArray[j]'(by simpa using DF)= .ref t:=by
    have:=(ZO h2).2;simpa using this
   rw[ej,ee h3,decide_eq_true_iff];rw[ι hj,hg]at h1;exact(Z' h1).symm
theorem m_(K:Frag)(hu:X.A.units+1<cLine)(hK:X.K=K:=by rfl):rN X (compareOp .NotIn) (OS K true):=by
 subst hK;intro pins s σ H x y v u Q I rx ry h;obtain⟨p,q,r,vs,ps,rfl,rfl,hp,hq,P,k⟩:=h;cases rx;cases ry;obtain⟨its,e,pl,h1,h2⟩:=F5 hu I hp hq P;refine SeqAt.notIn_listAt e pl h1 ⟨.bl (!decide (r∈ps)),H,I,?_,by simpa using k⟩;rw[h2];rfl
end
end QF
namespace QF
open PySem L2
theorem oR.of{c:Case}{ps:List Pr}(h:la c ps=true):oR c [] ps:=⟨h,fun p _=>ZF⟩
theorem HY{c:Case}{ps:List Pr}(h:la c ps=true):Wy (lf (i8 c [])) ps∧dI c ps (ps.length-1)=vl (lf (i8 c [])) c.out c.into ps:=⟨yP.mp (.of h),HA (.of h)⟩
end QF
namespace L2
open PySem PySem.Spec PyProof.Rows PySem.W PySem.Calls
inductive fQ(K:Frag)(x q:Str)(st:Stmt)(f:Addr):Prop
 |mk {oc kV dc pm cd ct:Value} {od an:Option Addr} {sl:Array (Option Value)} (l:K.lookup f=some ⟨oc,od, .func (fnOf x q (fN st) (eM st) (ar st) .none kV dc pm an cd ct),sl⟩) (c:codeIn K cd q=true) (k:keepIn K (.ref f)=true):fQ K x q st f
theorem B4{Φ:Value→Value→Value→Option Addr→Value→Value→List Value→Prop}(h:∀k d p n c t a,Φ k d p n c t [a])(k d p:Value)(n:Option Addr)(c t:Value)(us:List Value)(e:us.length=1):Φ k d p n c t us:=QF.WW (h k d p n c t) us e
theorem xp{Φ:Value→Value→Value→Option Addr→Value→Value→List Value→Prop}(h:∀k d p n c t a b,Φ k d p n c t [a,b])(k d p:Value)(n:Option Addr)(c t:Value)(us:List Value)(e:us.length=2):Φ k d p n c t us:=QF.WX (h k d p n c t) us e
theorem AK{Φ:Value→Value→Value→Option Addr→Value→Value→List Value→Prop}(h:∀k d p n c t x y z,Φ k d p n c t [x,y,z])(k d p:Value)(n:Option Addr)(c t:Value)(us:List Value)(e:us.length=3):Φ k d p n c t us:=QF.WY (h k d p n c t) us e
theorem SN{Φ:Value→Value→Value→Option Addr→Value→Value→List Value→Prop}(h:∀k d p n c t x y z u,Φ k d p n c t [x,y,z,u])(k d p:Value)(n:Option Addr)(c t:Value)(us:List Value)(e:us.length=4):Φ k d p n c t us:=QF.WZ (h k d p n c t) us e
theorem Ve{Φ:Value→Value→Value→Option Addr→Value→Value→List Value→Prop}(h:∀k d p n c t x y z u v,Φ k d p n c t [x,y,z,u,v])(k d p:Value)(n:Option Addr)(c t:Value)(us:List Value)(e:us.length=5):Φ k d p n c t us:=QF.W0 (h k d p n c t) us e
theorem XB{Φ:Value→Value→Value→Option Addr→Value→Value→List Value→Prop}(h:∀k d p n c t x y z u v w,Φ k d p n c t [x,y,z,u,v,w])(k d p:Value)(n:Option Addr)(c t:Value)(us:List Value)(e:us.length=6):Φ k d p n c t us:=QF.W4 (h k d p n c t) us e
section
variable{P:Program}{w:World}{K:Frag}{mg:Str→Option Value}{base h:Heap}{cm:Bool}{k:Nat}{x q:Str}{st:Stmt}{f C:Addr}{ps:List Str}{sp:Sp}
def Qu(x q:Str)(st:Stmt)(ps:List Str):Prop:=∀(kV doc pm:Value)(an:Option Addr)(bU ct:Value)(us:List Value),us.length=ps.length→bindArgs (fnOf x q (fN st) (eM st) (ar st) .none kV doc pm an bU ct) ⟨us,[]⟩=pure (ps.zip us)
theorem fQ.df(d:fQ K x q st f)(X:K.In h)(G:h.Ns mainGlobals mg)(a:nsIn K mainGlobals x=some (some (.ref f)))(ok:∀fd,jt K x q st f fd→a8 P w K mg base (c7 P w) cm k f fd ps sp)(b:Qu x q st ps):bM P w K mg base cm k x ps sp:=by
 obtain⟨l,c,z⟩:=d;have F:=Ew (st:=st) l c z;exact ED F (mg_of X G a) (F.binds b) (ok _ F)
theorem fQ.ok(d:fQ K x q st f){R:FuncData→Prop}(ok:∀fd,iA K x q st f fd→R fd)(b:Qu x q st ps):∃fd,R fd∧Binds K fd ps []:=by
 obtain⟨l,c,z⟩:=d;exact⟨_,ok _ (Br (st:=st) l c z), .all fun us e=>b _ _ _ _ _ _ us e⟩
theorem fQ.mt(d:fQ K x q st f)(cl:wc K C)(a:findIn K (.ref C) x=some (some (.ref f)))(i:isFn K (.ref f)=true)(ok:∀fd,iA K x q st f fd→a8 P w K mg base (c7 P w) cm k f fd ps sp)(b:Qu x q st ps):eK P w K mg base cm k C x ps sp:=by
 obtain⟨fd,h1,h2⟩:=d.ok (R:=fun fd=>a8 P w K mg base (c7 P w) cm k f fd ps sp) ok b;obtain⟨l,c,z⟩:=d;exact CA h1 ⟨a,i,z⟩ h2 cl
theorem fQ.nw{y:Str}(d:fQ K x q st f)(m:mg y=some (.ref C))(g1:makesIn K C=true)(g2:keepIn K (.ref C)=true)(a:findIn K (.ref C) "__init__"=some (some (.ref f)))(i:isFn K (.ref f)=true)(ok:∀fd,iA K x q st f fd→a8 P w K mg base (c7 P w) cm k f fd ps sp)(b:Qu x q st ps):m4 P w K mg base cm k y C ps [] sp:=by
 obtain⟨fd,h1,h2⟩:=d.ok (R:=fun fd=>a8 P w K mg base (c7 P w) cm k f fd ps sp) ok b;exact yG h1 ⟨g1,a,i,g2⟩ m h2 .nil
structure OU(K:Frag)(x:Str)(C:Addr):Prop where
 a:nsIn K mainGlobals x=some (some (.ref C))
 b:excIn K C [.type "ValueError", .type "Exception", .type "BaseException", .type "object"] "ValueError.__new__"=true
 c:findIn K (.ref C) "__class__"=some (some (.builtin "object.__class__"))
 d:mroIn K C (.type "object")=some true
 e:mroIn K C (.type "BaseException")=some true
 f:findIn K (.ref C) "__getattribute__"=some (some (.builtin "BaseException.__getattribute__"))
 g:findIn K (.ref C) "__getattr__"=some none
 h:instIn K (.ref C) (.type "tuple")=some false
 i:keepIn K (.ref C)=true
theorem OU.er{x:Str}{C:Addr}(e:OU K x C)(X:K.In h)(G:h.Ns mainGlobals mg):QF.Er K mg x C:=⟨mg_of X G e.a,e.b,e.c,e.d,e.e,e.f,e.g,e.h,e.i⟩
structure OW(K:Frag)(x:Str)(C:Addr):Prop where
 a:nsIn K mainGlobals x=some (some (.ref C))
 b:makesIn K C=true
 c:keepIn K (.ref C)=true
def zM(K:Frag)(x:Str):Prop:=nsIn K mainGlobals x=some none
structure TZ(K:Frag):Prop where
 a:zM K "len"
 b:zM K "range"
 c:zM K "isinstance"
 d:zM K "int"
 e:zM K "bool"
 f:zM K "str"
 g:zM K "list"
 h:zM K "tuple"
 i:zM K "dict"
 j:zM K "all"
 k:zM K "any"
 l:zM K "min"
 m:zM K "max"
 n:zM K "enumerate"
 o:zM K "ValueError"
theorem nL{x:Str}(z:zM K x)(X:K.In h)(G:h.Ns mainGlobals mg):mg x=none:=mg_none_of X G z
theorem TZ.tb(z:TZ K)(X:K.In h)(G:h.Ns mainGlobals mg):QF.TB mg:=⟨nL z.a X G,nL z.b X G,nL z.c X G,nL z.d X G,nL z.e X G,nL z.f X G,nL z.g X G,nL z.h X G,nL z.i X G,nL z.j X G,nL z.k X G,nL z.l X G,nL z.m X G,nL z.n X G,nL z.o X G⟩
end
end L2
namespace QF
open PySem L2
def DL(H:Hp)(us:List V)(ts:List (Pr×Int)):Prop:=us.length=ts.length∧∀(k:Nat)(x:Pr×Int),ts[k]?=some x→∃t,us[k]?=some (V.ref t)∧H t=some (.tup [.int x.1.1, .int x.1.2, .int x.2])
theorem DL.cz{H H':Hp}{us:List V}{ts:List (Pr×Int)}(S:DL H us ts)(t:cU H H'):DL H' us ts:=⟨S.1,fun k x e=>let ⟨a,h1,h2⟩:=S.2 k x e;⟨a,h1,t _ _ h2⟩⟩
theorem DL.nil{H:Hp}:DL H [] []:=⟨rfl,fun k x e=>by simp at e⟩
theorem DL.snoc{H:Hp}{us:List V}{ts:List (Pr×Int)}(S:DL H us ts){t:Addr}{x:Pr×Int}(h:H t=some (.tup [.int x.1.1, .int x.1.2, .int x.2])):DL H (us++[.ref t]) (ts++[x]):=by
 refine⟨by simp[S.1],fun k y e=>?_⟩;by_cases hk:k<ts.length
 ·rw[Υ hk]at e;rw[Υ (by rw[S.1];exact hk)];exact S.2 k y e
 ·rw[Ω UQ]at e;have xb:k-ts.length=0:=by
   have:=(ZO e).1;simp at this;lia
  rw[xb]at e;cases e;refine⟨t,?_,h⟩;rw[Ω (by rw[S.1];lia),S.1,xb];rfl
def lS(c:Case)(sh:List Pr)(i:Nat):Nat→List (Pr×Int)
 |0=>[]
 |j+1=>lS c sh i j++match mO c sh (aP (i,j))with|some w=>[(aP (i,j),w)]|none=>[]
def ke(c:Case)(sh:List Pr):Nat→List (Pr×Int)
 |0=>[]
 |n+1=>ke c sh n++lS c sh n c.ys.length
theorem qG(c:Case)(sh:List Pr)(i:Nat):∀j,(lS c sh i j).length≤j
 |0=>Nat.le_refl _
 |j+1=>by
  have:=qG c sh i j;simp only[lS,List.length_append];split<;>simp<;>lia
theorem vT(c:Case)(sh:List Pr):∀n,(ke c sh n).length≤n*c.ys.length
 |0=>by simp[ke]
 |n+1=>by
  have:=vT c sh n;have:=qG c sh n c.ys.length;simp only[ke,List.length_append,Nat.succ_mul]
  lia
theorem vU{c:Case}{sh:List Pr}{i:Nat}{x:Pr×Int}:∀{j},x∈lS c sh i j→mO c sh x.1=some x.2
 |0,h=>by cases h
 |j+1,h=>by
  rcases List.mem_append.mp h with h|h
  ·exact vU h
  ·split at h
   ·rename_i w e
    have:x=(aP (i,j),w):=by simpa using h
    rw[this];exact e
   ·cases h
theorem vV{c:Case}{sh:List Pr}{x:Pr×Int}:∀{n},x∈ke c sh n→mO c sh x.1=some x.2
 |0,h=>by cases h
 |n+1,h=>by
  rcases List.mem_append.mp h with h|h
  ·exact vV h
  ·exact vU h
inductive tX(vs:List V)(H:Hp)(Q:VK)(u3:XK):Prop
 |mk (a s:Addr) (c:Case) (f g m l:Addr) (us ws:List V) (sh:List Pr) (_:vs=[.ref a, .ref s]) (_:dX H a c f g m l us) (_:H s=some (.lst ws)) (_:gM H ws sh) (_:c.xs.length≤50) (_:c.ys.length≤50) (_:∀H' r vs,ax H H'→H r=none→H' r=some (.lst vs)→DL H' vs (ke c sh c.xs.length)→Q (.ref r) H'):tX vs H Q u3
inductive tY(CF:Addr)(vs:List V)(H:Hp)(Q:VK)(u3:XK):Prop
 |mk (y:Addr) (P:Addr→Prop) (d:Fd) (dy wy rw pr:Addr) (lz iy:List V) (_:vs=[.ref y]) (_:vR P H CF y d dy wy rw pr lz iy) (_:d.row.length=d.way.length) (_:d.way≠[]) (_:∀H',ax H H'→Q (.bl true) H'):tY CF vs H Q u3
inductive qH(CF:Addr)(vs:List V)(H:Hp)(Q:VK)(u3:XK):Prop
 |mk (a t:Addr) (c:Case) (f g m l:Addr) (us ws:List V) (es:List Fd) (_:vs=[.ref a, .ref t]) (_:dX H a c f g m l us) (_:d7 50 c) (_:H t=some (.lst ws)) (_:cb (fun _=>True) H CF ws es) (_:bQ (i8 c []) c.out c.into c.least es) (_:∀H',ax H H'→Q (.bl true) H'):qH CF vs H Q u3
theorem F6{c:Case}{ps:List Pr}(w:Wy (lf (i8 c [])) ps):la c ps=true:=(yP.mpr w).1
theorem HZ(g:Pr→Option Int)(o p:Int)(ps:List Pr):(za g o p ps).length=ps.length:=by simp[za]
theorem bQ.pair{c:Case}{es:List Fd}(t:bQ (i8 c []) c.out c.into c.least es){q:Pr}{w:Int}(h:mO c [] q=some w)(hl:c.least≤w):∃d∈es,q∈d.pairs:=by
 have hq:lf (i8 c []) q=some w:=by rw[w9];exact h
 obtain⟨d,hd,_,p,hp,Cp⟩:=t.met (ws:=[q]) (.one (by rw[hq];rfl)) (by simp[vl,hq];exact hl);have:p=q:=by simpa using hp
 exact⟨d,hd,this▸Cp⟩
theorem bQ.F8{m:Nat}{c:Case}(ok:d7 m c){es:List Fd}(t:bQ (i8 c []) c.out c.into c.least es){ds:List Fd}(hs:ds.Sublist es):(ds.map Fd.pairs).flatten.length≤m*m:=by
 have h2:=kJ (t.apart.sublist hs) fun d hd=>mG (t.jX d (hs.subset hd)).qc
 have h3:=len_sub _ (tT c.xs.length c.ys.length) h2 fun q hq=>by
  obtain⟨ps,hp,hq⟩:=List.mem_flatten.mp hq;obtain⟨d,hd,rfl⟩:=List.mem_map.mp hp;have:=(t.jX d (hs.subset hd)).op q hq;rw[tW]at this;obtain⟨w,hw⟩:=Option.isSome_iff_exists.mp this;obtain⟨⟨a1,a2⟩,a3,a4⟩:=c.pw_in hw;have:=lR (n:=c.xs.length) (m:=c.ys.length) (i:=q.1.toNat) (j:=q.2.toNat) (by lia) (by lia);have e:aP (q.1.toNat,q.2.toNat)=q:=Prod.ext (by simp[aP];lia) (by simp[aP];lia);rw[e]at this;exact this
 rw[oY]at h3;exact Nat.le_trans h3 (Nat.mul_le_mul ok.x ok.y)
end QF
namespace L2
open PySem PySem.Spec PyProof.Rows PySem.W PySem.Calls
open AutoSeq1 (wpAny_loadPart')
end L2
namespace QF
open PySem L2 PySem.Spec PyProof.Rows PySem.W PySem.Calls
section
variable{X:Cx}
end
def lT(es:List Fd)(k:Nat):List Pr:=((es.take k).map Fd.pairs).flatten
theorem zc{es:List Fd}{k:Nat}{d:Fd}(ek:es[k]?=some d):lT es (k+1)=lT es k++d.pairs:=by
 unfold lT;rw[List.take_succ,ek];simp
theorem H_{es:List Fd}{k:Nat}{q:Pr}(h:q∈lT es k):∃d∈es.take k,q∈d.pairs:=by
 obtain⟨ps,hp,hq⟩:=List.mem_flatten.mp h;obtain⟨d,hd,rfl⟩:=List.mem_map.mp hp;exact⟨d,hd,hq⟩
theorem LW{es:List Fd}{d:Fd}{q:Pr}(hd:d∈es)(hq:q∈d.pairs):q∈lT es es.length:=by
 unfold lT;rw[List.take_length];exact List.mem_flatten.mpr ⟨_,List.mem_map.mpr ⟨d,hd,rfl⟩,hq⟩
theorem bQ.Ia{c:Case}{es:List Fd}(t:bQ (i8 c []) c.out c.into c.least es){k:Nat}{d:Fd}(ek:es[k]?=some d){q:Pr}(hq:q∈d.pairs):q∉lT es k:=fun h=>by
 obtain⟨e,he,h2⟩:=H_ h;obtain⟨hk,rfl⟩:=ZO ek;obtain⟨i,hi,rfl⟩:=List.mem_iff_getElem.mp he;rw[List.length_take]at hi;rw[List.getElem_take]at h2;exact List.pairwise_iff_getElem.mp t.apart i k (by lia) hk UQ q h2 hq
theorem bQ.LX{m:Nat}{c:Case}(ok:d7 m c){es:List Fd}(t:bQ (i8 c []) c.out c.into c.least es)(k:Nat):(lT es k).length≤m*m:=t.F8 ok (List.take_sublist _ _)
theorem Ib{α:Type}{l:List α}{i:Nat}{g:α}(h:l.Nodup)(e:l[i]?=some g):g∉l.take i:=fun m=>by
 obtain⟨hi,rfl⟩:=ZO e;obtain⟨j,hj,e2⟩:=List.mem_iff_getElem.mp m;rw[List.length_take]at hj;rw[List.getElem_take]at e2;exact List.pairwise_iff_getElem.mp h j i UQ hi UQ e2
theorem F9{kvs:List (List Key×V)}{ps:List Pr}(h:m8 kvs ps)(g:Pr)(v:V):m8 (putK kvs (bf g) v) (ps++[g]):=fun p=>by
 rw[i5];by_cases hp:p=g
 ·rw[Z7 (by rw[hp])];simp[hp]
 ·rw[Z5 (fun z=>hp (dz z)),h p];simp[hp]
theorem xq{α:Type}{R:α→α→Prop}(as:∀a b,R a b→¬R b a):∀{l m:List α},l.Pairwise R→m.Pairwise R→(∀x,x∈l↔x∈m)→l=m
 |[],[],_,_,_=>rfl
 |[],b::m,_,_,h=>by have:=(h b).mpr ZA;cases this
 |a::l,[],_,_,h=>by have:=(h a).mp ZA;cases this
 |a::l,b::m,hl,hm,h=>by
  have JD:=List.pairwise_cons.mp hl;have yF:=List.pairwise_cons.mp hm;have e:a=b:=by
   rcases List.mem_cons.mp ((h a).mp ZA)with e|e
   ·exact e
   ·rcases List.mem_cons.mp ((h b).mpr ZA)with e2|e2
    ·exact e2.symm
    ·exact Zn (yF.1 a e) (as _ _ (JD.1 b e2))
  subst e
  congr 1
  refine xq as JD.2 yF.2 fun x=>⟨fun hx=>?_,fun hx=>?_⟩
  ·rcases List.mem_cons.mp ((h x).mp (by simp[hx]))with e|e
   ·subst e;exact Zn (JD.1 x hx) (as _ _ (JD.1 x hx))
   ·exact e
  ·rcases List.mem_cons.mp ((h x).mpr (by simp[hx]))with e|e
   ·subst e;exact Zn (yF.1 x hx) (as _ _ (yF.1 x hx))
   ·exact e
theorem F_(p q:Pr)(h:jy p q=true):¬jy q p=true:=fun z=>by rw[Aw h]at z;cases z
abbrev Ky:=Int×List Pr
def kK(d:Fd):Ky:=(d.worth,d.pairs)
def LY(a b:Ky):Bool:=if a.1=b.1 then jy (lq a.2) (lq b.2)else decide (b.1<a.1)
theorem Ic(a b:Ky)(h:LY a b=true):¬LY b a=true:=fun z=>by
 unfold LY at h z;by_cases e:a.1=b.1
 ·rw[Z7 e]at h;rw[Z7 e.symm]at z;exact F_ _ _ h z
 ·rw[Z5 e]at h;rw[Z5 (Ne.symm e)]at z;simp at h z;lia
theorem Told.same{E:Pr→Pr→Prop}{gs hs:List (List Pr)}(t:Told E gs)(u:Told E hs):∀ps∈gs,ps∈hs:=fun ps h=>by
 obtain⟨a,ha⟩:=List.exists_mem_of_ne_nil ps (t.ne ps h);obtain⟨qs,hq,hb⟩:=u.all a (t.mem h ha);have:ps=qs:=xq F_ (t.qc ps h) (u.qc qs hq) fun x=>(t.cls ps h a ha x).trans (u.cls qs hq a hb x).symm
 rw[this];exact hq
inductive Rn(o p least:Int):(Nat→Nat→Option Int)→List Fd→Prop
 |stop {f:Nat→Nat→Option Int} (_:Stop f o p least):Rn o p least f []
 |round {f:Nat→Nat→Option Int} {W:Int} {gs:List (List Pr)} {ds rs:List Fd} (_:g7 f o p least W gs ds) (_:Rn o p least (gk f gs.flatten) rs):Rn o p least f (ds++rs)
theorem Reach.rn{f0 f:Nat→Nat→Option Int}{o p least:Int}{ds rs:List Fd}(r:Reach f0 o p least ds f)(h:Rn o p least f rs):Rn o p least f0 (ds++rs):=by
 induction r generalizing rs with
 |start=>exact h
 |round _ R ih=>rw[List.append_assoc];exact ih (.round R h)
theorem bQ.rn{f0:Nat→Nat→Option Int}{o p least:Int}{es:List Fd}(t:bQ f0 o p least es):∃ds,Rn o p least f0 ds∧es.Perm ds:=by
 obtain⟨ds,f,r,st,pm⟩:=t.Qt;have:=r.rn (.stop st);rw[List.append_nil]at this;exact⟨ds,this,pm⟩
theorem g7.zd{f:Nat→Nat→Option Int}{o p least W:Int}{gs:List (List Pr)}{ds:List Fd}(R:g7 f o p least W gs ds)(s:Stop f o p least):False:=by
 obtain⟨ps,w,e⟩:=R.ex;have:=s ps w;have:=R.least
 lia
theorem g7.keys{f:Nat→Nat→Option Int}{o p least W:Int}{gs:List (List Pr)}{ds:List Fd}(R:g7 f o p least W gs ds)(k:Ky):k∈ds.map kK↔k.1=W∧k.2∈gs:=by
 constructor
 ·intro h;obtain⟨d,hd,rfl⟩:=List.mem_map.mp h;refine⟨(R.ok d hd).worth,?_⟩;rw[←R.DK];exact List.mem_map.mpr ⟨d,hd,rfl⟩
 ·rintro⟨h1,h2⟩;rw[←R.DK]at h2;obtain⟨d,hd,e⟩:=List.mem_map.mp h2;exact List.mem_map.mpr ⟨d,hd,Prod.ext ((R.ok d hd).worth.trans h1.symm) e⟩
theorem Dm{f:Nat→Nat→Option Int}{ps qs:List Pr}(h:∀x,x∈ps↔x∈qs):gk f ps=gk f qs:=by
 funext i j
 unfold gk;by_cases e:aP (i,j)∈ps
 ·rw[Z7 e,Z7 ((h _).mp e)]
 ·rw[Z5 e,Z5 (fun z=>e ((h _).mpr z))]
theorem Rn.uniq{o p least:Int}{f:Nat→Nat→Option Int}{ds es:List Fd}(a:Rn o p least f ds)(b:Rn o p least f es):∀k,k∈ds.map kK↔k∈es.map kK:=by
 induction a generalizing es with
 |stop s=>
  cases b with
  |stop _=>exact fun k=>Iff.rfl
  |round R _=>exact(R.zd s).elim
 |@round f W gs ds rs R _ ih=>
  cases b with
  |stop s=>exact(R.zd s).elim
  |@round _ W' Vf XC Zi R' b'=>
   have eW:W=W':=by
    obtain⟨ps,w,e⟩:=R.ex;obtain⟨qs,v,e'⟩:=R'.ex;have:=R.top qs v;have:=R'.top ps w
    lia
   subst eW;have hg:∀ps,ps∈gs↔ps∈Vf:=fun ps=>⟨R.told.same R'.told ps,R'.told.same R.told ps⟩
   have es:gk f gs.flatten=gk f Vf.flatten:=Dm fun x=>by
    simp only[List.mem_flatten];exact⟨fun⟨l,h1,h2⟩=>⟨l,(hg l).mp h1,h2⟩,fun⟨l,h1,h2⟩=>⟨l,(hg l).mpr h1,h2⟩⟩
   rw[←es]at b';intro k;rw[List.map_append,List.map_append,List.mem_append,List.mem_append,R.keys,R'.keys,hg,ih b' k]
theorem bQ.keys{f0:Nat→Nat→Option Int}{o p least:Int}{es:List Fd}(t:bQ f0 o p least es){ds:List Fd}(r:Rn o p least f0 ds)(k:Ky):k∈es.map kK↔k∈ds.map kK:=by
 obtain⟨XC,r',pm⟩:=t.rn;rw[(pm.map kK).mem_iff];exact r'.uniq r k
theorem bQ.eq{f0 f1:Nat→Nat→Option Int}{o p least o' p' least':Int}{es yn:List Fd}(t:bQ f0 o p least es)(hs:yn.Pairwise fun a b=>Dh a b=true)(h:∀k,k∈es.map kK↔k∈yn.map kK):es.map kK=yn.map kK:=
 xq Ic (List.pairwise_map.mpr t.qc) (List.pairwise_map.mpr hs) h
def LZ(H:Hp)(ws:List V)(ks:List Ky):Prop:=ws.length=ks.length∧∀(i:Nat)(x:Ky),ks[i]?=some x→∃t l us,ws[i]?=some (V.ref t)∧H t=some (.tup [.int x.1, .ref l])∧H l=some (.lst us)∧gM H us x.2
inductive tZ(CF:Addr)(vs:List V)(H:Hp)(Q:VK)(u3:XK):Prop
 |mk (t d:Addr) (us ws:List V) (es:List Fd) (P:Addr→Prop) (_:vs=[.ref t, .ref d]) (_:H t=some (.lst us)) (_:cb P H CF us es) (_:H d=some (.lst ws)) (_:LZ H ws (es.map kK)) (_:es.length≤1000) (_:Q (.bl true) H):tZ CF vs H Q u3
section
variable{X:Cx}
inductive FC(K:Frag)(x:V)(y:V)(H:Hp)(Q:VK):Prop
 |mk (p q:Addr) (xs ys:List V) (ps:List Pr) (_:x= .ref p) (_:y= .ref q) (_:iD K H p xs) (_:iD K H q ys) (_:gM H xs ps) (_:gM H ys ps) (_:Q (.bl false) H):FC K x y H Q
theorem AL(K:Frag)(hu:X.A.units+1<cLine)(hK:X.K=K:=by rfl):rN X (compareOp .NotEq) (FC K):=by
 subst hK;intro pins s σ H x y v u Q I rx ry h;obtain⟨p,q,xs,ys,ps,rfl,rfl,hp,hq,P1,P2,k⟩:=h;cases rx;cases ry;obtain⟨its,r,pl,hz⟩:=I.list hp;obtain⟨eJ,r2,Ho,Mt⟩:=I.list hq;have l1:=r.length;have l2:=r2.length;have c1:=P1.1;have c2:=P2.1;obtain⟨⟨cls,dd,data,sl⟩,ho,hc,n,hd⟩:=id pl.isList;obtain⟨⟨KY,EN,data2,yc⟩,yd,qm,n2,hd2⟩:=id Ho.isList;simp only at hc hd qm hd2;subst hc hd qm hd2;have hsz:its.toArray.size=eJ.toArray.size:=by rw[List.size_toArray,List.size_toArray];lia
 refine richCompare_meets_room (op:= .NotEq) ⟨_,ho,rfl⟩ ⟨_,yd,rfl⟩ F.slot_list_ne F.entry_list_ne (F.args_list_ne_2 _ _) (SeqAt.list_neAt p q its.toArray eJ.toArray n n2 dd EN sl yc hsz fun _=>true) ⟨ho,yd,fun j h1 h2=>?_,?_⟩ UQ
 ·have Jj:j<ps.length:=by simp at h1;lia
  have ej:ps[j]?=some ps[j]:=by simp[Jj]
  generalize ps[j]=g at ej;obtain⟨a1,e1,g1⟩:=P1.2 j g ej;obtain⟨a2,e2,g2⟩:=P2.2 j g ej;obtain⟨u1,XD,XE⟩:=r.get e1;obtain⟨u2,XF,XG⟩:=r2.get e2;cases XE;cases XG;have k1:its.toArray[j]= .ref a1:=by simpa[List.getElem?_eq_some_iff]using(ZO XD).2
  have k2:eJ.toArray[j]= .ref a2:=by simpa[List.getElem?_eq_some_iff]using(ZO XF).2
  rw[k1,k2];by_cases ha:a1=a2
  ·subst ha;exact SeqAt.EqAt.same _
  ·obtain⟨OT,r3,SM,XA⟩:=I.tuple (xs:=jw g) (.of g1);obtain⟨SO,r4,XH,Zj⟩:=I.tuple (xs:=jw g) (.of g2);have:=SeqAt.EqAt.of_refs ha (SeqAt.RcAt.tuples (A:=X.A.in1) SM XH (show X.A.in1.units<cLine from hu) (tF r3 r4 rfl rfl));have e9:true=decide (g=g):=ZF;have h3:OT.toArray.size=(jw g).length:=by rw[List.size_toArray,←r3.length]
   have h4:SO.toArray.size=(jw g).length:=by rw[List.size_toArray,←r4.length]
   rw[h3,h4]at this;rw[e9,←w6,←kF];exact this
 ·refine⟨(fun x=>nomatch x), .bl false,H,I,?_,k⟩;have e9:((Ι its.toArray.size).all fun _=>true)=true:=ZF;rw[e9];rfl
end
end QF
namespace QF
open PySem L2
def Qv(c:Case):Prop:=∀ds f,Reach (i8 c []) c.out c.into c.least ds f→ds.length≤20
inductive xr(CF:Addr)(vs:List V)(H:Hp)(Q:VK)(u3:XK):Prop
 |mk (a:Addr) (c:Case) (f g m l:Addr) (us:List V) (most:Nat) (_:vs=[.ref a]) (_:dX H a c f g m l us) (_:d7 most c) (_:most≤50) (_:Qv c) (_:∀es,bQ (i8 c []) c.out c.into c.least es→∀H' r vs,ax H H'→H r=none→H' r=some (.lst vs)→cb (fun _=>True) H' CF vs es→Q (.ref r) H'):xr CF vs H Q u3
theorem F'{m:Nat}{c:Case}(k:d7 m (bF c)):Qv (bF c):=fun _ _ r=>F2 k r
def lU(H:Hp)(S:Addr)(ws:List V)(ks:List Ky):Prop:=ws.length=ks.length∧∀(i:Nat)(x:Ky),ks[i]?=some x→∃t l us,ws[i]?=some (V.ref t)∧H t=some (.tup [.int x.1, .ref l])∧H l=some (.lst us)∧gM H us x.2∧l≠S
theorem lU.SQ{H:Hp}{S:Addr}{ws:List V}{ks:List Ky}(D:lU H S ws ks):LZ H ws ks:=⟨D.1,fun i x e=>let ⟨t,l,us,h1,h2,h3,P,_⟩:=D.2 i x e;⟨t,l,us,h1,h2,h3,P⟩⟩
theorem lU.nil{H:Hp}{S:Addr}:lU H S [] []:=⟨rfl,fun i x e=>by simp at e⟩
theorem lU.keep{H H':Hp}{S:Addr}{ws:List V}{ks:List Ky}(D:lU H S ws ks)(h:∀b o,b≠S→H b=some o→H' b=some o)(T:cU H H'):lU H' S ws ks:=
 ⟨D.1,fun i x e=>let ⟨t,l,us,h1,h2,h3,P,n⟩:=D.2 i x e;⟨t,l,us,h1,T _ _ h2,h l _ n h3,P.cz T,n⟩⟩
theorem lU.snoc{H:Hp}{S:Addr}{ws:List V}{ks:List Ky}(D:lU H S ws ks){t l:Addr}{us:List V}{x:Ky}(h1:H t=some (.tup [.int x.1, .ref l]))(h2:H l=some (.lst us))(P:gM H us x.2)(n:l≠S):lU H S (ws++[.ref t]) (ks++[x]):=by
 refine⟨by simp[D.1],fun k y e=>?_⟩;by_cases hk:k<ks.length
 ·rw[Υ hk]at e;rw[Υ (by rw[D.1];exact hk)];exact D.2 k y e
 ·rw[Ω UQ]at e;have xb:k-ks.length=0:=by
   have:=(ZO e).1;simp at this;lia
  rw[xb]at e;cases e;refine⟨t,l,us,?_,h1,h2,P,n⟩;rw[Ω (by rw[D.1];lia),D.1,xb];rfl
end QF
namespace L2
open PySem PySem.Spec PyProof.Rows PySem.W PySem.Calls
open AutoSeq1 (wpAny_loadPart')
end L2
namespace QF
open PySem L2 PySem.Spec PyProof.Rows PySem.W PySem.Calls
section
variable{X:Cx}
end
end QF
namespace QF
open PySem L2
end QF
namespace QF
open PySem L2
theorem Ie{m:Nat}{c c0:Case}(k:d7 m c)(hx:c.xs=c0.xs)(hy:c.ys=c0.ys)(hs:∀q,(c.pw q).isSome=(c0.pw q).isSome)(hl:((bo c0:Int)-1)*c.same+1≤c.least):Qv c:=fun ds f r=>by
 have each:∀d∈ds,bo c0≤d.pairs.length:=fun d hd=>by
  have F:=r.jX d hd;have h1:=F1 (g:=lf (i8 c [])) (S:=c.same) k.out.1 k.into.1 F.way.up fun q hq=>by
   obtain⟨w,hw⟩:=Option.isSome_iff_exists.mp (F.way.ok q hq);refine⟨w,hw,?_⟩;rw[tW]at hw;exact pw_le k.good hw
  rw[F.worth]at h1;have h2:=F.least;have XI:=k.same.1;have h4:((bo c0:Int)-1)*c.same<(d.way.length:Int)*c.same:=by lia
  have h5:(bo c0:Int)-1<(d.way.length:Int):=Int.lt_of_mul_lt_mul_right h4 UQ;have h6:=len_sub d.way d.pairs (F.way.up.imp fun{a b} h e=>by
   rw[e]at h;have:=h.1
   lia) F.sub
  lia
 have h1:=zb (l:=ds.map Fd.pairs) (k:=bo c0) fun x hx=>by
  obtain⟨d,hd,rfl⟩:=List.mem_map.mp hx;exact each d hd
 have h2:=kJ r.apart.ap fun d hd=>mG (r.jX d hd).qc
 have h3:=len_sub _ ((tT c0.xs.length c0.ys.length).filter fun q=>(c0.pw q).isSome) h2 fun q hq=>by
  obtain⟨ps,hp,hq⟩:=List.mem_flatten.mp hq;obtain⟨d,hd,rfl⟩:=List.mem_map.mp hp;have:=(r.jX d hd).op q hq;rw[tW,hs]at this;refine List.mem_filter.mpr ⟨?_,this⟩;obtain⟨w,hw⟩:=Option.isSome_iff_exists.mp this;obtain⟨⟨a1,a2⟩,a3,a4⟩:=c0.pw_in hw;have:=lR (n:=c0.xs.length) (m:=c0.ys.length) (i:=q.1.toNat) (j:=q.2.toNat) (by lia) (by lia);have e:aP (q.1.toNat,q.2.toNat)=q:=Prod.ext (by simp[aP];lia) (by simp[aP];lia);rw[e]at this;exact this
 rw[o6]at h3;rw[List.length_map]at h1;have h4:ds.length*bo c0≤manyN c0 c0.xs.length:=Nat.le_trans h1 h3;rcases Nat.lt_or_ge 20 ds.length with h|h
 ·exfalso;have h5:21*bo c0≤ds.length*bo c0:=Nat.mul_le_mul_right _ h;unfold bo at h4 h5
  lia
 ·exact h
def DM(t:Int)(f:Nat→Nat→Option Int):Nat→Nat→Option Int:=fun i j=>(f i j).map (·*t)
theorem Ga(t:Int)(f:Nat→Nat→Option Int)(q:Pr):lf (DM t f) q=(lf f q).map (·*t):=by
 unfold lf DM;split<;>rfl
theorem B5(t:Int)(f:Nat→Nat→Option Int)(q:Pr):(lf (DM t f) q).isSome=(lf f q).isSome:=by rw[Ga];simp
theorem Gb{t:Int}{f:Nat→Nat→Option Int}{ps:List Pr}:Wy (lf (DM t f)) ps↔Wy (lf f) ps:=
 ⟨fun w=>⟨w.ne,fun q hq=>by rw[←B5 t];exact w.ok q hq,w.up⟩,fun w=>⟨w.ne,fun q hq=>by rw[B5];exact w.ok q hq,w.up⟩⟩
theorem Gd(t:Int)(x:Option Int):(x.map (·*t)).getD 0=x.getD 0*t:=by cases x<;>simp
theorem ze(t:Int)(f:Nat→Nat→Option Int)(o p:Int):∀ps,vl (lf (DM t f)) (o*t) (p*t) ps=vl (lf f) o p ps*t
 |[]=>by simp[vl]
 |[a]=>by simp only[vl];rw[Ga,Gd]
 |a::b::r=>by
  have ih:=ze t f o p (b::r);simp only[vl];rw[ih,Ga,Gd];have e:gp (o*t) (p*t) a b=gp o p a b*t:=by
   unfold gp;rw[Int.add_mul,Int.mul_assoc,Int.mul_comm t,←Int.mul_assoc,Int.mul_assoc p,Int.mul_comm t,←Int.mul_assoc]
  rw[e];simp only[Int.add_mul,Int.sub_mul]
def Gz(t:Int)(d:Fd):Fd:=⟨d.worth*t,d.way,d.row.map (·*t),d.pairs⟩
theorem B6{t:Int}(ht:0<t){f:Nat→Nat→Option Int}{o p W:Int}{ps:List Pr}:BW (DM t f) (o*t) (p*t) (W*t) ps↔BW f o p W ps:=by
 unfold BW;rw[Gb,ze];exact and_congr Iff.rfl ⟨fun e=>Int.eq_of_mul_eq_mul_right UQ e,fun e=>by rw[e]⟩
theorem Ig{t:Int}(ht:0<t){f:Nat→Nat→Option Int}{o p W:Int}:f' (DM t f) (o*t) (p*t) (W*t)=f' f o p W:=by
 funext a b
 refine propext ⟨fun h=>?_,fun h=>?_⟩
 ·induction h with
  |way ps w ha hb=>exact .way ps ((B6 ht).mp w) ha hb
  |tr _ _ i1 i2=>exact .tr i1 i2
 ·induction h with
  |way ps w ha hb=>exact .way ps ((B6 ht).mpr w) ha hb
  |tr _ _ i1 i2=>exact .tr i1 i2
theorem Ih(t:Int)(f:Nat→Nat→Option Int)(ps:List Pr):gk (DM t f) ps=DM t (gk f ps):=by
 funext i j
 show(if aP (i,j)∈ps then none else(f i j).map (·*t))=(if aP (i,j)∈ps then none else f i j).map (·*t);split<;>rfl
theorem Rn.times{t:Int}(ht:0<t){o p least:Int}{f:Nat→Nat→Option Int}{ds:List Fd}(r:Rn o p least f ds):Rn (o*t) (p*t) (least*t) (DM t f) (ds.map (Gz t)):=by
 induction r with
 |stop s=>exact .stop fun ps w=>by rw[ze];exact Int.mul_lt_mul_of_pos_right (s ps (Gb.mp w)) ht
 |@round f W gs ds rs R _ ih=>
  rw[List.map_append];rw[←Ih]at ih;refine .round (W:=W*t) ⟨fun ps w=>?_,?_,Int.mul_le_mul_of_nonneg_right R.least UQ,by rw[Ig ht];exact R.told,by rw[List.map_map];exact R.DK,fun d hd=>?_⟩ ih
  ·rw[ze];exact Int.mul_le_mul_of_nonneg_right (R.top ps (Gb.mp w)) (by lia)
  ·obtain⟨ps,w⟩:=R.ex;exact⟨ps,(B6 ht).mpr w⟩
  ·obtain⟨d0,h0,rfl⟩:=List.mem_map.mp hd;have k:=R.ok d0 h0;refine⟨by show d0.worth*t=_;rw[k.worth],(B6 ht).mpr k.way,?_,k.sub⟩;show d0.row.map (·*t)=_;rw[k.row];unfold za;rw[List.map_map];exact List.map_congr_left fun i _=>(ze t f o p _).symm
theorem L0{t:Int}(ht:0<t){a b:Fd}(h:Dh a b=true):Dh (Gz t a) (Gz t b)=true:=by
 unfold Dh at h⊢;by_cases e:a.worth=b.worth
 ·rw[Z7 e]at h;rw[Z7 (by show a.worth*t=b.worth*t;rw[e])];exact h
 ·rw[Z5 e]at h;have h:b.worth<a.worth:=by simpa using h
  have ne:¬(Gz t a).worth=(Gz t b).worth:=fun z=>e (Int.eq_of_mul_eq_mul_right (a:=t) (by lia) z)
  rw[Z5 ne];exact decide_eq_true (Int.mul_lt_mul_of_pos_right h ht)
theorem bQ.times{t:Int}(ht:0<t){f0:Nat→Nat→Option Int}{o p least:Int}{es yn:List Fd}(a:bQ f0 o p least es)(b:bQ (DM t f0) (o*t) (p*t) (least*t) yn):yn.map kK=(es.map (Gz t)).map kK:=by
 obtain⟨ds,r,pm⟩:=a.rn;refine bQ.eq (f1:=f0) (o':=o) (p':=p) (least':=least) b (List.pairwise_map.mpr (a.qc.imp fun h=>L0 ht h)) fun k=>(b.keys (r.times ht) k).trans ?_
 exact((pm.map (Gz t)).map kK).mem_iff.symm
def mP(t:Int)(fs:List Form):List Form:=fs.map fun f=>(f.1,f.2.1,f.2.2*t)
theorem zf(t:Int)(x y:Str):∀fs,cJ (mP t fs) x y=(cJ fs x y).map (·*t)
 |[]=>rfl
 |f::fs=>by
  have ih:=zf t x y fs;unfold cJ mP at ih⊢;rw[List.map_cons,List.find?_cons,List.find?_cons];by_cases h:f.1=x∧f.2.1=y
  ·simp[h]
  ·simp only[h,decide_false];exact ih
def DO(t:Int)(c:Case):Case:={c with same:=c.same*t,out:=c.out*t,into:=c.into*t,least:=c.least*t,fs:=mP t c.fs}
theorem Ge(t s:Int)(fs:List Form)(x y:Str):cK (s*t) (mP t fs) x y=(cK s fs x y).map (·*t):=by
 unfold cK;split
 ·rfl
 ·rw[zf];cases cJ fs x y<;>simp[Int.sub_mul]
theorem JE(t:Int)(c:Case)(q:Pr):(DO t c).pw q=(c.pw q).map (·*t):=by
 unfold Case.pw;show((wd c.xs q.1).bind fun x=>(wd c.ys q.2).bind fun y=>cK (c.same*t) (mP t c.fs) x y)=_;cases wd c.xs q.1 with
 |none=>rfl
 |some x=>
  cases wd c.ys q.2 with
  |none=>rfl
  |some y=>exact Ge _ _ _ _ _
theorem L1(t:Int)(c:Case):i8 (DO t c) []=DM t (i8 c []):=by
 funext i j
 show mO (DO t c) [] _=(mO c [] _).map (·*t);unfold mO;rw[if_neg ZA,if_neg ZA];exact JE t c _
theorem Ii{t:Int}{fs:List Form}(ht:0≤t)(g:bb fs=true)(hm:∀f∈fs,f.2.2*t≤999999):bb (mP t fs)=true:=by
 simp only[bb,Bool.and_eq_true,List.all_eq_true,decide_eq_true_eq]at g⊢;refine⟨⟨by unfold mP;rw[List.length_map];exact g.1.1,fun f hf=>?_⟩,?_⟩
 ·obtain⟨f0,h0,rfl⟩:=List.mem_map.mp hf;have k:=g.1.2 f0 h0;have:=hm f0 h0;simp only[Bv,gi,inR,Bool.and_eq_true,decide_eq_true_eq]at k⊢;exact⟨k.1,Int.mul_nonneg k.2.1 ht,this⟩
 ·have:(mP t fs).map jk=fs.map jk:=by unfold mP;rw[List.map_map];rfl
  rw[this];exact g.2
theorem dX.XJ{H:Hp}{b:Addr}{c:Case}{x1 x2 m l:Addr}{us:List V}(C:dX H b c x1 x2 m l us):x1≠b∧x2≠b:=by
 have key:∀{x:Addr}{ws:List Str},H x=some (.lst (ws.map V.str))→x≠b:=fun{x ws} h e=>by
  rw[e,C.ca]at h;have:=HO.lst.inj (Z' h);cases ws with
  |nil=>cases this
  |cons w r=>cases this
 exact⟨key C.fi,key C.se⟩
theorem dX.put{H:Hp}{b:Addr}{c c':Case}{x1 x2 m l m' l':Addr}{us DP:List V}(C:dX H b c x1 x2 m l us)(hx:c'.xs=c.xs)(hy:c'.ys=c.ys)(hm:H m'=some (.lst [.int c'.same, .int c'.out, .int c'.into, .int c'.least]))(hl:H l'=some (.lst DP))(tr:cT H DP c'.fs)(n1:m'≠b)(n2:l'≠b):dX (upd H b (.lst [.ref x1, .ref x2, .ref m', .ref l'])) b c' x1 x2 m' l' DP:=by
 obtain⟨a1,a2⟩:=C.XJ;refine⟨ae,by rw[aj a1,hx];exact C.fi,by rw[aj a2,hy];exact C.se,by rw[aj n1];exact hm,by rw[aj n2];exact hl,⟨tr.1,fun i f e=>?_⟩⟩;obtain⟨t,h1,h2⟩:=tr.2 i f e;exact⟨t,h1,by rw[aj (fun e=>by rw[e,C.ca]at h2;cases h2)];exact h2⟩
theorem dX.XM{H:Hp}{b:Addr}{c:Case}{x1 x2 m l:Addr}{us:List V}(C:dX H b c x1 x2 m l us):l≠b:=fun e=>by
 have h:=C.ne;rw[e,C.ca]at h;have:=HO.lst.inj (Z' h);subst this;have t1:=C.tr.1;cases e2:c.fs with
 |nil=>rw[e2]at t1;cases t1
 |cons f r=>
  obtain⟨t,h1,h2⟩:=C.tr.2 0 f (by rw[e2];rfl);cases h1;rw[C.fi]at h2;cases h2
theorem dX.XN{H:Hp}{b:Addr}{c:Case}{x1 x2 m l:Addr}{us:List V}(C:dX H b c x1 x2 m l us):m≠b:=fun e=>by
 have h:=C.nu;rw[e,C.ca]at h;have:=HO.lst.inj (Z' h);cases this
def qI(k:Int)(fs:List Form):List Form:=fs.map fun f=>(f.1,f.2.1,f.2.2%k)
theorem Ij{k:Int}{fs:List Form}(h1:0<k)(h2:k≤999999)(g:bb fs=true):bb (qI k fs)=true∧∀f∈qI k fs,0≤f.2.2∧f.2.2<k:=by
 have bd:∀f∈qI k fs,0≤f.2.2∧f.2.2<k:=fun f hf=>by
  obtain⟨f0,h0,rfl⟩:=List.mem_map.mp hf;exact⟨Int.emod_nonneg _ (by lia),Int.emod_lt_of_pos _ h1⟩
 refine⟨?_,bd⟩;simp only[bb,Bool.and_eq_true,List.all_eq_true,decide_eq_true_eq]at g⊢;refine⟨⟨by unfold qI;rw[List.length_map];exact g.1.1,fun f hf=>?_⟩,?_⟩
 ·have b:=bd f hf;obtain⟨f0,h0,rfl⟩:=List.mem_map.mp hf;have k:=g.1.2 f0 h0;simp only[Bv,gi,inR,Bool.and_eq_true,decide_eq_true_eq]at k⊢;refine⟨k.1,b.1,?_⟩;have:=b.2;show f0.2.2%_≤999999;have:f0.2.2%_<_:=b.2
  lia
 ·have:(qI k fs).map jk=fs.map jk:=by unfold qI;rw[List.map_map];rfl
  rw[this];exact g.2
theorem zg{fs:List Form}(g:bb fs=true):fs.length≤60:=by
 simp only[bb,Bool.and_eq_true,decide_eq_true_eq]at g;exact g.1.1
section
variable{m:Nat}{c:Case}
end
section
variable{φ ψ:Pr→Pr}{o p o' p' W least:Int}{f g:Nat→Nat→Option Int}
end
end QF
namespace L2
open PySem PySem.Spec PyProof.Rows PySem.W PySem.Calls
open AutoSeq1 (wpAny_loadPart')
open PySem.SeqAt PySem.MeetsSeq PySem.MeetsSeq2 PySem.MeetsSeq3 PySem.SeqRoads2
open PySem.SeqAt
section
variable{prog:Program}{w:World}{A:Around}{E:Value→Shared→Prop}{s:Shared}
end
end L2
namespace QF
open PySem L2 PySem.Spec PyProof.Rows PySem.W PySem.Calls
end QF
namespace QF
open PySem L2
section
variable{φ:Pr→Pr}{c:Case}{es:List Fd}{ks:List Ky}
end
section
open PySem.Spec PyProof.Rows PySem.W PySem.Calls
variable{X:Cx}
end
structure OX(c:Case)(zs:List Str):Prop where
 x:∀w∈c.xs,w∈zs
 y:∀w∈c.ys,w∈zs
 f:∀f∈c.fs,f.1∈zs∧f.2.1∈zs
section
variable{zs rs:List Str}{c:Case}(hl:rs.length=zs.length)(nd:rs.Nodup)(W:OX c zs)
include hl nd
include W
end
def Vg(n m:Nat)(q:Pr):Prop:=(0≤q.1∧q.1<n)∧0≤q.2∧q.2<m
section
variable{n m:Nat}{S o p least:Int}(hS:0<S)(ho:40*S≤o)(hp:40*S≤p)(hn:n≤40)(hl:1≤least)
structure Un(n m:Nat)(S:Int)(f:Nat→Nat→Option Int):Prop where
 val:∀q,(lf f q).isSome=true→lf f q=some S∧Vg n m q
 all:∀q q',(lf f q).isSome=true→Vg n m q'→q.1-q.2=q'.1-q'.2→(lf f q').isSome=true
include hS ho hp hn
include hl
end
section
variable{n m:Nat}{S o p least:Int}{w:Str}(hS:0<S)(ho:40*S≤o)(hp:40*S≤p)(hn:n≤40)(hl:1≤least)
include hS ho hp hn hl
end
abbrev sR(a:Addr):Option V:=some (.ref a)
abbrev sI(a:Int):Option V:=some (.int a)
abbrev sS(a:Str):Option V:=some (.str a)
end QF
namespace SR
open PySem L2 QF
def top(i:Nat):Stmt:=PySem.Challenge.pw_quotefind_k26_many_times.main.body.getD i (.Pass ⟨0,0,0,0⟩)
abbrev gm:Stmt:=top 28
abbrev mH:Stmt:=top 29
abbrev kL:Stmt:=top 34
abbrev jc:Stmt:=top 35
abbrev gq:Stmt:=top 36
abbrev g8:Stmt:=top 37
abbrev bB:Stmt:=inClass (top 38) 0
abbrev d8:Stmt:=inClass (top 38) 1
abbrev kM:Stmt:=top 11
abbrev AM:Stmt:=top 12
abbrev fU:Stmt:=top 13
abbrev dP:Stmt:=inClass (top 14) 1
abbrev eO:Stmt:=inClass (top 14) 0
abbrev gU:Stmt:=inClass (top 14) 2
abbrev d_:Stmt:=inClass (top 14) 4
abbrev cV:Stmt:=inClass (top 14) 3
abbrev e_:Stmt:=inClass (top 14) 5
abbrev iB:Stmt:=inClass (top 14) 6
abbrev fV:Stmt:=inClass (top 20) 0
abbrev nM:Stmt:=top 24
abbrev fe:Stmt:=top 21
abbrev gu:Stmt:=inClass (top 7) 0
abbrev iK:Stmt:=inClass (top 7) 1
abbrev fD:Stmt:=inClass (top 7) 2
abbrev ff:Stmt:=inClass (top 7) 3
abbrev g9:Stmt:=inClass (top 7) 4
abbrev fg:Stmt:=inClass (top 8) 0
abbrev fE:Stmt:=inClass (top 8) 1
abbrev dJ:Stmt:=inClass (top 8) 2
abbrev eP:Stmt:=inClass (top 8) 3
abbrev jY:Stmt:=top 9
abbrev mI:Stmt:=top 16
abbrev fK:Stmt:=top 17
abbrev gv:Stmt:=top 22
abbrev kN:Stmt:=top 23
abbrev qJ:Stmt:=top 25
abbrev qK:Stmt:=top 40
abbrev kO:Stmt:=top 41
abbrev lV:Stmt:=top 42
abbrev lW:Stmt:=top 43
abbrev iL:Stmt:=top 44
abbrev gw:Stmt:=top 45
abbrev lX:Stmt:=top 46
abbrev lY:Stmt:=top 47
abbrev lZ:Stmt:=top 48
abbrev kP:Stmt:=top 49
abbrev kQ:Stmt:=top 50
abbrev kR:Stmt:=top 51
abbrev l0:Stmt:=top 52
abbrev gy:Stmt:=top 53
abbrev g_:Stmt:=top 54
abbrev iM:Stmt:=top 55
abbrev hG:Stmt:=top 56
abbrev kT:Stmt:=top 57
abbrev fF:Stmt:=top 58
abbrev lg:Stmt:=top 59
section
variable{P:Program}{w:World}{K:W.Frag}{mg:Str→Option Value}{base:Heap}
variable{ed cX aU aA ay aI az kf:Addr}
variable(T:TB mg)
theorem nN:aL ["sign"] ["sign"] (ar gm):=⟨rfl,rfl,rfl,by decide+kernel,rfl,by decide+kernel,by decide+kernel⟩
include T in
theorem nP{f:Addr}{fd:FuncData}(F:jt K "is_small_letter" "is_small_letter" gm f fd):a8 P w K mg base (c7 P w) true 1 f fd ["sign"] Ae:=by
 refine F.gO nN Η (fun bU A outer s H vs Q E hr h hX=>?_)
 ·obtain⟨i,rfl,_⟩:=h;rfl
 ·obtain⟨c,rfl,q⟩:=h;refine⟨_,(ZX (Θ (@wb _ _ _ _ _ _ _ (@iG _ _ _ _ _ _ _ _ vH dY Γ (aV _)) (@v_ _ _ _ _ _ (@iG _ _ _ _ _ _ _ _ vH Γ dY (aV _)))))),?_⟩;refine⟨_,rfl,_,_,rfl,rfl,_,rfl,?_⟩;have q:Q (.bl (decide (97≤c)&&decide (c≤122))) H:=q;rw[←R0,←R1]at q;refine bg (fun h=>?_) (fun h=>?_)
  ·refine⟨_,rfl,_,_,rfl,rfl,?_⟩;rw[h,Bool.true_and]at q;exact q
  ·rw[Bool.not_eq_true]at h;rw[h,Bool.false_and]at q;exact q
variable(jA:D_ mg "WORD_MOST" (.int 12))
variable(eQ:bM P w K mg base true 1 "is_small_letter" ["sign"] Ae)
theorem AN:aL ["text"] ["text"] (ar mH):=⟨rfl,rfl,rfl,by decide+kernel,rfl,by decide+kernel,by decide+kernel⟩
include T jA eQ in
theorem AO{f:Addr}{fd:FuncData}(F:jt K "is_word" "is_word" mH f fd):a8 P w K mg base (c7 P w) true 2 f fd ["text"] wH:=by
 refine F.gO AN (fun vs H Q E h=>?_) (fun bU A outer s H vs Q E hr h hX=>?_)
 ·obtain⟨i,rfl,_⟩:=h;rfl
 ·obtain⟨z,rfl,hz,q⟩:=h;refine⟨_,(ZV (Z2 (@PW.pt _ _ _ (η (Z9 m3 (ZM oE T.c_ (ZJ Γ)) af (aV _)) (@pw_or1 _ _ _ _ (Z9 rm (ZM oE T.c_ (ZJ Γ)) (ο jA) (aV _))))) aQ) (ZX (Θ (ZY (CC K rfl) T.N8 PyProof.Rows.Boot.«all» (ZJ (@kC _ _ _ _ _ _ _ _ _ _ _ _ _ _ (by exact rfl) (show bh ["text"] (ar mH) _ ["sign"] [] []from⟨rfl,by decide+kernel,by decide+kernel,by decide+kernel,rfl,rfl,by decide+kernel,by decide+kernel,by decide+kernel⟩) (@KO _ _ _ _ (pv 0)) (fun _ _ _ _ _=>(ZI (0) (show(["sign"]:List Str).Nodup by decide+kernel))) (fun _ _ _ _ _=>fz) (fun _ _ _ _ _=>(ZK eQ aR (ZJ Γ))) (by intro _;rfl))))))),?_⟩;have Vh:z.length≤sizeLine:=Nat.le_trans hz (ZD);refine⟨_,rfl,z,rfl,Vh,_,_,rfl,rfl,_,rfl,?_⟩;refine bg (fun h=>?_) (fun h=>?_)
  ·have h:((z.length:Nat):Int)<1:=by simpa using h
   refine jS ?_;have e:sZ z=false:=by
    have:¬1≤z.length:=by lia
    simp[sZ,this]
   have q:=q H (ax.refl H);rw[e]at q;exact q
  have h:¬((z.length:Nat):Int)<1:=by simpa using h
  refine⟨_,rfl,z,rfl,Vh,_,_,rfl,rfl,_,rfl,?_⟩;refine bg (fun h2=>?_) (fun h2=>?_)
  ·have h2:(12:Int)<((z.length:Nat):Int):=by simpa using h2
   have e:sZ z=false:=by
    have:¬z.length≤12:=by lia
    simp[sZ,this]
   have q:=q H (ax.refl H);rw[e]at q;exact q
  have h2:¬(12:Int)<((z.length:Nat):Int):=by simpa using h2
  have hl:z.length≤12:=by lia
  have e:sZ z=z.cps.toList.all low:=by
   have h3:1≤z.length:=by lia
   simp[sZ,h3,hl]
  refine⟨_,rfl,z,rfl,fun D hD=>?_⟩;refine EA (fun i ys σ H'=>(∃v,σ=[v])∧ys=(z.cps.toList.take i).map (fun c=>V.bl (low c))∧H'=upd H D (.lst ys)) ⟨⟨_,rfl⟩,rfl,rfl⟩ ?_ ?_
  ·rintro i c ys σ H' hc ⟨⟨v,rfl⟩,hy,rfl⟩;refine lK ?_;refine⟨_,rfl,c,rfl,ae,?_,⟨_,rfl⟩,?_,?_⟩
   ·rw[hy,List.length_map,List.length_take];exact Nat.lt_of_le_of_lt (Nat.min_le_left _ _) (Nat.lt_of_lt_of_le (Nat.lt_of_lt_of_le (ZO hc).1 (by simpa[Str.length]using hl)) (ZD))
   ·rw[hy,List.take_succ,hc];simp
   ·rw[gf]
  ·rintro ys σ H' ⟨_,hy,rfl⟩;have DQ:ys=(z.cps.toList.map low).map V.bl:=by
    rw[hy,List.take_of_length_le (by simp[Str.length])];simp
   rw[DQ];refine⟨D,z.cps.toList.map low,rfl,iD.of ae,?_⟩;have q:=q _ (ax.upd hD:ax H (upd H D (.lst ((z.cps.toList.map low).map V.bl))));rw[e]at q;have e3:(z.cps.toList.map low).all id=z.cps.toList.all low:=by rw[List.all_map];rfl
   rw[←e3]at q;exact q
theorem uH:aL ["low","number","high"] ["low","number","high"] (ar kL):=⟨rfl,rfl,rfl,by decide+kernel,rfl,by decide+kernel,by decide+kernel⟩
include T in
theorem uI{f:Addr}{fd:FuncData}(F:jt K "is_between" "is_between" kL f fd):a8 P w K mg base (c7 P w) true 1 f fd ["low","number","high"] nE:=by
 refine F.gO uH Η (fun bU A outer s H vs Q E hr h hX=>?_)
 ·obtain⟨l,n,h,rfl,_⟩:=h;rfl
 ·obtain⟨l,n,h,rfl,q⟩:=h;refine⟨_,(ZX (Θ (@wb _ _ _ _ _ _ _ (@iG _ _ _ _ _ _ _ _ Bc Γ (pv 1) (aV _)) (@v_ _ _ _ _ _ (@iG _ _ _ _ _ _ _ _ Bc Β (pv 2) (aV _)))))),?_⟩;refine⟨_,rfl,_,rfl,_,_,rfl,rfl,_,rfl,?_⟩;refine bg (fun h1=>?_) (fun h1=>?_)
  ·refine⟨_,rfl,_,rfl,_,_,rfl,rfl,?_⟩;rw[h1,Bool.true_and]at q;exact q
  ·rw[Bool.not_eq_true]at h1;rw[h1,Bool.false_and]at q;exact q
variable(eh:bM P w K mg base true 1 "is_between" ["low","number","high"] nE)
variable(jd:Er K mg "BadTerms" ed)
theorem rT:aL ["name","number","low","high"] ["name","number","low","high"] (ar jc):=⟨rfl,rfl,rfl,by decide+kernel,rfl,by decide+kernel,by decide+kernel⟩
include T eh jd in
theorem rV{f:Addr}{fd:FuncData}(F:jt K "check_number" "check_number" jc f fd):a8 P w K mg base (c7 P w) true 2 f fd ["name","number","low","high"] (qo ed):=by
 refine F.gO rT Η (fun bU A outer s H vs Q E hr h hX=>?_)
 ·obtain⟨nm,n,l,h,rfl,_⟩:=h;rfl
 ·obtain⟨nm,n,l,h,rfl,hn,hl,hh,q⟩:=h;refine⟨_,(ZX (Ξ (@cO _ _ _ _ (Χ (ZK eh aR (ZN (pv 2) (ξ Β))))) (ZX (@i6 _ _ _ _ _ _ _ _ _ _ hX Ρ (by exact rfl) jd.m jd.e (ZJ (@mw _ _ _ _ _ _ (@fv _ _ _ _ _ (@ql _ _ _ _ (pv 0)) (@fv _ _ _ _ _ dY (@fv _ _ _ _ _ (@ql _ _ _ _ (pv 2)) (@fv _ _ _ _ _ dY (@fv _ _ _ _ _ (@ql _ _ _ _ (pv 3)) wD))))))) (ZD) (Α) (Α))) aQ)),?_⟩;refine⟨_,rfl,_,rfl,_,rfl,l,n,h,rfl,?_⟩;refine⟨_,rfl,?_⟩;refine bg (fun h1=>?_) (fun h1=>?_)
  ·have h1:inR l n h=false:=(Bool.not_eq_true' _).mp h1;rw[h1]at q;have z1:=oN (i:=l) (by lia);have z2:=oN (i:=h) (by lia);have w1:(Str.ofString " lies between ").length=14:=by decide+kernel
   have w2:(Str.ofString " and ").length=5:=by decide+kernel
   have w3:=my;refine⟨_,rfl, .inl ⟨nm,rfl,aF UQ,nm,rfl,aF ?_,_,rfl,aF ?_,_,rfl, .inr ⟨l,rfl,z1.1,_,rfl,aF ?_,_,rfl,aF ?_,_,rfl, .inr ⟨h,rfl,z2.1,_,rfl,aF ?_,aF ?_,ik,?_⟩⟩⟩⟩
   ·rw[len_app];lia
   ·rw[len_app,len_app];lia
   ·rw[len_app,len_app,len_app];lia
   ·rw[len_app,len_app,len_app,len_app];lia
   ·rw[len_app,len_app,len_app,len_app,len_app];lia
   ·rw[len_app,len_app,len_app,len_app,len_app];lia
   ·exact q
  ·have h1:inR l n h=true:=by
    have h1:¬(!(inR l n h))=true:=h1;simpa using h1
   rw[h1]at q;exact q
variable(bR:D_ mg "WORTH_MOST" (.int 999999))
variable(kg:bM P w K mg base true 2 "is_word" ["text"] wH)
variable(cc:Er K mg "BadNear" cX)
theorem nQ:aL ["x","y","price"] ["x","y","price"] (ar gq):=⟨rfl,rfl,rfl,by decide+kernel,rfl,by decide+kernel,by decide+kernel⟩
include T eh bR kg cc in
theorem nS{f:Addr}{fd:FuncData}(F:jt K "check_near_form" "check_near_form" gq f fd):a8 P w K mg base (c7 P w) true 3 f fd ["x","y","price"] (wI cX):=by
 refine F.gO nQ Η (fun bU A outer s H vs Q E hr h hX=>?_)
 ·obtain⟨x,y,p,rfl,_⟩:=h;rfl
 ·obtain⟨x,y,p,rfl,hx,hy,q⟩:=h;have bad:gi x y p=false→∀H',ax H H'→E (.ref cX) none H':=fun e=>by rw[e]at q;exact q
  have good:gi x y p=true→∀H',ax H H'→Q .cR H':=fun e=>by rw[e]at q;exact q
  refine⟨_,(ZV (Ξ (@PW.pt _ _ _ (η (@cO _ _ _ _ (Χ (ZK kg aR (ZJ Γ)))) (@pw_or1 _ _ _ _ (@cO _ _ _ _ (Χ (ZK kg aR (ZJ Β))))))) (ZX (@i6 _ _ _ _ _ _ _ _ _ _ hX Ρ (by exact rfl) cc.m cc.e (ZJ dY) (ZD) (Α) (Α))) aQ) (ZV (Ξ (Z9 jr Γ (pv 1) (aV _)) (ZX (@i6 _ _ _ _ _ _ _ _ _ _ hX Ρ (by exact rfl) cc.m cc.e (ZJ dY) (ZD) (Α) (Α))) aQ) (ZX (Ξ (@cO _ _ _ _ (Χ (ZK eh aR (ZN af (ZN (pv 2) (ZJ (ο bR))))))) (ZX (@i6 _ _ _ _ _ _ _ _ _ _ hX Ρ (by exact rfl) cc.m cc.e (ZJ (@mw _ _ _ _ _ _ (@fv _ _ _ _ _ dY (@fv _ _ _ _ _ (@ql _ _ _ _ (ο bR)) wD)))) (ZD) (Α) (Α))) aQ)))),?_⟩;refine⟨_,rfl,x,rfl,hx,fun H1 s1=>⟨_,rfl,?_⟩⟩;refine bg (fun h1=>?_) (fun h1=>?_)
  ·have h1:(!(sZ x))=true:=h1;exact⟨ik,bad (by simp[gi,(Bool.not_eq_true' _).mp h1]) H1 s1⟩
  have h1:¬(!(sZ x))=true:=h1;have h1:sZ x=true:=by simpa using h1
  refine⟨_,rfl,y,rfl,hy,fun H2 s2=>⟨_,rfl,?_⟩⟩;have s2:=s1.trans s2;refine bg (fun h2=>?_) (fun h2=>?_)
  ·have h2:(!(sZ y))=true:=h2;exact⟨ik,bad (by simp[gi,(Bool.not_eq_true' _).mp h2]) H2 s2⟩
  have h2:¬(!(sZ y))=true:=h2;have h2:sZ y=true:=by simpa using h2
  refine⟨_,rfl,_,rfl,rfl,_,rfl,?_⟩;refine bg (fun h3=>?_) (fun h3=>?_)
  ·have h3:x=y:=by simpa using h3
   exact⟨ik,bad (by simp[gi,h3]) H2 s2⟩
  have h3:¬x=y:=by simpa using h3
  refine⟨_,rfl,0,p,999999,rfl,_,rfl,?_⟩;refine bg (fun h4=>?_) (fun h4=>?_)
  ·have h4:(!(inR 0 p 999999))=true:=h4;have z1:=oN (i:=999999) (by lia);have w1:(Str.ofString "the price of a near form lies between 0 and ").length=44:=by decide+kernel
   have w3:=my;refine⟨_,rfl,aF ?_, .inr ⟨999999,rfl,z1.1,_,rfl,aF ?_,aF ?_,ik,?_⟩⟩
   ·rw[len_app];lia
   ·rw[len_app,len_app];lia
   ·rw[len_app,len_app];lia
   ·exact bad (by simp[gi,(Bool.not_eq_true' _).mp h4]) H2 s2
  ·have h4:¬(!(inR 0 p 999999))=true:=h4;have h4:inR 0 p 999999=true:=by simpa using h4
   exact good (by simp[gi,h1,h2,h3,h4]) H2 s2
variable(iu:D_ mg "NEAR_MOST" (.int 60))
variable(eR:bM P w K mg base true 3 "check_near_form" ["x","y","price"] (wI cX))
theorem fh:aL ["near","prices","x","y","price"] ["near"] (ar g8):=⟨rfl,rfl,rfl,by decide+kernel,rfl,by decide+kernel,by decide+kernel⟩
include T cc iu eR in
theorem t5{f:Addr}{fd:FuncData}(F:jt K "near_prices" "near_prices" g8 f fd):a8 P w K mg base (c7 P w) true 4 f fd ["near"] (qp cX):=by
 refine F.gO fh Η (fun bU A outer s H vs Q E hr h hX=>?_)
 ·obtain⟨a,xs,fs,rfl,_⟩:=h;rfl
 ·obtain⟨a,xs,fs,rfl,ha,ht,NR,q⟩:=h;have bad:bb fs=false→∀H',ax H H'→E (.ref cX) none H':=fun e=>by rw[e]at q;exact q
  have good:bb fs=true→∀H' d,ax H H'→H d=none→H' d=some (.dT (fs.map lL))→Q (.ref d) H':=fun e=>by rw[e]at q;exact q
  have hu:=hr.units;have hu:(A.deeper (PyProof.Rows.envOfC "near_prices" (ar g8) s.heap.objs.size f bU)).units+1<cLine:=by lia
  refine⟨_,(ZV (Ξ (Z9 rm (ZM (aK K) T.c_ (ZJ Γ)) (ο iu) (aV _)) (ZX (@i6 _ _ _ _ _ _ _ _ _ _ hX Ρ (by exact rfl) cc.m cc.e (ZJ (@mw _ _ _ _ _ _ (@fv _ _ _ _ _ dY (@fv _ _ _ _ _ (@ql _ _ _ _ (ο iu)) (@fv _ _ _ _ _ dY wD))))) (ZD) (Α) (Α))) aQ) (ZV (ZH (1) fh.nd j9) (ZV (ZU hX.own (Ψ K Γ) (μ K (3) (by exact rfl) (Τ (ZI (2) fh.nd) (Τ (ZI (3) fh.nd) (Τ (ZI (4) fh.nd) ft)))) (ZV (Ο (ZK eR hX.pass (ZN (pv 2) (ZN (pv 3) (ZJ (pv 4)))))) (ZV (Ξ (ZW (@qk _ _ _ _ _ hu (@d6 _ _ _ _ _ (ξ (pv 2))) (pv 1))) (ZX (@i6 _ _ _ _ _ _ _ _ _ _ hX Ρ (by exact rfl) cc.m cc.e (ZJ dY) (ZD) (Α) (Α))) aQ) (ZX (@ky _ _ _ _ _ _ _ _ _ hu Β (@d6 _ _ _ _ _ (ξ (pv 2))) (pv 4) (by exact rfl)))))) (ZX (Θ Β))))),?_⟩;refine⟨_,rfl,a,_,rfl, .inl (.of ha),_,_,rfl,rfl,_,rfl,?_⟩;refine bg (fun h1=>?_) (fun h1=>?_)
  ·have h1:(60:Int)<(xs.length:Int):=by simpa using h1
   rw[ht.1]at h1;have z1:=oN (i:=60) (by lia);have w1:(Str.ofString "there are at most ").length=18:=by decide+kernel
   have w2:(Str.ofString " near forms").length=11:=by decide+kernel
   have w3:=my;refine⟨_,rfl,aF ?_, .inr ⟨60,rfl,z1.1,_,rfl,aF ?_,_,rfl,aF ?_,aF ?_,ik,?_⟩⟩
   ·rw[len_app];lia
   ·rw[len_app,len_app];lia
   ·rw[len_app,len_app,len_app];lia
   ·rw[len_app,len_app,len_app];lia
   ·exact bad (by have:¬fs.length≤60:=(by lia);simp[bb,this]) H (.refl H)
  have h1:¬(60:Int)<(xs.length:Int):=by simpa using h1
  rw[ht.1]at h1;refine fun d hd=>?_
  have Zk:H a≠none:=by rw[ha];intro z;cases z
  have eX:a≠d:=aE ha hd;refine⟨_,rfl,a,rfl,⟨xs, .of (by rw[aj eX];exact ha)⟩,?_⟩;refine bW (xs:=xs) (fun i σ H'=>(∃u v w,σ=[sR a,sR d,u,v,w])∧H' d=some (.dT ((fs.take i).map lL))∧ax H H'∧((fs.take i).all Bv=true)∧((fs.take i).map jk).Nodup) ?_ ?_ ?_ ?_
  ·exact⟨⟨_,_,_,rfl⟩,ae,ax.upd hd,rfl, .nil⟩
  ·rintro i σ H' hi ⟨_,_,s1,_⟩;exact .of (s1 _ _ ha)
  ·rintro i x σ H' hx ⟨⟨u,v,w,rfl⟩,hD,s1,bY,GA⟩;have hi:i<fs.length:=by rw[←ht.1];exact(ZO hx).1
   have hf:fs[i]?=some fs[i]:=by simp[hi]
   generalize fs[i]=f0 at hf;obtain⟨t,yh,uA⟩:=ht.2 i f0 hf;rw[hx]at yh;cases yh;obtain⟨x,y,p⟩:=f0;have hm:(x,y,p)∈fs:=Z0 hf;obtain⟨lu,GB⟩:=NR.2 _ hm;refine⟨t,_,rfl, .of (s1 _ _ uA),rfl,_,_,rfl,_,_,rfl,_,_,rfl,rfl,?_⟩;refine⟨_,rfl,_,rfl,_,rfl,x,y,p,rfl,lu,GB,?_⟩;refine bg (fun h2=>?_) (fun h2=>?_)
   rotate_left
   ·have h2:Bv (x,y,p)=false:=by simpa[Bv]using h2
    exact fun H2 s2=>bad (EI hf h2) H2 (s1.trans s2)
   have h2:Bv (x,y,p)=true:=h2;intro H2 s2;have Qw:=s1.trans s2;have lA:=s2 _ _ hD;refine⟨_,rfl,_,rfl,aF ZA,fun p1 Mz=>?_⟩;have n1:d≠p1:=aE lA Mz;refine⟨_,rfl,d,_,rfl, .t (k:=jk (x,y,p)) (by rw[aj n1];exact lA) ae,_,rfl,?_⟩;refine bg (fun h3=>?_) (fun h3=>?_)
   ·obtain⟨v3,h3⟩:=Option.isSome_iff_exists.mp h3;exact⟨ik,bad (CD hf (KU h3)) _ (Qw.dU (Qw.free Mz))⟩
   have h3:bC ((fs.take i).map lL) (jk (x,y,p))=none:=by simpa using h3
   have s3:ax H (upd H2 p1 (.tup [.str x, .str y])):=Qw.dU (Qw.free Mz);refine⟨_,rfl,_,rfl,_,rfl,_,rfl,aF ZA,fun p2 Cp=>?_⟩;have Dn:upd H2 p1 (.tup [.str x, .str y]) d=some (.dT ((fs.take i).map lL)):=by rw[aj n1];exact lA
   have n2:d≠p2:=aE Dn Cp;have hlen:((fs.take i).map lL).length<sizeLine:=aZ (by rw[List.length_map,List.length_take];lia);refine⟨d,_,rfl, .t (k:=jk (x,y,p)) (by rw[aj n2];exact Dn) ae hlen,?_⟩;refine⟨⟨_,_,_,rfl⟩,?_,?_,?_,?_⟩
   ·rw[ae,sQ _ h3,CH hf];rfl
   ·exact(s3.dU (s3.free Cp)).dU hd
   ·rw[List.take_succ,hf,List.all_append,bY];simp[h2]
   ·rw[List.take_succ,hf,List.map_append];have:=N9 h3;refine List.nodup_append.mpr ⟨GA,ZF,?_⟩;intro a1 Au b1 jZ e;have jZ:b1=jk (x,y,p):=by simpa using jZ
    rw[e,jZ]at Au;exact this Au
  ·rintro σ H' ⟨⟨u,v,w,rfl⟩,hD,s1,bY,GA⟩;rw[ht.1,List.take_length]at hD bY GA;refine⟨_,rfl,good ?_ H' d s1 hd hD⟩;have:fs.length≤60:=by lia
   simp[bb,this,bY,GA]
variable(jB:D_ mg "PART_MOST" (.int 100))
variable(cC:bM P w K mg base true 2 "check_number" ["name","number","low","high"] (qo ed))
variable(hJ:bM P w K mg base true 4 "near_prices" ["near"] (qp cX))
variable(Tc:EJ K aU)
theorem o7:aL ["self","same","out","into","least","part","near"] ["self","same","out","into","least","part","near"] (ar bB):=⟨rfl,rfl,rfl,by decide+kernel,rfl,by decide+kernel,by decide+kernel⟩
include T bR jB cC hJ Tc in
theorem o8{f:Addr}{fd:FuncData}(F:iA K "__init__" "Terms.__init__" bB f fd):a8 P w K mg base (c7 P w) true 5 f fd ["self","same","out","into","least","part","near"] (su aU ed cX):=by
 refine F.gO o7 Η (fun bU A outer s H vs Q E hr h hX=>?_)
 ·obtain⟨x,dx,n,nv,xs,fs,rfl,_⟩:=h;rfl
 ·obtain⟨x,dx,n,nv,xs,fs,rfl,hx,EX,XO,NR,q⟩:=h;have bad:i7 n=false→E (.ref ed) none H:=fun e=>by rw[e]at q;exact q H .refl
  refine⟨_,(ZV (Ο (ZK cC hX.pass (ZN dY (ZN Β (ZN af (ZJ (ο bR))))))) (ZV (Ο (ZK cC hX.pass (ZN dY (ZN (pv 2) (ZN af (ZJ (ο bR))))))) (ZV (Ο (ZK cC hX.pass (ZN dY (ZN (pv 3) (ZN af (ZJ (ο bR))))))) (ZV (Ο (ZK cC hX.pass (ZN dY (ZN (pv 4) (ZN af (ZJ (ο bR))))))) (ZV (Ο (ZK cC hX.pass (ZN dY (ZN (pv 5) (ZN af (ZJ (ο jB))))))) (ZV (Z_ K Γ (pv 1)) (ZV (Z_ K Γ (pv 2)) (ZV (Z_ K Γ (pv 3)) (ZV (Z_ K Γ (pv 4)) (ZV (Z_ K Γ (pv 5)) (Z1 (Z_ K Γ (@oz _ _ _ _ _ _ _ _ (ZW (@lG _ _ _ _ _ (pv 6))) (@bN _ _ _ _ ai) (ς (fJ K) (by exact rfl) T.jT PyProof.Rows.Boot.«list» (ZJ (pv 6))))) (ZX (Z_ K Γ (ZK hJ hX.pass (ZJ (ZP K)))))))))))))))),?_⟩;refine⟨_,rfl,"same",n.same,1,999999,rfl,by decide+kernel,by lia,by lia,?_⟩;refine bg (fun h1=>?_) (fun h1=>bad (by simp[i7,h1]));refine⟨_,rfl,"out",n.out,0,999999,rfl,by decide+kernel,by lia,by lia,?_⟩;refine bg (fun h2=>?_) (fun h2=>bad (by simp[i7,h2]));refine⟨_,rfl,"into",n.into,0,999999,rfl,by decide+kernel,by lia,by lia,?_⟩;refine bg (fun h3=>?_) (fun h3=>bad (by simp[i7,h3]));refine⟨_,rfl,"least",n.least,1,999999,rfl,by decide+kernel,by lia,by lia,?_⟩;refine bg (fun h4=>?_) (fun h4=>bad (by simp[i7,h4]));refine⟨_,rfl,"part",n.part,1,100,rfl,by decide+kernel,by lia,by lia,?_⟩;refine bg (fun h5=>?_) (fun h5=>bad (by simp[i7,h5]));have bY:i7 n=true:=by simp[i7,h1,h2,h3,h4,h5]
  rw[bY]at q;have hl:∀k:Nat,k<10→k<1000:=fun k h=>by lia
  refine⟨_,rfl,_,rfl,x,aU,dx,_,rfl,hx,Tc.cl,Tc.same,ZD,?_⟩;refine⟨_,rfl,_,rfl,x,aU,dx,_,rfl,ae,Tc.cl,Tc.out,?_,?_⟩
  ·exact hl _ (by have:=aW "same" (.int n.same) [];simp at this;lia)
  refine⟨_,rfl,_,rfl,x,aU,dx,_,rfl,ae,Tc.cl,Tc.into,?_,?_⟩
  ·exact hl _ (Nat.lt_of_le_of_lt (aW _ _ _) (by have:=aW "same" (.int n.same) [];simp at this;lia))
  refine⟨_,rfl,_,rfl,x,aU,dx,_,rfl,ae,Tc.cl,Tc.least,?_,?_⟩
  ·show([("same", .int n.same),("out", .int n.out),("into", .int n.into)]:List (Str×V)).length<1000;simp
  refine⟨_,rfl,_,rfl,x,aU,dx,_,rfl,ae,Tc.cl,Tc.part,?_,?_⟩
  ·show([("same", .int n.same),("out", .int n.out),("into", .int n.into),("least", .int n.least)]:List (Str×V)).length<1000;simp
  rw[gf,gf,gf,gf,R3];have b5:SameBut x H (upd H x (.ins aU dx (m6 n))):=SameBut.refl.upd;refine⟨fun σ H'=>σ=[sR x,sI n.same,sI n.out,sI n.into,sI n.least,sI n.part,some nv]∧∃l,H' x=some (.ins aU dx (bx "near" (.ref l) (m6 n)))∧SameBut x H H'∧H' l=some (.lst xs)∧cT H' xs fs∧H l=none,?_,?_⟩
  ·refine⟨_,rfl,_,rfl,?_⟩;rcases XO with⟨rfl,rfl,rfl⟩|⟨a,rfl,ha,Qx⟩
   ·refine jS ?_;refine⟨aF ZA,fun l lh=>?_⟩;have n1:x≠l:=aE ae lh;refine⟨_,rfl,x,aU,dx,_,rfl,by rw[aj n1,ae],Tc.cl,Tc.near,by simp[m6],rfl,l,ae,?_,?_, .nil,?_⟩
    ·exact(b5.laid (b5.free ae lh)).upd
    ·rw[aj (Ne.symm n1),ae]
    ·exact b5.free ae lh
   ·refine bg (fun hh=>absurd hh ZA) (fun _=>?_);have n0:a≠x:=iY ha hx (by intro z;cases z);refine⟨_,rfl,a,xs,rfl, .inl (.of (by rw[aj n0];exact ha)),fun l lh=>?_⟩;have n1:x≠l:=aE ae lh;have b6:SameBut x H (upd (upd H x (.ins aU dx (m6 n))) l (.lst xs)):=b5.laid (b5.free ae lh);refine⟨_,rfl,x,aU,dx,_,rfl,by rw[aj n1,ae],Tc.cl,Tc.near,by simp[m6],rfl,l,ae,b6.upd,?_,?_,?_⟩
    ·rw[aj (Ne.symm n1),ae]
    ·exact Qx.but b6.upd hx
    ·exact b5.free ae lh
  ·rintro σ H' ⟨rfl,l,uz,sb,JD,Qx,XQ⟩;refine⟨_,rfl,x,aU,dx,_,_,rfl,uz,Tc.cl,Tc.near,Oa n l,l,xs,fs,rfl,JD,Qx,NR,?_⟩;refine bg (fun h6=>?_) (fun h6=>?_)
   ·rw[if_pos rfl,Z7 h6]at q;intro H2 d s2 hd hD;have b2:=sb.same s2;have XR:=sb.free uz hd;refine⟨_,rfl,x,aU,dx,_,rfl,s2 _ _ uz,Tc.cl,Tc.EK,?_,?_⟩
    ·have:=aW "near" (.ref l) (m6 n);have e5:(m6 n).length=5:=rfl;exact hl _ (by lia)
    ·have nl:l≠x:=iY JD uz (by intro z;cases z);have nd:d≠x:=iY hD (s2 _ _ uz) (by intro z;cases z);have Vi:dx≠x:=iY EX hx (by intro z;cases z);refine q _ l d b2.upd ⟨?_,?_,?_,?_,?_⟩ XQ XR
     ·rw[ae,R4]
     ·rw[aj Vi];exact b2 _ _ Vi EX
     ·rw[aj nl];exact s2 _ _ JD
     ·exact Qx.but (SameBut.upd (fun b u n e=>s2 b u e)) uz
     ·rw[aj nd];exact hD
   ·rw[if_pos rfl,Z5 h6]at q;exact fun H2 s2=>q H2 (sb.same s2)
theorem iF:aL ["self","x","y","price"] ["self","x","y"] (ar d8):=⟨rfl,rfl,rfl,by decide+kernel,rfl,by decide+kernel,by decide+kernel⟩
include T Tc in
theorem mQ{f:Addr}{fd:FuncData}(F:iA K "pair_worth" "Terms.pair_worth" d8 f fd):a8 P w K mg base (c7 P w) true 1 f fd ["self","x","y"] (wM aU):=by
 refine F.gO iF Η (fun bU A outer s H vs Q E hr h hX=>?_)
 ·obtain⟨t,x,y,n,fs,dx,l,d,xs,rfl,_⟩:=h;rfl
 ·obtain⟨t,x,y,n,fs,dx,l,d,xs,rfl,T1,q⟩:=h;have hu:=hr.units;have hu:(A.deeper (PyProof.Rows.envOfC "Terms.pair_worth" (ar d8) s.heap.objs.size f bU)).units+1<cLine:=by lia
  refine⟨_,(ZV (Ξ (Z9 jr Β (pv 2) (aV _)) (ZX (Θ (ZP K))) aQ) (ZV (ZH (3) iF.nd (@Ei _ _ _ _ _ _ _ hu (ZP K) (@d6 _ _ _ _ _ (ZN Β (ZJ (pv 2)))) ⟨rfl,rfl,rfl,rfl⟩)) (ZV (Ξ (ZW (@lG _ _ _ _ _ (pv 3))) (ZX (Θ jQ)) aQ) (ZX (Θ (ZQ cA (ZP K) (pv 3))))))),?_⟩;refine⟨_,rfl,_,rfl,rfl,_,rfl,?_⟩;refine bg (fun h=>?_) (fun h=>?_)
  ·have h:x=y:=by simpa using h
   have q:=q H (.refl H);rw[show cK n.same fs x y=some n.same by simp[cK,h]]at q;exact⟨_,rfl,t,aU,dx,_,_,rfl,T1.ob,Tc.cl,Tc.same,EL n l d,q⟩
  have h:¬x=y:=by simpa using h
  refine⟨_,rfl,t,aU,dx,_,_,rfl,T1.ob,Tc.cl,Tc.EK,EM n l d,d,rfl, .inr ⟨_, .inl T1.di⟩,_,rfl,_,rfl,aF ZA,fun p hp=>?_⟩;have nd:d≠p:=aE T1.di hp;have q:=q _ (ax.upd (o:= .tup [.str x, .str y]) hp);refine⟨_, .t (k:=[.inr x, .inr y]) (by rw[aj nd];exact T1.di) ae,?_⟩;rw[vI];have T2:kD (upd H p (.tup [.str x, .str y])) aU t n fs dx l d xs:=⟨ax.upd hp _ _ T1.ob,ax.upd hp _ _ T1.own,ax.upd hp _ _ T1.li,T1.tr.same (ax.upd hp),ax.upd hp _ _ T1.di⟩
  cases e:cJ fs x y with
  |none=>
   rw[show cK n.same fs x y=none by simp[cK,h,e]]at q;refine⟨_,rfl,_,rfl,?_⟩;exact jS q
  |some v=>
   rw[show cK n.same fs x y=some (n.same-v) by simp[cK,h,e]]at q;refine⟨_,rfl,_,rfl,?_⟩;refine bg (fun hh=>absurd hh ZA) (fun _=>?_);exact⟨_,rfl,t,aU,dx,_,_,rfl,T2.ob,Tc.cl,Tc.same,EL n l d,_,rfl,_,_,rfl,rfl,q⟩
theorem zh:aL ["numbers"] ["numbers"] (ar kM):=⟨rfl,rfl,rfl,by decide+kernel,rfl,by decide+kernel,by decide+kernel⟩
include T in
theorem zi{f:Addr}{fd:FuncData}(F:jt K "greatest" "greatest" kM f fd):a8 P w K mg base (c7 P w) true 1 f fd ["numbers"] lO:=by
 refine F.gO zh Η (fun bU A outer s H vs Q E hr h hX=>?_)
 ·obtain⟨a,os,rfl,_⟩:=h;rfl
 ·obtain⟨a,os,rfl,ha,hl,q⟩:=h;refine⟨_,(ZX (Θ (@Hw _ K _ _ _ _ _ _ _ (by exact rfl) (by exact rfl) T.Jh (@kC _ _ _ _ _ _ _ _ _ _ _ _ _ _ (by exact rfl) (show bh ["numbers"] (ar kM) _ ["number"] [] []from⟨rfl,by decide+kernel,by decide+kernel,by decide+kernel,rfl,rfl,by decide+kernel,by decide+kernel,by decide+kernel⟩) (Ψ K Γ) (fun _ _ _ _ _=>(ZI (0) (show(["number"]:List Str).Nodup by decide+kernel))) (fun _ _ _ _ _=>(@Bn _ _ _ (ZW (@ow _ _ _ _ _ (pv 0))))) (fun _ _ _ _ _=>(pv 0)) (by intro _;rfl)) (Α) (Α)))),?_⟩;refine⟨_,rfl,a,rfl,⟨_, .of ha⟩,fun D hD=>?_⟩;refine fA (xs:=os.map bG) (fun i ys bq H'=>(∃u,bq=[u])∧ys=((os.take i).filterMap id).map V.int∧H' D=some (.lst ys)∧ax H H') ⟨⟨_,rfl⟩,rfl,ae,ax.upd hD⟩ ?_ ?_ ?_
  ·rintro i ys bq H' _ ⟨_,_,_,s1⟩;exact .of (s1 _ _ ha)
  ·rintro i x ys bq H' hx ⟨⟨u,rfl⟩,rfl,rW,s1⟩;have hi:i<os.length:=by have:=(ZO hx).1;simpa using this
   have ho:os[i]?=some os[i]:=by simp[hi]
   generalize os[i]=o at ho;have ex:x=bG o:=by
    rw[List.getElem?_map,ho]at hx;exact(Z' hx).symm
   subst ex;have ig:(((os.take i).filterMap id).map V.int).length<sizeLine:=aZ (by
    have:=List.length_filterMap_le id (os.take i);rw[List.length_take]at this;rw[List.length_map]
    lia)
   have e1:os.take (i+1)=os.take i++[o]:=by rw[List.take_succ,ho];rfl
   refine⟨_,rfl,_,rfl,?_⟩;cases o with
   |none=>
    refine bg (fun hh=>Zn hh (by simp[bG])) (fun _=>?_);exact⟨⟨_,rfl⟩,by rw[e1];simp,rW,s1⟩
   |some v=>
    refine bg (fun _=>?_) (fun hh=>Zn (by simp[bG]) hh);exact⟨_,rfl,rW,ig,⟨_,rfl⟩,by rw[e1];simp[bG],ae,s1.dU hD⟩
  ·rintro ys bq H' ⟨_,rfl,rW,s1⟩;rw[List.length_map,List.take_length]at rW;refine⟨D,os.filterMap id,rfl, .of rW,?_⟩;rw[Hz];exact q H' s1
theorem Ik:aL ["number","price"] ["number","price"] (ar AM):=⟨rfl,rfl,rfl,by decide+kernel,rfl,by decide+kernel,by decide+kernel⟩
include T in
theorem Il{f:Addr}{fd:FuncData}(F:jt K "less" "less" AM f fd):a8 P w K mg base (c7 P w) true 1 f fd ["number","price"] wY:=by
 refine F.gO Ik Η (fun bU A outer s H vs Q E hr h hX=>?_)
 ·obtain⟨o,p,rfl,_⟩:=h;rfl
 ·obtain⟨o,p,rfl,q⟩:=h;refine⟨_,(ZX (Θ (@oz _ _ _ _ _ _ _ _ (ZW (@lG _ _ _ _ _ (pv 0))) jQ (ZQ cA Γ (pv 1))))),?_⟩;refine⟨_,rfl,_,rfl,?_⟩;cases o with
  |none=>
   refine jS ?_;exact q
  |some v=>
   refine bg (fun hh=>Zn hh (by simp[bG])) (fun _=>?_);exact⟨_,rfl,_,rfl,_,_,rfl,rfl,q⟩
theorem mR:aL ["worth","brought"] ["worth","brought"] (ar fU):=⟨rfl,rfl,rfl,by decide+kernel,rfl,by decide+kernel,by decide+kernel⟩
include T in
theorem mS{f:Addr}{fd:FuncData}(F:jt K "begun_or_gone_on" "begun_or_gone_on" fU f fd):a8 P w K mg base (c7 P w) true 1 f fd ["worth","brought"] Ak:=by
 refine F.gO mR Η (fun bU A outer s H vs Q E hr h hX=>?_)
 ·obtain⟨w,b,rfl,_⟩:=h;rfl
 ·obtain⟨w,b,rfl,q⟩:=h;refine⟨_,(ZV (Ξ (ZW (@lG _ _ _ _ _ (pv 0))) (ZX (Θ jQ)) aQ) (ZV (Ξ (@PW.pt _ _ _ (η (ZW (@lG _ _ _ _ _ (pv 1))) (@pw_or1 _ _ _ _ (Z9 m3 Β af (aV _))))) (ZX (Θ Γ)) aQ) (ZX (Θ (ZQ bp Γ (pv 1)))))),?_⟩;refine⟨_,rfl,_,rfl,?_⟩;cases w with
  |none=>
   refine jS ?_;exact q
  |some w=>
   refine bg (fun hh=>Zn hh (by simp[bG])) (fun _=>?_);refine⟨_,rfl,_,rfl,?_⟩;cases b with
   |none=>
    refine jS ?_;refine jS ?_;exact⟨_,rfl,q⟩
   |some b=>
    refine bg (fun hh=>Zn hh (by simp[bG])) (fun _=>?_);refine⟨_,rfl,_,_,rfl,rfl,_,rfl,?_⟩;refine bg (fun hh=>?_) (fun hh=>?_)
    ·have hh:b<0:=by simpa using hh
     simp only[Hy,hh,if_true]at q;exact⟨_,rfl,q⟩
    ·have hh:¬b<0:=by simpa using hh
     simp only[Hy,hh,if_false]at q;exact⟨_,rfl,_,rfl,_,_,rfl,rfl,q⟩
variable(fj:bM P w K mg base true 1 "greatest" ["numbers"] lO)
variable(kU:bM P w K mg base true 1 "less" ["number","price"] wY)
variable(Rc:BC K aA)
theorem cw:aL ["self","ended","above","row","j","worth"] ["self","ended","above"] (ar dP):=⟨rfl,rfl,rfl,by decide+kernel,rfl,by decide+kernel,by decide+kernel⟩
include T fj kU Rc in
theorem j1{f:Addr}{fd:FuncData}(F:iA K "brought_behind" "Trails.brought_behind" dP f fd):a8 P w K mg base (c7 P w) true 2 f fd ["self","ended","above"] (qw aA):=by
 refine F.gO cw Η (fun bU A outer s H vs Q E hr h hX=>?_)
 ·obtain⟨x,e,a,dx,te,tb,o,p,m,f,g,rfl,_⟩:=h;rfl
 ·obtain⟨x,e,a,dx,te,tb,o,p,m,f1,g,rfl,hx,he,ha,hm,q⟩:=h;refine⟨_,(ZV (ZH (3) cw.nd (@bN _ _ _ _ (ZJ jQ))) (ZV (ZU hX.own (@oP _ K _ _ _ _ _ _ _ (by exact rfl) T.jv (ZJ Β) (Α) (Α)) (μ K (2) (by exact rfl) (Τ (ZI (4) cw.nd) (Τ (ZI (5) cw.nd) ft))) (ZX (Ο (ZR K PySem.F.slot_list_append PySem.F.type_list_append bS (pv 3) (ZJ (ZK fj aR (ZJ (@bN _ _ _ _ (ZN (pv 5) (ZN (ZK kU aR (ZN (ZL (pv 2) (ZQ bp (pv 4) af)) (ZJ (ZP K)))) (ZJ (ZK kU aR (ZN (ZL (pv 3) (pv 4)) (ZJ (ZP K))))))))))))))) (ZX (Θ (pv 3))))),?_⟩;refine⟨aF ZA,fun r GC=>?_⟩;refine⟨_,rfl,e,rfl,⟨_, .of (ax.upd GC _ _ he)⟩,?_⟩;have hl:=dq m f1;refine yI (xs:=dj m f1) (fun i σ H'=>(∃u v,σ=[sR x,sR e,sR a,sR r,u,v])∧ax H H'∧H' r=some (.lst (dj (i+1) (rQ f1 g o p)))) ?_ ?_ ?_ ?_
  ·exact⟨⟨_,_,rfl⟩,ax.upd GC,by rw[ae];simp[dj,rQ,bG,List.range_succ]⟩
  ·rintro i σ H' _ ⟨_,s1,_⟩;exact .of (s1 _ _ he)
  ·rintro i v T' σ H' hv ⟨⟨u,u2,rfl⟩,s1,zL⟩ hT;have hi:i<m:=by have:=(ZO hv).1;lia
   rw[du hi]at hv;cases hv;have s2:ax H (upd H' T' (.tup [.int i,bG (f1 i)])):=s1.trans (ax.upd hT);have xt:=ax.upd (o:= .tup [.int i,bG (f1 i)]) hT _ _ zL;refine⟨T',_,rfl, .of ae,rfl,_,_,rfl,_,_,rfl,rfl,?_⟩;generalize upd H' T' (.tup [.int i,bG (f1 i)])=H2 at s2 xt;have XS:rO (dj (m+1) g) ((i:Int)+1)=some (bG (g (i+1))):=by
    have:((i:Int)+1)=((i+1:Nat):Int):=by lia
    rw[this];exact au (du UQ)
   have at2:rO (dj (i+1) (rQ f1 g o p)) (i:Int)=some (bG (rQ f1 g o p i)):=au (du UQ);refine⟨_,rfl, .inl ⟨rfl,_, .of xt⟩,_,rfl,_,rfl,_,rfl,_,_,rfl,rfl,a,_,_,_,rfl,rfl, .of (s2 _ _ ha),XS,_,rfl,x,aA,dx,_,_,rfl,s2 _ _ hx,Rc.cl,Rc.out,Jn o p te tb,g (i+1),o,rfl,_,rfl,_,rfl,r,_,_,_,rfl,rfl, .of xt,at2,_,rfl,x,aA,dx,_,_,rfl,s2 _ _ hx,Rc.cl,Rc.into,E2 o p te tb,rQ f1 g o p i,p,rfl,aF ZA,fun L hL=>⟨L,[f1 i,bE (g (i+1)) o,bE (rQ f1 g o p i) p],rfl,ae,ZF,fun H3 s3=>?_⟩⟩;have s4:=(ax.upd (o:= .lst [bG (f1 i),bG (bE (g (i+1)) o),bG (bE (rQ f1 g o p i) p)]) hL).trans s3;exact⟨r,_,_,rfl,rfl,s4 _ _ xt,aZ (by rw[dq];lia),⟨_,_,rfl⟩,(s2.trans s4).dU GC,by rw[ae,qv (i+1)];rfl⟩
  ·rintro σ H' ⟨⟨u,v,rfl⟩,s1,zL⟩;rw[hl]at zL;exact⟨_,rfl,q H' r s1 GC zL⟩
variable(eA:bM P w K mg base true 1 "begun_or_gone_on" ["worth","brought"] Ak)
variable(cF:eK P w K mg base true 2 aA "brought_behind" ["self","ended","above"] (qw aA))
theorem cP:aL ["self","worths","terms","width","row","above","ended"] ["self","worths","terms"] (ar eO):=⟨rfl,rfl,rfl,by decide+kernel,rfl,by decide+kernel,by decide+kernel⟩
include T Tc Rc eA cF in
theorem nU{f:Addr}{fd:FuncData}(F:iA K "__init__" "Trails.__init__" eO f fd):a8 P w K mg base (c7 P w) true 4 f fd ["self","worths","terms"] (qB aA aU):=by
 refine F.gO cP Η (fun bU A outer s H vs Q E hr h hX=>?_)
 ·obtain⟨x,dx,w,t,c,as,f,n,m,rfl,_⟩:=h;rfl
 ·obtain⟨x,dx,w,t,c,as,f1,n,m,rfl,hx,EX,hw,TA,TF,hn,hm,q⟩:=h;obtain⟨nu,dt,l,d,vs,T1,e1,e2,e3,e4⟩:=TF;have SS:w≠x:=iY hw hx (by intro z;cases z);have Qy:t≠x:=fun z=>by
   have h1:=T1.ob;rw[z,hx]at h1;have h2:=congrArg (fun o=>match o with|some (HO.ins _ _ fs)=>fs.length| _=>0) h1;simp[wJ]at h2
  refine⟨_,(Z1 (Z_ K Γ (θ K (pv 2))) (Z1 (Z_ K Γ (θ K (pv 2))) (Z1 (ZH (3) cP.nd (@oz _ _ _ _ _ _ _ _ (Z9 rm (ZM (aK K) T.c_ (ZJ Β)) af (aV _)) (ZM (aK K) T.c_ (ZJ (ZL Β af))) af)) (Z1 (Z_ K Γ (@bN _ _ _ _ ai)) (Z1 (Z_ K Γ (@bN _ _ _ _ (ZJ (ZQ KG (@bN _ _ _ _ (ZJ jQ)) (ZQ bp (pv 3) af))))) (ZX (ZU hX.own (Ψ K Β) (ZI (4) cP.nd) (Z1 (@aH _ _ (5) _ _ _ _ cP.nd Ρ (Or.inr rfl) (ZL (ZP K) (@rl _ _ _ _ _ _ lI af)) (Α) (by exact .inl rfl)) (Z1 (@ju _ _ _ _ _ _ _ _ _ _ _ _ _ _ _ (6) _ _ (by exact rfl) cP.nd Ρ (by exact rfl) (show bh ["self","worths","terms","width","row","above","ended"] (ar eO) _ ["j","worth"] [5] ["above"]from⟨rfl,by decide+kernel,by decide+kernel,by decide+kernel,rfl,rfl,by decide+kernel,by decide+kernel,by decide+kernel⟩) (@oP _ K _ _ _ _ _ _ _ (by exact rfl) T.jv (ZJ (pv 4)) (Α) (Α)) (fun _ _ _ _ _=>(μ K (2) (by exact rfl) (Τ (ZI (0) (show(["j","worth","above"]:List Str).Nodup by decide+kernel)) (Τ (ZI (1) (show(["j","worth","above"]:List Str).Nodup by decide+kernel)) ft)))) (fun _ _ _ _ _=>fz) (fun _ _ _ _ _=>(ZK eA aR (ZN Β (ZJ (ZL (pv 2) (pv 0)))))) (Α) (by intro _;rfl)) (Z1 (Ο (ZR K PySem.F.slot_list_append PySem.F.type_list_append bS (ZP K) (ZJ (pv 6)))) (ZX (Ο (ZR K PySem.F.slot_list_append PySem.F.type_list_append bS (ZP K) (ZJ (ZT Γ cF aR (ZN (pv 6) (ZJ (pv 5)))))))))))))))))),?_⟩;refine⟨fun σ H1=>σ=[sR x,sR w,sR t,none,none,none,none]∧H1=upd H x (.ins aA dx (bx "out" (.int c.out) [])),?_,?_⟩
  ·refine⟨_,rfl,t,aU,dt,_,_,rfl,T1.ob,Tc.cl,Tc.out,l_out nu l d,_,rfl,x,aA,dx,_,rfl,hx,Rc.cl,Rc.out,ZD,rfl,?_⟩;rw[e2]
  rintro σ H1 ⟨rfl,rfl⟩;refine⟨fun σ H1=>σ=[sR x,sR w,sR t,none,none,none,none]∧H1=upd H x (.ins aA dx (bx "into" (.int c.into) (bx "out" (.int c.out) []))),?_,?_⟩
  ·refine⟨_,rfl,t,aU,dt,_,_,rfl,by rw[aj Qy];exact T1.ob,Tc.cl,Tc.into,KW nu l d,_,rfl,x,aA,dx,_,rfl,ae,Rc.cl,Rc.into,?_,rfl,?_⟩
   ·have:=aW "out" (.int c.out) [];simp at this
    lia
   ·rw[gf,e3]
  rintro σ H1 ⟨rfl,rfl⟩;refine⟨fun σ H1=>∃wd:Int,σ=[sR x,sR w,sR t,sI wd,none,none,none]∧H1=upd H x (.ins aA dx (bx "into" (.int c.into) (bx "out" (.int c.out) [])))∧(0<n→wd=(m:Int))∧0≤wd∧wd≤1000,?_,?_⟩
  ·have rX:upd H x (.ins aA dx (bx "into" (.int c.into) (bx "out" (.int c.out) []))) w=some (.lst (as.map V.ref)):=by rw[aj SS];exact hw
   have B0:=TA.len;refine⟨_,rfl,w,_,rfl, .inl (.of rX),_,_,rfl,rfl,_,rfl,?_⟩;refine bg (fun hh=>?_) (fun hh=>?_)
   ·have hh:0<n:=by
     have:(0:Int)<((as.map V.ref).length:Int):=by simpa using hh
     rw[List.length_map]at this
     lia
    obtain⟨a,Au,MA,Vj⟩:=TA.at hh;have OY:a≠x:=iY Vj hx (by intro z;cases z);have XT:upd H x (.ins aA dx (bx "into" (.int c.into) (bx "out" (.int c.out) []))) a=some (.lst (dj m (f1 0))):=by rw[aj OY];exact Vj
    refine⟨_,rfl,w,_,0,_,rfl,rfl, .of rX,au (j:=0) MA,a,_,rfl, .inl (.of XT),_,rfl,rfl,fun _=>by rw[dq],by rw[dq];lia,by rw[dq];lia⟩
   ·have hh:n=0:=by
     have:¬(0:Int)<((as.map V.ref).length:Int):=by simpa using hh
     rw[List.length_map]at this
     lia
    exact⟨_,rfl,rfl,fun z=>by lia,by lia,by lia⟩
  rintro σ H1 ⟨wd,rfl,rfl,XU,Zl,Zm⟩;refine⟨fun σ H1=>∃e,σ=[sR x,sR w,sR t,sI wd,none,none,none]∧H1 x=some (.ins aA dx (bx "ending" (.ref e) (bx "into" (.int c.into) (bx "out" (.int c.out) []))))∧SameBut x H H1∧H e=none∧H1 e=some (.lst []),?_,?_⟩
  ·refine⟨aF ZA,fun e he=>?_⟩;have yi:SameBut x H (upd H x (.ins aA dx (bx "into" (.int c.into) (bx "out" (.int c.out) [])))):=SameBut.refl.upd;have Vk:x≠e:=aE ae he;have JF:=yi.free ae he;refine⟨_,rfl,x,aA,dx,_,rfl,by rw[aj Vk,ae],Rc.cl,Rc.kH,?_,e,rfl,ae,(yi.laid JF).upd,JF,by rw[aj (Ne.symm Vk),ae]⟩;have a1:=aW "into" (.int c.into) (bx "out" (.int c.out) []);have a2:=aW "out" (.int c.out) [];simp at a2
   lia
  rintro σ H1 ⟨e,rfl,lu,yi,JF,AQ⟩;refine⟨fun σ H2=>∃b ab,σ=[sR x,sR w,sR t,sI wd,none,none,none]∧H2 x=some (.ins aA dx (gP c.out c.into e b))∧SameBut x H H2∧H2 e=some (.lst [])∧H b=none∧e≠b∧H2 b=some (.lst [.ref ab])∧(0<n→H2 ab=some (.lst (dj (m+1) (Bq f1 c.out c.into 0))))∧ab≠e∧ab≠b∧H ab=none,?_,?_⟩
  ·refine⟨aF ZA,fun l1 lh=>⟨_,rfl,_,_,rfl,rfl,l1,_,_,rfl,rfl,ae,by lia,by lia,aF (by simp;lia),fun ab FH=>⟨aF ZA,fun b hb=>?_⟩⟩⟩;have s1:ax H1 (upd (upd (upd H1 l1 (.lst [.cR])) ab (.lst (List.replicate (wd+1).toNat [V.cR]).flatten)) b (.lst [.ref ab])):=((ax.upd lh).trans (ax.upd FH)).trans (ax.upd hb);have jZ:H1 b=none:=((ax.upd lh).trans (ax.upd FH)).free hb;have yj:=s1 _ _ lu;have XW:x≠b:=aE lu jZ;have JG:ab≠b:=aE ae hb;refine⟨_,rfl,x,aA,dx,_,rfl,yj,Rc.cl,Rc.jx,?_,b,ab,rfl,by rw[ae,Oi],(yi.same s1).upd,?_,yi.free lu jZ,aE AQ jZ,?_,fun h0=>?_,?_,JG,yi.free lu ((ax.upd lh).free FH)⟩
   ·have a0:=aW "ending" (.ref e) (bx "into" (.int c.into) (bx "out" (.int c.out) []));have a1:=aW "into" (.int c.into) (bx "out" (.int c.out) []);have a2:=aW "out" (.int c.out) [];simp at a2
    lia
   ·have:e≠x:=iY AQ lu (by intro z;cases z);rw[aj this];exact s1 _ _ AQ
   ·rw[aj (Ne.symm XW),ae]
   ·have Vl:ab≠x:=fun z=>by rw[z]at FH;rw[(ax.upd lh) _ _ lu]at FH;cases FH
    rw[aj Vl,aj JG,ae,XU h0]
    congr 1
    have:((m:Int)+1).toNat=m+1:=by lia
    rw[this]
    congr 1
    apply List.ext_getElem?;intro k;by_cases hk:k<m+1
    ·rw[du hk,iI];simp[bG,hk]
    ·rw[List.getElem?_eq_none (by simp;lia),List.getElem?_eq_none (by rw[dq];lia)]
   ·exact Ne.symm (aE ((ax.upd lh) _ _ AQ) FH)
  clear lu yi AQ H1;rintro σ H1 ⟨b,ab,rfl,lu,yi,AQ,OZ,Vm,jZ,Im,O0,JG,DR⟩;refine⟨_,rfl,w,rfl,⟨_, .of (yi _ _ SS hw)⟩,?_⟩;refine bW (xs:=as.map V.ref) (fun i σ H'=>(∃u1 u2 u3,σ=[sR x,sR w,sR t,sI wd,u1,u2,u3])∧H' x=some (.ins aA dx (gP c.out c.into e b))∧SameBut x H H'∧∃(es:List Addr)(bs:List V)(ab:Addr),H' e=some (.lst (es.map V.ref))∧i9 H' es (dH f1 c.out c.into) i m∧(∀a∈es,H a=none∧a≠e∧a≠b∧a≠x)∧H' b=some (.lst (bs++[.ref ab]))∧bs.length=i∧(0<n→H' ab=some (.lst (dj (m+1) (Bq f1 c.out c.into i))))∧ab≠e∧ab≠b∧H ab=none∧∃bz:List Addr,bs=bz.map V.ref∧∀k a,bz[k]?=some a→H' a=some (.lst (dj (m+1) (Bq f1 c.out c.into k)))∧a≠e∧a≠b∧H a=none) ?_ ?_ ?_ ?_
  ·exact⟨⟨_,_,_,rfl⟩,lu,yi,[],[],ab,AQ,⟨rfl,fun i a h=>by simp at h⟩,(fun a h=>by cases h),jZ,rfl,Im,O0,JG,DR,[],rfl,fun k a h=>by simp at h⟩
  ·rintro i σ H' _ ⟨_,_,sb,_⟩;exact .of (sb _ _ SS hw)
  ·clear lu yi AQ jZ Im O0 JG DR ab H1;rintro i v σ H' hv ⟨⟨u1,u2,u3,rfl⟩,lu,yi,es,bs,ab,AQ,TE,O1,jZ,Io,Im,O0,JG,DR,bz,O2,BZ⟩;have B0:=TA.len;have hi:i<n:=by have:=(ZO hv).1;rw[List.length_map]at this;lia
   obtain⟨ra,GC,zL,xt⟩:=TA.at hi;rw[zL]at hv;cases hv;have XX:ra≠x:=iY xt hx (by intro z;cases z);have Qz:=yi _ _ XX xt;have Dp:=Im UQ;refine⟨fun σ H2=>σ=[sR x,sR w,sR t,sI wd,sR ra,sR ab,u3]∧H2=H',?_,?_⟩
   ·exact⟨_,rfl,x,aA,dx,_,_,rfl,lu,Rc.cl,Rc.jx,gS c.out c.into e b,_,rfl,b,_,_,_,rfl,rfl, .of jZ,yB _ _,rfl,rfl⟩
   rintro σ H' ⟨rfl,rfl⟩;refine⟨fun σ H2=>∃D,σ=[sR x,sR w,sR t,sI wd,sR ra,sR ab,sR D]∧ax H' H2∧H' D=none∧H2 D=some (.lst (dj m (dH f1 c.out c.into i))),?_,?_⟩
   ·refine⟨_,rfl,ra,rfl,⟨_, .of Qz⟩,fun D hD=>?_⟩;refine vK (xs:=dj m (f1 i)) (fun j ys bq H2=>(∃w1 w2,bq=[w1,w2,sR ab])∧ys=dj j (dH f1 c.out c.into i)∧H2 D=some (.lst ys)∧ax H' H2) ⟨⟨_,_,rfl⟩,rfl,ae,ax.upd hD⟩ ?_ ?_ ?_
    ·rintro j ys bq H2 _ ⟨_,_,_,s2⟩;exact .of (s2 _ _ Qz)
    ·rintro j y T2 ys bq H2 hy ⟨⟨w1,w2,rfl⟩,rfl,lA,s2⟩ O3;have hj:j<m:=by have:=(ZO hy).1;rw[dq]at this;exact this
     rw[du hj]at hy;cases hy;have s3:ax H' (upd H2 T2 (.tup [.int j,bG (f1 i j)])):=s2.trans (ax.upd O3);have Dn:=ax.upd (o:= .tup [.int j,bG (f1 i j)]) O3 _ _ lA;refine⟨T2,_,rfl, .of ae,rfl,_,_,rfl,_,_,rfl,rfl,?_⟩;refine oM ?_;refine⟨_,rfl,_,rfl,_,rfl,ab,_,_,_,rfl,rfl, .of (s3 _ _ Dp),au (du UQ),f1 i j,Bq f1 c.out c.into i j,rfl,Dn,aZ (by rw[dq];lia),⟨_,_,rfl⟩,by rw[qv];rfl,ae,s3.dU hD⟩
    ·rintro ys bq H2 ⟨_,rfl,lA,s2⟩;rw[dq]at lA;exact⟨D,rfl,s2,hD,lA⟩
   rintro σ H2 ⟨D,rfl,s2,MI,lA⟩;have yj:=s2 _ _ lu;have MJ:=s2 _ _ AQ;have yg:=s2 _ _ jZ;have SU:=s2 _ _ Dp;have XY:D≠x:=Ne.symm (aE lu MI);have Vn:D≠e:=Ne.symm (aE AQ MI);have Vo:D≠b:=Ne.symm (aE jZ MI);have XZ:e≠x:=iY AQ lu (by intro z;cases z);have X0:b≠x:=iY jZ lu (by intro z;cases z);have Vl:ab≠x:=iY Dp lu (by intro z;cases z);have Iq:=TE.len;have X1:H D=none:=yi.free lu MI;have SV:=yi.same s2;refine⟨fun σ H3=>σ=[sR x,sR w,sR t,sI wd,sR ra,sR ab,sR D]∧H3=upd H2 e (.lst (es.map V.ref++[.ref D])),?_,?_⟩
   ·exact⟨_,rfl,x,aA,dx,_,_,rfl,yj,Rc.cl,Rc.kH,il c.out c.into e b, .inl ⟨rfl,_, .of MJ⟩,_,rfl,e,_,_,rfl,rfl,MJ,aZ (by rw[List.length_map];lia),rfl,rfl⟩
   rintro σ H3 ⟨rfl,rfl⟩;have MK:upd H2 e (.lst (es.map V.ref++[.ref D])) x=some (.ins aA dx (gP c.out c.into e b)):=by rw[aj (Ne.symm XZ)];exact yj
   have QA:upd H2 e (.lst (es.map V.ref++[.ref D])) b=some (.lst (bs++[.ref ab])):=by rw[aj (Ne.symm Vm)];exact yg
   have L3:upd H2 e (.lst (es.map V.ref++[.ref D])) ab=some (.lst (dj (m+1) (Bq f1 c.out c.into i))):=by rw[aj O0];exact SU
   have Dn:upd H2 e (.lst (es.map V.ref++[.ref D])) D=some (.lst (dj m (dH f1 c.out c.into i))):=by rw[aj Vn];exact lA
   have GD:upd H2 e (.lst (es.map V.ref++[.ref D])) e=some (.lst (es.map V.ref++[.ref D])):=ae;have SW:SameBut x H (upd H2 e (.lst (es.map V.ref++[.ref D]))):=SV.laid JF;have Vp:∀k a,es[k]?=some a→upd H2 e (.lst (es.map V.ref++[.ref D])) a=some (.lst (dj m (dH f1 c.out c.into k))):=fun k a hk=>by
    rw[aj (O1 a (Z0 hk)).2.1];exact s2 _ _ (TE.row k a hk)
   have Vq:∀k a,bz[k]?=some a→upd H2 e (.lst (es.map V.ref++[.ref D])) a=some (.lst (dj (m+1) (Bq f1 c.out c.into k))):=fun k a hk=>by
    rw[aj (BZ k a hk).2.1];exact s2 _ _ (BZ k a hk).1
   generalize upd H2 e (.lst (es.map V.ref++[.ref D]))=H3 at MK QA L3 Dn GD SW Vp Vq;refine⟨_,rfl,x,aA,dx,_,_,rfl,MK,Rc.cl,Rc.jx,gS c.out c.into e b, .inl ⟨rfl,_, .of QA⟩,_,rfl,x,dx,_,rfl,MK,E3 c.out c.into e b,_,rfl,_,rfl,x,D,ab,dx,e,b,c.out,c.into,m,_,_,rfl,MK,Dn,L3,hm,fun H4 r s4 rE X2=>?_⟩;have Vr:r≠b:=Ne.symm (aE QA rE);have X3:r≠e:=Ne.symm (aE GD rE);refine⟨b,_,_,rfl,rfl,s4 _ _ QA,aZ (by rw[List.length_append];simp;lia),⟨_,_,_,rfl⟩,by rw[aj (Ne.symm X0)];exact s4 _ _ MK,(SW.same s4).laid OZ,es++[D],bs++[.ref ab],r,by rw[aj Vm];rw[s4 _ _ GD];simp,⟨by simp[Iq],fun k a hk=>?_⟩,fun a ha=>?_,ae,by simp[Io],fun _=>?_,X3,Vr,SW.free MK rE,bz++[ab],by simp[O2],fun k a hk=>?_⟩
   ·by_cases h:k<i
    ·rw[Υ UQ]at hk;rw[aj (O1 a (Z0 hk)).2.2.1];exact s4 _ _ (Vp k a hk)
    ·rw[Ω UQ]at hk;have xb:k-es.length=0:=by
      have:=(ZO hk).1;simp at this
      lia
     rw[xb]at hk;have:D=a:=by simpa using hk
     subst this;rw[aj Vo];have:k=i:=by lia
     rw[this];exact s4 _ _ Dn
   ·rcases List.mem_append.mp ha with ha|ha
    ·exact O1 a ha
    ·have:a=D:=by simpa using ha
     rw[this];exact⟨X1,Vn,Vo,XY⟩
   ·rw[aj Vr,X2]
    congr 2
    unfold dj;apply List.map_congr_left;intro j _;rw[BD]
   ·have O4:bz.length=i:=by rw[O2,List.length_map]at Io;exact Io
    by_cases h:k<i
    ·rw[Υ UQ]at hk;obtain⟨_,z1,z2,z3⟩:=BZ k a hk;exact⟨by rw[aj z2];exact s4 _ _ (Vq k a hk),z1,z2,z3⟩
    ·rw[Ω UQ]at hk;have xb:k-bz.length=0:=by
      have:=(ZO hk).1;simp at this
      lia
     rw[xb]at hk;have:ab=a:=by simpa using hk
     subst this;have:k=i:=by lia
     subst this;exact⟨by rw[aj JG];exact s4 _ _ L3,O0,JG,DR⟩
  ·rintro σ H' ⟨⟨u1,u2,u3,rfl⟩,yj,SV,es,bs,SX,MJ,TE,O1,yg,Io,Dp,X4,X5,MA,bz,O2,BZ⟩;rw[List.length_map,TA.len]at TE Io Dp;have O4:bz.length=n:=by rw[O2,List.length_map]at Io;exact Io
   refine q H' e b SV yj ⟨es,MJ,JF,TE,fun a ha=>(O1 a ha).1⟩ fun SY=>⟨bz++[SX],by rw[yg,O2];simp,OZ,⟨by simp[O4],fun k a hk=>?_⟩,fun a ha=>?_⟩
   ·by_cases h:k<n
    ·rw[Υ UQ]at hk;exact(BZ k a hk).1
    ·rw[Ω UQ]at hk;have xb:k-bz.length=0:=by
      have:=(ZO hk).1;simp at this
      lia
     rw[xb]at hk;have:SX=a:=by simpa using hk
     subst this;have:k=n:=by lia
     subst this;exact Dp SY
   ·rcases List.mem_append.mp ha with ha|ha
    ·obtain⟨k,hk,rfl⟩:=List.mem_iff_getElem.mp ha;exact(BZ k _ (by simp[hk])).2.2.2
    ·have:a=SX:=by simpa using ha
     rw[this];exact MA
theorem jC:aL ["self","pair","brought"] ["self","pair"] (ar gU):=⟨rfl,rfl,rfl,by decide+kernel,rfl,by decide+kernel,by decide+kernel⟩
include T Rc in
theorem o_{f:Addr}{fd:FuncData}(F:iA K "goes_on" "Trails.goes_on" gU f fd):a8 P w K mg base (c7 P w) true 1 f fd ["self","pair"] (xf aA):=by
 refine F.gO jC Η (fun bU A outer s H vs Q E hr h hX=>?_)
 ·obtain⟨x,dx,e,b,es,bs,f,o,p,n,m,pr,i,j,rfl,_⟩:=h;rfl
 ·obtain⟨x,dx,e,b,es,bs,f1,o,p,n,m,pr,i,j,rfl,TR,B7,hi,hj,q⟩:=h;refine⟨_,(ZV (ZH (2) jC.nd (ZL (ZL (ZP K) (δ (bV K) (pv 1) af)) (δ (bV K) (pv 1) af))) (ZX (Θ (@wb _ _ _ _ _ _ _ (@zO _ _ _ _ _ _ (@ow _ _ _ _ _ (pv 2)) (by first|exact br _ (ZD) (ZD)|rfl)) (@v_ _ _ _ _ _ (@iG _ _ _ _ _ _ _ _ Bd (pv 2) af (aV _))))))),?_⟩;obtain⟨ra,h1,h2,h3⟩:=TR.tb.at (show i<n+1 by lia);refine⟨_,rfl,x,aA,dx,_,_,rfl,TR.ob,Rc.cl,Rc.jx,gS o p e b,_,rfl,pr,_,_,_,rfl,rfl, .of B7,Zo (j:=0),b,_,_,_,rfl,rfl, .of TR.hb,au h2,_,rfl,pr,_,_,_,rfl,rfl, .of B7,Zo (j:=1),ra,_,_,_,rfl,rfl, .of h3,au (du (show j<m+1 by lia)),?_⟩;refine⟨_,rfl,?_⟩;cases eB:Bq f1 o p i j with
  |none=>
   rw[eB]at q;exact⟨_,rfl,bg (fun hh=>Zn hh (by simp[bG])) fun _=>q⟩
  |some v=>
   rw[eB]at q;exact⟨_,rfl,bg (fun _=>⟨_,rfl,_,_,rfl,rfl,q⟩) fun hh=>Zn (by simp[bG]) hh⟩
theorem kh:aL ["self","crossing","pair"] ["self","crossing","pair"] (ar d_):=⟨rfl,rfl,rfl,by decide+kernel,rfl,by decide+kernel,by decide+kernel⟩
include T Rc in
theorem ki{f:Addr}{fd:FuncData}(F:iA K "is_brought_by" "Trails.is_brought_by" d_ f fd):a8 P w K mg base (c7 P w) true 1 f fd ["self","crossing","pair"] (AA aA):=by
 refine F.gO kh Η (fun bU A outer s H vs Q E hr h hX=>?_)
 ·obtain⟨x,dx,e,b,es,bs,f,o,p,n,m,cr,pr,i,j,k,l,rfl,_⟩:=h;rfl
 ·obtain⟨x,dx,e,b,es,bs,f1,o,p,n,m,cr,pr,i,j,k,l,rfl,TR,JH,B7,hi,hj,hk,hl,q⟩:=h;refine⟨_,(ZX (Θ (@iG _ _ _ _ _ _ _ _ jr (ZL (ZL (ZP K) (δ (bV K) (pv 2) af)) (δ (bV K) (pv 2) af)) (ZL (ZL (ZP K) (δ (bV K) (pv 1) af)) (δ (bV K) (pv 1) af)) (aV _)))),?_⟩;obtain⟨ra,h1,h2,h3⟩:=TR.tb.at (show i<n+1 by lia);obtain⟨rb,g1,g2,g3⟩:=TR.te.at hk;refine⟨_,rfl,x,aA,dx,_,_,rfl,TR.ob,Rc.cl,Rc.kH,il o p e b,_,rfl,pr,_,_,_,rfl,rfl, .of B7,Zo (j:=0),e,_,_,_,rfl,rfl, .of TR.he,au g2,_,rfl,pr,_,_,_,rfl,rfl, .of B7,Zo (j:=1),rb,_,_,_,rfl,rfl, .of g3,au (du hl),?_⟩;refine⟨_,rfl,x,aA,dx,_,_,rfl,TR.ob,Rc.cl,Rc.jx,gS o p e b,_,rfl,cr,_,_,_,rfl,rfl, .of JH,Zo (j:=0),b,_,_,_,rfl,rfl, .of TR.hb,au h2,_,rfl,cr,_,_,_,rfl,rfl, .of JH,Zo (j:=1),ra,_,_,_,rfl,rfl, .of h3,au (du (show j<m+1 by lia)),?_⟩;have JI:∀a c:Option Int,decide (bG a=bG c)=decide (a=c):=fun a c=>by cases a<;>cases c<;>simp[bG]
  refine⟨by cases dH f1 o p k l<;>cases Bq f1 o p i j<;>rfl,?_⟩;rw[JI];exact q
theorem bu:aL ["self","crossing","i","j","brought","found"] ["self","crossing"] (ar cV):=⟨rfl,rfl,rfl,by decide+kernel,rfl,by decide+kernel,by decide+kernel⟩
include T kU Rc in
theorem je{f:Addr}{fd:FuncData}(F:iA K "crossings_before" "Trails.crossings_before" cV f fd):a8 P w K mg base (c7 P w) true 2 f fd ["self","crossing"] (tJ aA):=by
 refine F.gO bu Η (fun bU A outer s H vs Q E hr h hX=>?_)
 ·obtain⟨x,dx,e,b,es,bs,f,o,p,n,m,cr,i,j,rfl,_⟩:=h;rfl
 ·obtain⟨x,dx,e,b,es,bs,f1,o,p,n,m,cr,i,j,rfl,TR,JH,hi,hj,q⟩:=h;refine⟨_,(Z1 (ZH (2) bu.nd (δ (bV K) (pv 1) af)) (Z1 (ZH (3) bu.nd (δ (bV K) (pv 1) af)) (Z1 (ZH (4) bu.nd (ZL (ZL (ZP K) (pv 2)) (pv 3))) (Z1 (ZH (5) bu.nd (@bN _ _ _ _ ai)) (Z1 (Ξ (Z9 jr (ZK kU aR (ZN (ZL (ZL (ZP K) (ZQ cA (pv 2) af)) (pv 3)) (ZJ (ZP K)))) (pv 4) (aV _)) (ZX (Ο (ZR K PySem.F.slot_list_append PySem.F.type_list_append bS (pv 5) (ZJ (@d6 _ _ _ _ _ (ξ (ZQ cA (pv 2) af))))))) aQ) (Z1 (Ξ (Z9 jr (ZK kU aR (ZN (ZL (ZL (ZP K) (pv 2)) (ZQ cA (pv 3) af)) (ZJ (ZP K)))) (pv 4) (aV _)) (ZX (Ο (ZR K PySem.F.slot_list_append PySem.F.type_list_append bS (pv 5) (ZJ (@d6 _ _ _ _ _ (ZN (pv 2) (ZJ (ZQ cA (pv 3) af)))))))) aQ) (ZX (Θ (pv 5))))))))),?_⟩;have JI:∀a c:Option Int,decide (bG a=bG c)=decide (a=c):=fun a c=>by cases a<;>cases c<;>simp[bG]
  obtain⟨ra,h1,h2,h3⟩:=TR.tb.at (show i<n+1 by lia);obtain⟨rb,g1,g2,g3⟩:=TR.tb.at (show i+1<n+1 by lia);refine⟨fun σ H1=>σ=[sR x,sR cr,sI (((i+1:Nat):Int)),none,none,none]∧H1=H,⟨_,rfl,cr,_,_,_,rfl,rfl, .of JH,Zo (j:=0),rfl,rfl⟩,?_⟩;rintro σ H ⟨rfl,rfl⟩;refine⟨fun σ H1=>σ=[sR x,sR cr,sI (((i+1:Nat):Int)),sI (((j+1:Nat):Int)),none,none]∧H1=H,⟨_,rfl,cr,_,_,_,rfl,rfl, .of JH,Zo (j:=1),rfl,rfl⟩,?_⟩;rintro σ H ⟨rfl,rfl⟩;refine⟨fun σ H1=>σ=[sR x,sR cr,sI (((i+1:Nat):Int)),sI (((j+1:Nat):Int)),some (bG (Bq f1 o p (i+1) (j+1))),none]∧H1=H,⟨_,rfl,x,aA,dx,_,_,rfl,TR.ob,Rc.cl,Rc.jx,gS o p e b,_,rfl,b,_,_,_,rfl,rfl, .of TR.hb,au g2,_,rfl,rb,_,_,_,rfl,rfl, .of g3,au (du (show j+1<m+1 by lia)),rfl,rfl⟩,?_⟩;rintro σ H ⟨rfl,rfl⟩;refine⟨fun σ H1=>∃r,σ=[sR x,sR cr,sI (((i+1:Nat):Int)),sI (((j+1:Nat):Int)),some (bG (Bq f1 o p (i+1) (j+1))),sR r]∧ax H H1∧H r=none∧H1 r=some (.lst []),⟨aF ZA,fun r hr=>⟨r,rfl,ax.upd hr,hr,ae⟩⟩,?_⟩;rintro σ H1 ⟨r,rfl,s1,rE,GC⟩;refine⟨fun σ H2=>∃us,σ=[sR x,sR cr,sI (((i+1:Nat):Int)),sI (((j+1:Nat):Int)),some (bG (Bq f1 o p (i+1) (j+1))),sR r]∧ax H H2∧H2 r=some (.lst us)∧gM H2 us (if bE (Bq f1 o p i (j+1)) o=Bq f1 o p (i+1) (j+1)then[((i:Int),((j+1:Nat):Int))]else[]),?_,?_⟩
  ·have T1:=TR.keep s1;have ea:rO (bs.map V.ref) (((i+1:Nat):Int)-1)=some (.ref ra):=by
    rw[show((i+1:Nat):Int)-1=(i:Int) by lia];exact au h2
   refine⟨_,rfl,x,aA,dx,_,_,rfl,T1.ob,Rc.cl,Rc.jx,gS o p e b,_,rfl,_,_,rfl,rfl,b,_,_,_,rfl,rfl, .of T1.hb,ea,_,rfl,ra,_,_,_,rfl,rfl, .of (s1 _ _ h3),au (du (show j+1<m+1 by lia)),?_⟩;refine⟨_,rfl,x,aA,dx,_,_,rfl,T1.ob,Rc.cl,Rc.out,Jn o p e b,Bq f1 o p i (j+1),o,rfl,?_⟩;refine⟨_,rfl,by cases bE (Bq f1 o p i (j+1)) o<;>cases Bq f1 o p (i+1) (j+1)<;>rfl,_,rfl,?_⟩;rw[JI];refine bg (fun hh=>?_) (fun hh=>?_)
   ·have hh:bE (Bq f1 o p i (j+1)) o=Bq f1 o p (i+1) (j+1):=of_decide_eq_true hh;rw[Z7 hh];refine⟨_,rfl, .inl ⟨rfl,_, .of GC⟩,_,rfl,_,_,rfl,rfl,_,rfl,aF ZA,fun t ht=>?_⟩;refine⟨r,_,_,rfl,rfl,ax.upd ht _ _ GC,aZ ZA,_,rfl,(s1.trans (ax.upd ht)).dU rE,ae,rfl,fun k f hf=>?_⟩;have hk:k=0:=by
     have:=(ZO hf).1;simp at this
     lia
    subst hk;have hf:((i:Int),((j+1:Nat):Int))=f:=by simpa using hf
    subst hf;refine⟨t,rfl,?_⟩;rw[aj (fun z=>by subst z;rw[GC]at ht;cases ht),ae];rw[show((i+1:Nat):Int)-1=(i:Int) by lia];rfl
   ·have hh:¬bE (Bq f1 o p i (j+1)) o=Bq f1 o p (i+1) (j+1):=by simpa using hh
    rw[Z5 hh];exact⟨[],rfl,s1,GC, .nil⟩
  rintro σ H2 ⟨us,rfl,s2,zL,P2⟩;have T2:=TR.keep s2;have aaB:us.length≤1:=by
   rw[P2.1];split<;>simp
  have eb:rO (dj (m+1) (Bq f1 o p (i+1))) (((j+1:Nat):Int)-1)=some (bG (Bq f1 o p (i+1) j)):=by
   rw[show((j+1:Nat):Int)-1=(j:Int) by lia];exact au (du (show j<m+1 by lia))
  refine⟨fun σ H3=>∃us,σ=[sR x,sR cr,sI (((i+1:Nat):Int)),sI (((j+1:Nat):Int)),some (bG (Bq f1 o p (i+1) (j+1))),sR r]∧ax H H3∧H3 r=some (.lst us)∧gM H3 us (bA f1 o p i j),?_,?_⟩
  ·refine⟨_,rfl,x,aA,dx,_,_,rfl,T2.ob,Rc.cl,Rc.jx,gS o p e b,_,rfl,b,_,_,_,rfl,rfl, .of T2.hb,au g2,_,rfl,_,_,rfl,rfl,rb,_,_,_,rfl,rfl, .of (s2 _ _ g3),eb,?_⟩;refine⟨_,rfl,x,aA,dx,_,_,rfl,T2.ob,Rc.cl,Rc.into,E2 o p e b,Bq f1 o p (i+1) j,p,rfl,?_⟩;refine⟨_,rfl,by cases bE (Bq f1 o p (i+1) j) p<;>cases Bq f1 o p (i+1) (j+1)<;>rfl,_,rfl,?_⟩;rw[JI];refine bg (fun hh=>?_) (fun hh=>?_)
   ·have hh:bE (Bq f1 o p (i+1) j) p=Bq f1 o p (i+1) (j+1):=of_decide_eq_true hh;refine⟨_,rfl, .inl ⟨rfl,_, .of zL⟩,_,rfl,_,rfl,_,_,rfl,rfl,aF ZA,fun t ht=>?_⟩;have s3:=ax.upd (o:= .tup [.int ((i+1:Nat):Int), .int (((j+1:Nat):Int)-1)]) ht;have Vs:t≠r:=fun z=>by subst z;rw[zL]at ht;cases ht
    refine⟨r,_,_,rfl,rfl,s3 _ _ zL,aZ UQ,_,rfl,(s2.trans s3).dU rE,ae,?_⟩;unfold bA;rw[Z7 hh];refine((P2.same s3).append ⟨rfl,fun k f hf=>?_⟩).cz fun a ys ha=>?_
    ·have hk:k=0:=by
      have:=(ZO hf).1;simp at this
      lia
     subst hk;have hf:(((i+1:Nat):Int),(j:Int))=f:=by simpa using hf
     subst hf;refine⟨t,rfl,?_⟩;rw[ae,show((j+1:Nat):Int)-1=(j:Int) by lia];rfl
    ·have eX:a≠r:=fun z=>by subst z;rw[s3 _ _ zL]at ha;cases ha
     rw[aj eX];exact ha
   ·have hh:¬bE (Bq f1 o p (i+1) j) p=Bq f1 o p (i+1) (j+1):=by simpa using hh
    refine⟨us,rfl,s2,zL,?_⟩;unfold bA;rw[Z5 hh,List.append_nil];exact P2
  rintro σ H3 ⟨us,rfl,s3,xt,P3⟩;exact⟨_,rfl,q H3 r us s3 rE xt P3⟩
variable(bj:eK P w K mg base true 1 aA "is_brought_by" ["self","crossing","pair"] (AA aA))
variable(aY:eK P w K mg base true 2 aA "crossings_before" ["self","crossing"] (tJ aA))
theorem bX:aL ["self","pair","crossing","ahead"] ["self","pair"] (ar e_):=⟨rfl,rfl,rfl,by decide+kernel,rfl,by decide+kernel,by decide+kernel⟩
include T Rc bj aY in
theorem lB{f:Addr}{fd:FuncData}(F:iA K "pair_before" "Trails.pair_before" e_ f fd):a8 P w K mg base (c7 P w) true 3 f fd ["self","pair"] (xg aA):=by
 refine F.gO bX Η (fun bU A outer s H vs Q E hr h hX=>?_)
 ·obtain⟨x,dx,e,b,es,bs,f,o,p,n,m,pr,i,j,rfl,_⟩:=h;rfl
 ·obtain⟨x,dx,e,b,es,bs,f1,o,p,n,m,pr,i,j,rfl,TR,B7,hi,hj,hB,q⟩:=h;refine⟨_,(ZV (ZH (2) bX.nd Β) (ZV (ZH (3) bX.nd (@d6 _ _ _ _ _ (ZN (ZQ cA (δ (bV K) (pv 2) af) af) (ZJ (ZQ cA (δ (bV K) (pv 2) af) af))))) (ZV (@sN _ _ _ _ _ _ hX.own (@cO _ _ _ _ (Χ (ZT Γ bj aR (ξ (pv 2))))) (ZV (ZH (2) bX.nd (ZL (ZT Γ aY aR (ZJ (pv 2))) af)) (ZX (ZH (3) bX.nd (@d6 _ _ _ _ _ (ZN (ZQ cA (δ (bV K) (pv 2) af) af) (ZJ (ZQ cA (δ (bV K) (pv 2) af) af)))))))) (ZX (Θ (pv 3)))))),?_⟩;obtain⟨i,rfl⟩:∃i',i=i'+1:=by
   cases i with
   |zero=>exact Zn (iI f1 o p j) hB
   |succ i=>exact⟨i,rfl⟩
  obtain⟨j,rfl⟩:∃j',j=j'+1:=by
   cases j with
   |zero=>exact Zn (by unfold Bq;rfl) hB
   |succ j=>exact⟨j,rfl⟩
  refine⟨_,rfl,_,rfl,pr,_,_,_,rfl,rfl, .of B7,Zo (j:=0),_,_,rfl,rfl,_,rfl,pr,_,_,_,rfl,rfl, .of B7,Zo (j:=1),_,_,rfl,rfl,aF ZA,fun t ht=>?_⟩;refine⟨fun mm σ H1=>∃(cr ah:Addr)(i2 j2:Nat),mm=i2+j2∧σ=[sR x,sR pr,sR cr,sR ah]∧ax H H1∧H1 cr=some (.tup [.int ((i2+1:Nat):Int), .int ((j2+1:Nat):Int)])∧H1 ah=some (.tup [.int i2, .int j2])∧i2<n∧j2<m∧Bq f1 o p (i2+1) (j2+1)≠none∧cN f1 o p (i2+1) (j2+1)=cN f1 o p (i+1) (j+1),⟨i+j,pr,t,i,j,rfl,rfl,ax.upd ht,ax.upd ht _ _ B7,?_,by lia,by lia,hB,rfl⟩,?_⟩
  ·rw[ae,show((i+1:Nat):Int)-1=(i:Int) by lia,show((j+1:Nat):Int)-1=(j:Int) by lia]
  rintro mm σ H1 ⟨cr,ah,i2,j2,rfl,rfl,s1,JH,Vt,Gv,S8,MN,Vu⟩;have T1:=TR.keep s1;refine⟨_,rfl,x,dx,_,rfl,T1.ob,Jx o p e b,_,rfl,_,rfl,x,dx,e,b,es,bs,f1,o,p,n,m,cr,ah,i2+1,j2+1,i2,j2,rfl,T1,JH,Vt,by lia,by lia,Gv,S8,?_⟩;refine⟨_,rfl,?_⟩;by_cases hE:dH f1 o p i2 j2=Bq f1 o p (i2+1) (j2+1)
  ·rw[decide_eq_true hE];refine f_ ?_;refine⟨_,rfl,q H1 ah s1 ?_⟩;have:cN f1 o p (i2+1) (j2+1)=(i2,j2):=by unfold cN;rw[Z7 hE]
   rw[←Vu,this];exact Vt
  ·rw[decide_eq_false hE];refine jS ?_;refine⟨_,fun bq H' z=>z,?_⟩;obtain⟨i3,j3,c0,c1,c2,c3,c4,c5⟩:=y4 MN hE;refine⟨_,rfl,x,dx,_,rfl,T1.ob,BR o p e b,_,rfl,x,dx,e,b,es,bs,f1,o,p,n,m,cr,i2,j2,rfl,T1,JH,Gv,S8,fun H2 r us s2 rE zL P2=>?_⟩;obtain⟨t2,k1,k2⟩:=P2.2 0 _ c0;refine⟨r,_,_,_,rfl,rfl, .of zL,au (j:=0) k1,?_⟩;refine⟨_,rfl,t2,_,_,_,rfl,rfl, .of k2,Zo (j:=0),_,_,rfl,rfl,_,rfl,t2,_,_,_,rfl,rfl, .of k2,Zo (j:=1),_,_,rfl,rfl,aF ZA,fun t3 Vv=>?_⟩;refine⟨i3+j3,by lia,t2,t3,i3,j3,rfl,rfl,s1.trans (s2.trans (ax.upd Vv)),ax.upd Vv _ _ k2,?_,by lia,by lia,c4,by rw[c5,Vu]⟩;rw[ae];show some (HO.tup [.int (((i3+1:Nat):Int)-1), .int (((j3+1:Nat):Int)-1)])=_;rw[show((i3+1:Nat):Int)-1=(i3:Int) by lia,show((j3+1:Nat):Int)-1=(j3:Int) by lia]
variable(cf:eK P w K mg base true 1 aA "goes_on" ["self","pair"] (xf aA))
variable(dA:eK P w K mg base true 3 aA "pair_before" ["self","pair"] (xg aA))
theorem kj:aL ["self","pair","way"] ["self","pair"] (ar iB):=⟨rfl,rfl,rfl,by decide+kernel,rfl,by decide+kernel,by decide+kernel⟩
include T Rc cf dA in
theorem qL{f:Addr}{fd:FuncData}(F:iA K "way_to" "Trails.way_to" iB f fd):a8 P w K mg base (c7 P w) true 4 f fd ["self","pair"] (AB aA):=by
 refine F.gO kj Η (fun bU A outer s H vs Q E hr h hX=>?_)
 ·obtain⟨x,dx,e,b,es,bs,f,o,p,n,m,pr,i,j,rfl,_⟩:=h;rfl
 ·obtain⟨x,dx,e,b,es,bs,f1,o,p,n,m,pr,i,j,rfl,TR,B7,hi,hj,hn,q⟩:=h;refine⟨_,(ZV (ZH (2) kj.nd (@bN _ _ _ _ (ZJ Β))) (ZV (@sN _ _ _ _ _ _ hX.own (Χ (ZT Γ cf aR (ZJ (ZL (pv 2) (@rl _ _ _ _ _ _ lI af))))) (ZX (Ο (ZR K PySem.F.slot_list_append PySem.F.type_list_append bS (pv 2) (ZJ (ZT Γ dA aR (ZJ (ZL (pv 2) (@rl _ _ _ _ _ _ lI af))))))))) (ZV (Ο (@Hu _ K _ _ _ _ _ _ _ _ PySem.F.plainAttrs_list PySem.F.slot_list_reverse PySem.F.type_list_reverse Aa (pv 2) (Α) (Α) (Α))) (ZX (Θ (pv 2)))))),?_⟩;refine⟨_,rfl,aF ZA,fun w hw=>?_⟩;refine⟨fun mm σ H1=>∃(us:List V)(A:List (Nat×Nat))(i2 j2:Nat),mm=i2∧σ=[sR x,sR pr,sR w]∧ax H H1∧H1 w=some (.lst us)∧gM H1 us ((A++[(i2,j2)]).map aP)∧i2<n∧j2<m∧A.length+i2≤i∧eL f1 o p i i j=eL f1 o p i2 i2 j2++A.reverse,⟨i,_,[],i,j,rfl,rfl,ax.upd hw,ae,⟨rfl,fun k g hg=>?_⟩,hi,hj,ZF,ZF⟩,?_⟩
  ·have hk:k=0:=by
    have:=(ZO hg).1;simp at this
    lia
   subst hk;have hg:aP (i,j)=g:=by simpa using hg
   subst hg;exact⟨pr,rfl,ax.upd hw _ _ B7⟩
  rintro i2 σ H1 ⟨us,A,_,j2,rfl,rfl,s1,rX,P1,Gv,S8,hA,Ir⟩;have T1:=TR.keep s1;obtain⟨t,yh,uA⟩:=P1.last ZA;rw[List.map_append,List.map_singleton,nG]at uA;have hlen:us.length≤1001:=by have:=P1.1;simp at this;lia
  refine⟨_,rfl,x,dx,_,rfl,T1.ob,FA o p e b,_,rfl,_,rfl,w,_,_,_,rfl,rfl, .of rX,yh,x,dx,e,b,es,bs,f1,o,p,n,m,t,i2,j2,rfl,T1,uA,by lia,by lia,?_⟩;refine⟨_,rfl,?_⟩;refine bg (fun hh=>?_) (fun hh=>?_)
  ·obtain⟨c1,c2,c3⟩:=kc hh;have hl:=(kI f1 o p i2 j2 c1 c2).resolve_right c3;refine⟨_,fun bq H' z=>z,?_⟩;refine⟨_,rfl, .inl ⟨rfl,_, .of rX⟩,_,rfl,x,dx,_,rfl,T1.ob,LJ o p e b,_,rfl,_,rfl,w,_,_,_,rfl,rfl, .of rX,yh,x,dx,e,b,es,bs,f1,o,p,n,m,t,i2,j2,rfl,T1,uA,by lia,by lia,c3,fun H2 r s2 hr=>?_⟩;have aaD:r≠w:=fun z=>by subst z;rw[s2 _ _ rX]at hr;cases hr
   refine⟨w,_,_,rfl,rfl,s2 _ _ rX,aZ UQ,(cN f1 o p i2 j2).1,hl.1,us++[.ref r],A++[(i2,j2)],_,(cN f1 o p i2 j2).2,rfl,rfl,(s1.trans s2).dU hw,ae,?_,by lia,by lia,by simp;lia,?_⟩
   ·rw[List.map_append];refine((P1.same s2).append ⟨rfl,fun k g hg=>?_⟩).cz fun a ys ha=>?_
    ·have hk:k=0:=by
      have:=(ZO hg).1;simp at this
      lia
     subst hk;have hg:aP ((cN f1 o p i2 j2).1,(cN f1 o p i2 j2).2)=g:=by simpa using hg
     subst hg;exact⟨r,rfl,hr⟩
    ·have eX:a≠w:=fun z=>by subst z;rw[s2 _ _ rX]at ha;cases ha
     rw[aj eX];exact ha
   ·rw[Ir,vQ hh];simp
  ·have hh:¬gQ (Bq f1 o p i2 j2)=true:=hh;refine⟨_,rfl, .inl ⟨rfl,_, .of rX⟩,w,us,rfl,rfl,rX,?_⟩;refine⟨_,rfl,q _ w us.reverse (s1.dU hw) hw ae ?_⟩;have e:eL f1 o p i i j=(A++[(i2,j2)]).reverse:=by
    rw[Ir,gT hh];simp
   rw[e,List.map_reverse];refine⟨by rw[List.length_reverse,List.length_reverse,P1.1],fun k g hg=>?_⟩;have hk:=(ZO hg).1;rw[List.length_reverse]at hk;have hl:=P1.1;rw[List.getElem?_reverse hk]at hg;obtain⟨t3,k1,k2⟩:=P1.2 _ _ hg;refine⟨t3,by rw[List.getElem?_reverse UQ,hl];exact k1,?_⟩;have eX:t3≠w:=fun z=>by subst z;rw[rX]at k2;cases k2
   rw[aj eX];exact k2
variable(Fc:Jy K ay)
theorem mT:aL ["self","worth","way","row","pairs"] ["self","worth","way","row","pairs"] (ar fV):=⟨rfl,rfl,rfl,by decide+kernel,rfl,by decide+kernel,by decide+kernel⟩
include T Fc in
theorem mU{f:Addr}{fd:FuncData}(F:iA K "__init__" "Finding.__init__" fV f fd):a8 P w K mg base (c7 P w) true 1 f fd ["self","worth","way","row","pairs"] (tK ay):=by
 refine F.gO mT Η (fun bU A outer s H vs Q E hr h hX=>?_)
 ·obtain⟨x,dx,a,r,p,w,rfl,_⟩:=h;rfl
 ·obtain⟨x,dx,a,r,p,w,rfl,hx,q⟩:=h;refine⟨_,(ZV (Z_ K Γ (pv 1)) (ZV (Z_ K Γ (pv 2)) (ZV (Z_ K Γ (pv 3)) (ZX (Z_ K Γ (pv 4)))))),?_⟩;have a1:=aW "worth" (.int w) [];have a2:=aW "way" (.ref a) (bx "worth" (.int w) []);have a3:=aW "row" (.ref r) (bx "way" (.ref a) (bx "worth" (.int w) []));simp only[List.length_nil]at a1;refine⟨_,rfl,_,rfl,x,ay,dx,_,rfl,hx,Fc.cl,Fc.worth,ZD,?_⟩;refine⟨_,rfl,_,rfl,x,ay,dx,_,rfl,ae,Fc.cl,Fc.way,by lia,?_⟩;refine⟨_,rfl,_,rfl,x,ay,dx,_,rfl,ae,Fc.cl,Fc.row,by lia,?_⟩;refine⟨_,rfl,_,rfl,x,ay,dx,_,rfl,ae,Fc.cl,Fc.pairs,by lia,?_⟩;rw[gf,gf,gf,LK];exact q
theorem zj:aL ["finding"] ["finding"] (ar nM):=⟨rfl,rfl,rfl,by decide+kernel,rfl,by decide+kernel,by decide+kernel⟩
include T Fc in
theorem zk{f:Addr}{fd:FuncData}(F:jt K "order_of" "order_of" nM f fd):a8 P w K mg base (c7 P w) true 1 f fd ["finding"] (tL ay):=by
 refine F.gO zj Η (fun bU A outer s H vs Q E hr h hX=>?_)
 ·obtain⟨x,dx,a,r,p,w,us,ps,rfl,_⟩:=h;rfl
 ·obtain⟨x,dx,a,r,p,w,us,ps,rfl,hx,hp,PS,eX,q⟩:=h;refine⟨_,(ZX (Θ (@d6 _ _ _ _ _ (ZN (@rl _ _ _ _ _ _ lI (ZP K)) (ZJ (ZL (ZP K) af)))))),?_⟩;obtain⟨t,h1,h2⟩:=PS.first eX;refine⟨_,rfl,x,ay,dx,_,_,rfl,hx,Fc.cl,Fc.worth,ja w a r p,_,rfl,_,rfl,x,ay,dx,_,_,rfl,hx,Fc.cl,Fc.pairs,ip w a r p,p,_,_,_,rfl,rfl, .of hp,h1,aF ZA,fun k hk=>?_⟩;exact q _ k t (ax.upd hk) ae (ax.upd hk _ _ h2)
variable(fR:eK P w K mg base true 4 aA "way_to" ["self","pair"] (AB aA))
variable(kW:m4 P w K mg base true 1 "Finding" ay ["self","worth","way","row","pairs"] [] (tK ay))
theorem fS:aL ["trails","worth","pairs","ends","way","row"] ["trails","worth","pairs"] (ar fe):=⟨rfl,rfl,rfl,by decide+kernel,rfl,by decide+kernel,by decide+kernel⟩
include T Rc fR kW in
theorem rY{f:Addr}{fd:FuncData}(F:jt K "make_finding" "make_finding" fe f fd):a8 P w K mg base (c7 P w) true 6 f fd ["trails","worth","pairs"] (AE aA ay):=by
 refine F.gO fS Η (fun bU A outer s H vs Q E hr h hX=>?_)
 ·obtain⟨x,dx,e,b,es,bs,f,o,p,n,m,w,pr,us,ps,q0,rfl,_⟩:=h;rfl
 ·obtain⟨x,dx,e,b,es,bs,f1,o,p,n,m,w,pr,us,ps,q0,rfl,TR,B7,PS,oj,h0,hn,DG,q⟩:=h;refine⟨_,(Z1 (@ju _ _ _ _ _ _ _ _ _ _ _ _ _ _ _ (3) _ _ (by exact rfl) fS.nd Ρ (by exact rfl) (show bh ["trails","worth","pairs","ends","way","row"] (ar fe) _ ["pair"] [0,1] ["trails","worth"]from⟨rfl,by decide+kernel,by decide+kernel,by decide+kernel,rfl,rfl,by decide+kernel,by decide+kernel,by decide+kernel⟩) (Ψ K (pv 2)) (fun _ _ _ _ _=>(ZI (0) (show(["pair","trails","worth"]:List Str).Nodup by decide+kernel))) (fun _ _ _ _ _=>(@Bn _ _ _ (Z9 jr (ZL (ZL (θ K Β) (δ (bV K) (pv 0) af)) (δ (bV K) (pv 0) af)) (pv 2) (aV _)))) (fun _ _ _ _ _=>(pv 0)) (Α) (by intro _;rfl)) (Z1 (ZH (4) fS.nd (ZT Γ fR aR (ZJ (ZL (pv 3) af)))) (Z1 (@ju _ _ _ _ _ _ _ _ _ _ _ _ _ _ _ (5) _ _ (by exact rfl) fS.nd Ρ (by exact rfl) (show bh ["trails","worth","pairs","ends","way","row"] (ar fe) _ ["i","j"] [0] ["trails"]from⟨rfl,by decide+kernel,by decide+kernel,by decide+kernel,rfl,rfl,by decide+kernel,by decide+kernel,by decide+kernel⟩) (Ψ K (pv 4)) (fun _ _ _ _ _=>(μ K (2) (by exact rfl) (Τ (ZI (0) (show(["i","j","trails"]:List Str).Nodup by decide+kernel)) (Τ (ZI (1) (show(["i","j","trails"]:List Str).Nodup by decide+kernel)) ft)))) (fun _ _ _ _ _=>fz) (fun _ _ _ _ _=>(ZL (ZL (θ K (pv 2)) (pv 0)) (pv 1))) (Α) (by intro _;rfl)) (ZX (Θ (@sr _ _ _ _ _ _ _ _ _ _ _ _ _ _ kW (hr.mono (ZD)) hX.pass (ZN Β (ZN (pv 4) (ZN (pv 5) (ZJ (pv 2))))) (Α) (ZD) (Α) (Α))))))),?_⟩;have Iu:us.length=ps.length:=by have:=PS.1;simpa using this
  refine⟨fun σ H1=>∃D vs,σ=[sR x,sI w,sR pr,sR D,none,none]∧ax H H1∧H1 D=some (.lst vs)∧gM H1 vs ((ps.filter fun q=>decide (dH f1 o p q.1 q.2=some w)).map aP),?_,?_⟩
  ·refine⟨_,rfl,pr,rfl,⟨_, .of B7⟩,fun D hD=>?_⟩;refine fA (xs:=us) (fun k ys bq H'=>(∃u,bq=[u,sR x,sI w])∧gM H ys (((ps.take k).filter fun q=>decide (dH f1 o p q.1 q.2=some w)).map aP)∧H' D=some (.lst ys)∧ax H H'∧ys.length≤k) ⟨⟨_,rfl⟩, .nil,ae,ax.upd hD,ZF⟩ ?_ ?_ ?_
   ·rintro k ys bq H' _ ⟨_,_,_,s1,_⟩;exact .of (s1 _ _ B7)
   ·rintro k v ys bq H' hv ⟨⟨u,rfl⟩,P1,rW,s1,lh⟩;have hk:k<ps.length:=by rw[←Iu];exact(ZO hv).1
    have ek:ps[k]?=some ps[k]:=by simp[hk]
    have hm:=oj ps[k] (List.getElem_mem hk);generalize ps[k]=g at ek hm;obtain⟨t,k1,k2⟩:=PS.2 k (aP g) (by rw[List.getElem?_map,ek];rfl);rw[hv]at k1;cases k1;have T1:=TR.keep s1;have kt:=s1 _ _ k2;obtain⟨rb,g1,g2,g3⟩:=T1.te.at hm.1;have et:ps.take (k+1)=ps.take k++[g]:=by rw[List.take_succ,ek];rfl
    refine⟨_,rfl,x,aA,dx,_,_,rfl,T1.ob,Rc.cl,Rc.kH,il o p e b,_,rfl,t,_,_,_,rfl,rfl, .of kt,Zo (j:=0),e,_,_,_,rfl,rfl, .of T1.he,au g2,_,rfl,t,_,_,_,rfl,rfl, .of kt,Zo (j:=1),rb,_,_,_,rfl,rfl, .of g3,au (du hm.2),?_⟩;have JI:decide (bG (dH f1 o p g.1 g.2)=V.int w)=decide (dH f1 o p g.1 g.2=some w):=by cases dH f1 o p g.1 g.2<;>simp[bG]
    refine⟨_,rfl,by cases dH f1 o p g.1 g.2<;>rfl,_,rfl,?_⟩;rw[JI];refine bg (fun hh=>?_) (fun hh=>?_)
    ·refine⟨_,rfl,rW,aZ UQ,⟨_,rfl⟩,?_,ae,s1.dU hD,by simp;lia⟩;rw[et,List.filter_append,List.map_append];refine P1.append ?_;rw[show[g].filter (fun q=>decide (dH f1 o p q.1 q.2=some w))=[g] by rw[List.filter_cons,Z7 hh];rfl];exact⟨rfl,fun k3 g3 QB=>by
      have X6:k3=0:=by
       have:=(ZO QB).1;simp at this
       lia
      subst X6;have QB:aP g=g3:=by simpa using QB
      subst QB;exact⟨t,rfl,k2⟩⟩
    ·have hh:decide (dH f1 o p g.1 g.2=some w)=false:=by simpa using hh
     refine⟨⟨_,rfl⟩,?_,rW,s1,by lia⟩;rw[et,List.filter_append,show[g].filter (fun q=>decide (dH f1 o p q.1 q.2=some w))=[] by rw[List.filter_cons,hh];rfl,List.append_nil];exact P1
   ·rintro ys bq H' ⟨_,P1,rW,s1,_⟩;rw[Iu,List.take_length]at P1;exact⟨D,ys,rfl,s1,rW,P1.same s1⟩
  rintro σ H1 ⟨D,vs,rfl,s1,rW,P1⟩;obtain⟨t0,k1,k2⟩:=P1.2 0 (aP q0) (by rw[List.getElem?_map,h0];rfl);have Iv:q0.1<n∧q0.2<m:=oj q0 (List.mem_filter.mp (Z0 h0)).1;refine⟨fun σ H2=>∃wy iy,σ=[sR x,sI w,sR pr,sR D,sR wy,none]∧ax H1 H2∧H1 wy=none∧H2 wy=some (.lst iy)∧gM H2 iy ((eL f1 o p q0.1 q0.1 q0.2).map aP),?_,?_⟩
  ·have T1:=TR.keep s1;exact⟨_,rfl,x,dx,_,rfl,T1.ob,OF o p e b,_,rfl,D,_,_,_,rfl,rfl, .of rW,au (j:=0) k1,x,dx,e,b,es,bs,f1,o,p,n,m,t0,q0.1,q0.2,rfl,T1,k2,Iv.1,Iv.2,hn,fun H2 wy iy s2 h2 h3 P2=>⟨wy,iy,rfl,s2,h2,h3,P2⟩⟩
  rintro σ H2 ⟨wy,iy,rfl,s2,S9,DS,P2⟩;have AR:=P2.1;rw[List.length_map]at AR;have NQ:(eL f1 o p q0.1 q0.1 q0.2).length≤1001:=by
   have:=y6 (f:=f1) (o:=o) (p:=p) q0.1 q0.1 q0.2
   lia
  have O5:=BS (f:=f1) (o:=o) (p:=p) q0.1 q0.1 q0.2 Iv.1 Iv.2;generalize eL f1 o p q0.1 q0.1 q0.2=W at P2 AR NQ O5 q;refine⟨fun σ H3=>∃r,σ=[sR x,sI w,sR pr,sR D,sR wy,sR r]∧ax H2 H3∧H2 r=none∧H3 r=some (.lst (W.map fun q=>bG (dH f1 o p q.1 q.2))),?_,?_⟩
  ·refine⟨_,rfl,wy,rfl,⟨_, .of DS⟩,fun D2 lA=>?_⟩;refine fA (xs:=iy) (fun k ys bq H'=>(∃u v,bq=[u,v,sR x])∧ys=(W.take k).map (fun q=>bG (dH f1 o p q.1 q.2))∧H' D2=some (.lst ys)∧ax H2 H') ⟨⟨_,_,rfl⟩,rfl,ae,ax.upd lA⟩ ?_ ?_ ?_
   ·rintro k ys bq H' _ ⟨_,_,_,s3⟩;exact .of (s3 _ _ DS)
   ·rintro k v ys bq H' hv ⟨⟨u,v2,rfl⟩,rfl,Dn,s3⟩;have hk:k<W.length:=by rw[←AR];exact(ZO hv).1
    have ek:W[k]?=some W[k]:=by simp[hk]
    have hm:=O5 W[k] (List.getElem_mem hk);generalize W[k]=g at ek hm;obtain⟨t,k1,k2⟩:=P2.2 k (aP g) (by rw[List.getElem?_map,ek];rfl);rw[hv]at k1;cases k1;have T3:=TR.keep (s1.trans (s2.trans s3));have kt:=s3 _ _ k2;obtain⟨rb,g1,g2,g3⟩:=T3.te.at hm.1;refine⟨t,_,rfl, .of kt,rfl,_,_,rfl,_,_,rfl,rfl,?_⟩;refine oM ?_;refine⟨_,rfl,x,aA,dx,_,_,rfl,T3.ob,Rc.cl,Rc.kH,il o p e b,_,rfl,e,_,_,_,rfl,rfl, .of T3.he,au g2,_,rfl,rb,_,_,_,rfl,rfl, .of g3,au (du hm.2),?_⟩;refine⟨Dn,aZ (by rw[List.length_map,List.length_take];lia),⟨_,_,rfl⟩,?_,ae,s3.dU lA⟩;rw[List.take_succ,ek];simp
   ·rintro ys bq H' ⟨_,rfl,Dn,s3⟩;rw[AR,List.take_length]at Dn;exact⟨D2,rfl,s3,lA,Dn⟩
  rintro σ H3 ⟨r,rfl,s3,rE,xt⟩;refine⟨_,rfl,_,rfl,_,rfl,_,rfl,fun y dy hy L4 eX=>?_⟩;have s4:ax H3 (upd (upd H3 dy (.own y)) y (.ins ay dy [])):=(ax.upd L4).dU hy;refine⟨y,dy,wy,r,pr,w,rfl,ae,?_⟩;refine⟨rfl,?_⟩;rw[gf];have s5:ax H3 (upd (upd H3 dy (.own y)) y (.ins ay dy (m9 w wy r pr))):=(ax.upd L4).dU hy;have sH:=s1.trans (s2.trans s3);exact q _ y dy wy r iy (sH.trans s5) (sH.free hy) (sH.free L4) (s1.free S9) ((s1.trans s2).free rE) ae (by rw[aj eX];exact ae) (s5 _ _ (s3 _ _ DS)) (P2.same (s3.trans s5)) (s5 _ _ xt)
variable(Gc:OG K aI)
theorem nV:aL ["self"] ["self"] (ar gu):=⟨rfl,rfl,rfl,by decide+kernel,rfl,by decide+kernel,by decide+kernel⟩
include T Gc in
theorem nW{f:Addr}{fd:FuncData}(F:iA K "__init__" "Groups.__init__" gu f fd):a8 P w K mg base (c7 P w) true 1 f fd ["self"] (tM aI):=by
 refine F.gO nV Η (fun bU A outer s H vs Q E hr h hX=>?_)
 ·obtain⟨x,dx,rfl,_⟩:=h;rfl
 ·obtain⟨x,dx,rfl,hx,q⟩:=h;refine⟨_,(ZV (Z_ K Γ j9) (ZX (Z_ K Γ j9))),?_⟩;have a1:=aW "leads" (.ref 0) [];simp only[List.length_nil]at a1;refine fun dl QC=>?_
  have n1:x≠dl:=aE hx QC;refine⟨_,rfl,x,aI,dx,_,rfl,by rw[aj n1];exact hx,Gc.cl,Gc.oX,ZD,?_⟩;refine fun dm JJ=>?_
  have n2:x≠dm:=fun z=>by rw[z,ae]at JJ;cases JJ
  have Iw:upd H dl (.dT []) dm=none:=by rw[aj (Ne.symm n2)]at JJ;exact JJ
  have n3:dm≠dl:=fun z=>by rw[z,ae]at Iw;cases Iw
  have O6:H dm=none:=by rw[aj n3]at Iw;exact Iw
  refine⟨_,rfl,x,aI,dx,_,rfl,by rw[aj n2,ae],Gc.cl,Gc.members,by have:=aW "leads" (.ref dl) [];simp at this;lia,?_⟩;rw[OH];refine q _ (fun a=>a=dl∨a=dm) ?_ ?_ ?_
  ·exact fun b u hb e=>by
    rw[aj hb,aj (aE e O6),aj hb,aj (aE e QC)];exact e
  ·rintro a (rfl|rfl)
   ·exact QC
   ·exact O6
  ·refine⟨dx,dl,dm,[],[],fun _=>none,fun _=>none,ae,fun z=>z.elim n1 n2,⟨?_,?_, .inl rfl, .inr rfl,Ne.symm n3,fun p=>rfl,fun p=>rfl,fun p q a e=>(by cases e),fun kv h=>(by cases h), .nil,fun l ms e=>(by cases e),fun p l e=>(by cases e),fun l ms e=>(by cases e)⟩,fun a b=>⟨False.elim,fun⟨l,e,_⟩=>(by cases e)⟩,Nat.le_refl _,Nat.le_refl _⟩
   ·rw[aj (Ne.symm n1),aj (Ne.symm n3),aj (Ne.symm n1),ae]
   ·rw[aj (Ne.symm n2),ae]
theorem uJ:aL ["self","pair"] ["self","pair"] (ar iK):=⟨rfl,rfl,rfl,by decide+kernel,rfl,by decide+kernel,by decide+kernel⟩
include T Gc in
theorem uK{f:Addr}{fd:FuncData}(F:iA K "has" "Groups.has" iK f fd):a8 P w K mg base (c7 P w) true 1 f fd ["self","pair"] (AF aI):=by
 refine F.gO uJ Η (fun bU A outer s H vs Q E hr h hX=>?_)
 ·obtain⟨x,t,p,S,E1,B,rfl,_⟩:=h;rfl
 ·obtain⟨x,t,p,S,E1,B,rfl,G,ht,q⟩:=h;have hu:=hr.units;have hu:(A.deeper (PyProof.Rows.envOfC "Groups.has" (ar iK) s.heap.objs.size f bU)).units+1<cLine:=by lia
  refine⟨_,(ZX (Θ (@zO _ _ _ _ _ _ (@qk _ _ _ _ _ hu Β (ZP K)) (by first|exact br _ (ZD) (ZD)|rfl)))),?_⟩;obtain⟨dg,dl,dm,kl,km,ld,mm,hg,Gf,D,hE,QD,MN⟩:=G;refine⟨_,rfl,_,rfl,x,aI,dg,_,_,rfl,hg,Gc.cl,Gc.oX,jz dl dm,dl,_,rfl, .t (k:=bf p) D.hl ht,q _ ?_⟩;rw[hE];have:=D.lv p;cases e:ld p with
  |none=>
   rw[e]at this;have this:bC kl (bf p)=none:=this;rw[this];simp
  |some l=>
   rw[e]at this;obtain⟨t2,h1,_⟩:=this;rw[h1];simp
theorem pd:aL ["self","pair"] ["self","pair"] (ar fD):=⟨rfl,rfl,rfl,by decide+kernel,rfl,by decide+kernel,by decide+kernel⟩
include T Gc in
theorem pe{f:Addr}{fd:FuncData}(F:iA K "take_in" "Groups.take_in" fD f fd):a8 P w K mg base (c7 P w) true 1 f fd ["self","pair"] (xh aI):=by
 refine F.gO pd Η (fun bU A outer s H vs Q E hr h hX=>?_)
 ·obtain⟨x,t,p,S,E1,B,rfl,_⟩:=h;rfl
 ·obtain⟨x,t,p,S,E1,B,rfl,G,ht,hB,q⟩:=h;have hu:=hr.units;have hu:(A.deeper (PyProof.Rows.envOfC "Groups.take_in" (ar fD) s.heap.objs.size f bU)).units+1<cLine:=by lia
  refine⟨_,(ZX (Ξ (ZW (@vA _ _ _ _ _ hu Β (ZP K))) (ZV (@ky _ _ _ _ _ _ _ _ _ hu (ZP K) (pv 1) (pv 1) (by exact rfl)) (ZX (@ky _ _ _ _ _ _ _ _ _ hu (ZP K) (pv 1) (@bN _ _ _ _ (ZJ Β)) (by exact rfl)))) aQ)),?_⟩;obtain⟨dg,dl,dm,kl,km,ld,mm,hg,Gf,D,hE,QD,MN⟩:=id G;refine⟨_,rfl,_,rfl,x,aI,dg,_,_,rfl,hg,Gc.cl,Gc.oX,jz dl dm,dl,_,rfl, .t (k:=bf p) D.hl ht,_,rfl,?_⟩;have lv:=D.lv p;cases e:ld p with
  |some l=>
   rw[e]at lv;obtain⟨t2,h1,_⟩:=lv;rw[h1];refine f_ ?_;refine q H S (.same (.refl H)) (G.iff (fun a b=>?_) (by lia));unfold Jz;refine⟨fun z=>z.elim id ?_, .inl⟩;rintro⟨rfl,rfl⟩;rw[hE];exact⟨l,e,e⟩
  |none=>
   rw[e]at lv;have lv:bC kl (bf p)=none:=lv;rw[lv];refine jS ?_;have nx:x≠dl:=fun z=>Gf (z▸D.sl)
   have QE:x≠dm:=fun z=>Gf (z▸D.sm)
   have S_:t≠dl:=fun z=>by rw[z,D.hl]at ht;cases ht
   have Zp:t≠dm:=fun z=>by rw[z,D.hm]at ht;cases ht
   refine⟨_,rfl,_,rfl,x,aI,dg,_,_,rfl,hg,Gc.cl,Gc.oX,jz dl dm,_,rfl,dl,_,rfl, .t (k:=bf p) D.hl ht (aZ UQ),?_⟩;refine⟨_,rfl,aF ZA,fun a ha=>?_⟩;have na:a≠dl:=fun z=>by rw[z,ae]at ha;cases ha
   have DR:H a=none:=by rw[aj na]at ha;exact ha
   have OY:x≠a:=aE hg DR;have Vw:dm≠a:=aE D.hm DR;have X7:t≠a:=aE ht DR;refine⟨_,rfl,x,aI,dg,_,_,rfl,by rw[aj OY,aj nx];exact hg,Gc.cl,Gc.members,iW dl dm,_,rfl,dm,_,rfl, .t (k:=bf p) (by rw[aj Vw,aj (Ne.symm D.ne)];exact D.hm) (by rw[aj X7,aj S_];exact ht) (aZ UQ),?_⟩;refine q _ (fun y=>S y∨y=a) ⟨fun y hy=>hy.imp id (fun z=>by rw[z];exact DR),fun b o hb eb=>?_⟩ ?_
   ·rw[aj (fun z:b=dm=>hb (by rw[z];exact D.sm)),aj (aE eb DR),aj (fun z:b=dl=>hb (by rw[z];exact D.sl))];exact eb
   refine⟨dg,dl,dm,_,_,_,_,by rw[aj QE,aj OY,aj nx];exact hg,fun z=>z.elim Gf OY,D.take (t:=t) (a:=a) e ht DR ?_ ae ?_ ?_,fun a1 b1=>?_,?_,?_⟩
   ·rw[aj D.ne,aj (Ne.symm na),ae]
   ·rw[aj (Ne.symm Vw),ae]
   ·intro b o h1 h2 eb;rw[aj h2,aj (aE eb DR),aj h1];exact eb
   ·unfold Jz;rw[hE];constructor
    ·rintro(⟨l,h1,h2⟩|⟨z1,z2⟩)
     ·exact⟨l,by rw[Z5 (fun z=>by rw[z,e]at h1;cases h1)];exact h1,by rw[Z5 (fun z=>by rw[z,e]at h2;cases h2)];exact h2⟩
     ·exact⟨p,by rw[Z7 z1],by rw[Z7 z2]⟩
    ·rintro⟨l,h1,h2⟩;by_cases z1:a1=p
     ·by_cases z2:b1=p
      ·exact .inr ⟨z1,z2⟩
      ·rw[Z7 z1]at h1;rw[Z5 z2]at h2;cases h1;obtain⟨ms,DI⟩:=D.ml _ _ h2;have:=D.self _ _ DI;rw[e]at this;cases this
     ·rw[Z5 z1]at h1;by_cases z2:b1=p
      ·rw[Z7 z2]at h2;cases h2;obtain⟨ms,DI⟩:=D.ml _ _ h1;have:=D.self _ _ DI;rw[e]at this;cases this
      ·rw[Z5 z2]at h2;exact .inl ⟨l,h1,h2⟩
   ·exact Nat.le_trans (eZ _ _ _) (by lia)
   ·exact Nat.le_trans (eZ _ _ _) (by lia)
theorem cG:aL ["self","pair","other","lead","gone","moved","member"] ["self","pair","other"] (ar ff):=⟨rfl,rfl,rfl,by decide+kernel,rfl,by decide+kernel,by decide+kernel⟩
include T Gc in
theorem rZ{f:Addr}{fd:FuncData}(F:iA K "unite" "Groups.unite" ff f fd):a8 P w K mg base (c7 P w) true 1 f fd ["self","pair","other"] (tN aI):=by
 refine F.gO cG Η (fun bU A outer s H vs Q E hr h hX=>?_)
 ·obtain⟨x,t,u,p,q,S,E1,B,rfl,_⟩:=h;rfl
 ·obtain⟨x,t,u,p,q,S,E1,B,rfl,G,ht,Qr,hp,hq,hB,qq⟩:=h;have hu:=hr.units;have L5:(A.deeper (PyProof.Rows.envOfC "Groups.unite" (ar ff) s.heap.objs.size f bU)).units<cLine:=by lia
  have hu:(A.deeper (PyProof.Rows.envOfC "Groups.unite" (ar ff) s.heap.objs.size f bU)).units+1<cLine:=by lia
  refine⟨_,(Z1 (ZH (3) cG.nd (ρ hu Β (fun _ _=>rfl))) (Z1 (ZH (4) cG.nd (ρ hu (pv 2) (fun _ _=>rfl))) (ZX (Ξ (Z9 (Dd K L5) (pv 3) (pv 4) (aV _)) (Z1 (Ξ (Z9 m3 (ZM (aK K) T.c_ (ZJ (ρ hu (pv 3) (fun _ _=>rfl)))) (ZM (aK K) T.c_ (ZJ (ρ hu (pv 4) (fun _ _=>rfl)))) (aV _)) (Z1 (ZH (3) cG.nd (ρ hu (pv 2) (fun _ _=>rfl))) (ZX (ZH (4) cG.nd (ρ hu Β (fun _ _=>rfl))))) aQ) (Z1 (ZH (5) cG.nd (@E6 _ _ _ _ _ _ _ hu (ZP K) (pv 4) ⟨rfl,rfl,rfl,rfl⟩)) (Z1 (ZU hX.own (Ψ K (pv 5)) (ZI (6) cG.nd) (ZX (@ky _ _ _ _ _ _ _ _ _ hu (ZP K) (pv 6) (pv 3) (by exact rfl)))) (ZX (Ο (ZR K PySem.F.slot_list_extend PySem.F.type_list_extend vC (ρ hu (pv 3) (fun _ _=>rfl)) (ZJ (pv 5)))))))) aQ)))),?_⟩;obtain⟨dg,dl,dm,kl,km,ld,mm,hg,Gf,D,hE,QD,MN⟩:=id G;obtain⟨l,JK,_⟩:=(hE p p).mp hp;obtain⟨g,JL,_⟩:=(hE q q).mp hq;obtain⟨tl,vl,y9⟩:∃tl,bC kl (bf p)=some (.ref tl)∧H tl=some (.tup (jw l)):=by have:=D.lv p;rw[JK]at this;exact this
  obtain⟨tg,vg,MO⟩:∃tg,bC kl (bf q)=some (.ref tg)∧H tg=some (.tup (jw g)):=by have:=D.lv q;rw[JL]at this;exact this
  refine⟨fun σ H1=>H1=H∧σ=[sR x,sR t,sR u,sR tl,none,none,none],⟨_,rfl,x,aI,dg,_,_,rfl,hg,Gc.cl,Gc.oX,jz dl dm,_,rfl,dl,_,rfl,by have:=j8.t (k:=bf p) D.hl ht;rw[vl]at this;exact this,rfl,rfl⟩,?_⟩;rintro σ H1 ⟨rfl,rfl⟩;refine⟨fun σ H2=>H2=H1∧σ=[sR x,sR t,sR u,sR tl,sR tg,none,none],⟨_,rfl,x,aI,dg,_,_,rfl,hg,Gc.cl,Gc.oX,jz dl dm,_,rfl,dl,_,rfl,by have:=j8.t (k:=bf q) D.hl Qr;rw[vg]at this;exact this,rfl,rfl⟩,?_⟩;rintro σ H2 ⟨rfl,rfl⟩;refine⟨_,rfl,_,rfl,tl,tg,_,_,rfl,rfl, .of y9, .of MO,rfl,rfl,_,rfl,?_⟩;rw[w6];by_cases BY:l=g
  ·rw[decide_eq_true BY];refine f_ ?_;refine qq _ (.same (.refl _)) (G.iff (fun a b=>?_) (Nat.le_refl _));subst BY;unfold qD;rw[hE,hE,hE,hE,hE,JK,JL];constructor
   ·rintro(z|⟨z1,z2⟩)
    ·exact z
    ·have y1:ld a=some l:=by rcases z1 with⟨y,h1,h2⟩|⟨y,h1,h2⟩<;>(cases h2;exact h1)
     have y2:ld b=some l:=by rcases z2 with⟨y,h1,h2⟩|⟨y,h1,h2⟩<;>(cases h2;exact h1)
     exact⟨l,y1,y2⟩
   ·exact .inl
  rw[decide_eq_false BY];refine jS ?_;obtain⟨m1,DT⟩:=D.ml p l JK;obtain⟨m2,Iy⟩:=D.ml q g JL;obtain⟨al,lz,O7,B0,P1,_⟩:∃a us,bC km (bf l)=some (.ref a)∧H2 a=some (.lst us)∧gM H2 us m1∧S a:=by have:=D.mv l;rw[DT]at this;exact this
  obtain⟨ag,iy,QG,IA,P2,_⟩:∃a us,bC km (bf g)=some (.ref a)∧H2 a=some (.lst us)∧gM H2 us m2∧S a:=by have:=D.mv g;rw[Iy]at this;exact this
  have gl:∀{tt:Addr}{r:Pr},H2 tt=some (.tup (jw r))→j8 H2 dm (.ref tt) (bC km (bf r)):=fun h=>j8.t (k:=bf _) D.hm h
  have Vx:∀{tt:Addr}{r:Pr},H2 tt=some (.tup (jw r))→j8 H2 dl (.ref tt) (bC kl (bf r)):=fun h=>j8.t (k:=bf _) D.hl h
  refine⟨fun σ H3=>H3=H2∧∃l g tl tg p' q',σ=[sR x,sR t,sR u,sR tl,sR tg,none,none]∧l≠g∧H2 tl=some (.tup (jw l))∧H2 tg=some (.tup (jw g))∧ld p'=some l∧ld q'=some g∧∀a b,qD E1 p q a b↔qD E1 p' q' a b,?_,?_⟩
  ·refine⟨_,rfl,x,aI,dg,_,_,rfl,hg,Gc.cl,Gc.members,iW dl dm,_,rfl,dm,_,rfl,by have:=gl y9;rw[O7]at this;exact this,al,_,rfl, .inl (.of B0),?_⟩;refine⟨_,rfl,x,aI,dg,_,_,rfl,hg,Gc.cl,Gc.members,iW dl dm,_,rfl,dm,_,rfl,by have:=gl MO;rw[QG]at this;exact this,ag,_,rfl, .inl (.of IA),?_⟩;refine⟨_,_,rfl,rfl,_,rfl,?_⟩;refine bg (fun _=>?_) (fun _=>?_)
   ·refine⟨fun σ H3=>H3=H2∧σ=[sR x,sR t,sR u,sR tg,sR tg,none,none],⟨_,rfl,x,aI,dg,_,_,rfl,hg,Gc.cl,Gc.oX,jz dl dm,_,rfl,dl,_,rfl,by have:=Vx Qr;rw[vg]at this;exact this,rfl,rfl⟩,?_⟩;rintro σ H3 ⟨rfl,rfl⟩;refine⟨_,rfl,x,aI,dg,_,_,rfl,hg,Gc.cl,Gc.oX,jz dl dm,_,rfl,dl,_,rfl,by have:=Vx ht;rw[vl]at this;exact this,rfl,g,l,tg,tl,q,p,rfl,Ne.symm BY,MO,y9,JL,JK,fun a b=>De⟩
   ·exact⟨rfl,l,g,tl,tg,p,q,rfl,BY,y9,MO,JK,JL,fun a b=>Iff.rfl⟩
  rintro σ H3 ⟨rfl,l,g,tl,tg,p',q',rfl,BY,y9,MO,JK,JL,X8⟩;obtain⟨m1,DT⟩:=D.ml p' l JK;obtain⟨m2,Iy⟩:=D.ml q' g JL;obtain⟨al,lz,O7,B0,P1,Vy⟩:∃a us,bC km (bf l)=some (.ref a)∧H3 a=some (.lst us)∧gM H3 us m1∧S a:=by have:=D.mv l;rw[DT]at this;exact this
  obtain⟨ag,iy,QG,IA,P2,Zq⟩:∃a us,bC km (bf g)=some (.ref a)∧H3 a=some (.lst us)∧gM H3 us m2∧S a:=by have:=D.mv g;rw[Iy]at this;exact this
  have Zr:al≠ag:=fun z=>BY (D.inj l g al O7 (by rw[QG,z]))
  have l1:=D.vB (D.ms l m1 DT).1 (fun r hr=>⟨l,((D.ms l m1 DT).2 r).mp hr⟩);have l2:=D.vB (D.ms g m2 Iy).1 (fun r hr=>⟨g,((D.ms g m2 Iy).2 r).mp hr⟩);have nx:x≠dl:=fun z=>Gf (by rw[z];exact D.sl)
  have QE:x≠dm:=fun z=>Gf (by rw[z];exact D.sm)
  have O8:al≠dl:=fun z=>by rw[z,D.hl]at B0;cases B0
  have O9:al≠dm:=fun z=>by rw[z,D.hm]at B0;cases B0
  have O_:ag≠dl:=fun z=>by rw[z,D.hl]at IA;cases IA
  have L6:ag≠dm:=fun z=>by rw[z,D.hm]at IA;cases IA
  have AR:=P2.1;refine⟨fun σ H4=>H4=upd H3 dm (.dT (i4 km (bf g)))∧σ=[sR x,sR t,sR u,sR tl,sR tg,sR ag,none],?_,?_⟩
  ·exact⟨_,rfl,x,aI,dg,_,_,rfl,hg,Gc.cl,Gc.members,iW dl dm,dm,rfl, .inr ⟨km, .of D.hm⟩,_,rfl,dm,tg,km,bf g,_,rfl,rfl,D.hm,MO,QG,rfl,rfl⟩
  rintro σ H4 ⟨rfl,rfl⟩;refine⟨fun σ H5=>(∃w,σ=[sR x,sR t,sR u,sR tl,sR tg,sR ag,w])∧∃uF,H5 dl=some (.dT uF)∧uF.length≤B∧(∀r,bC uF (bf r)=if r∈m2 then some (.ref tl)else bC kl (bf r))∧SameBut dl (upd H3 dm (.dT (i4 km (bf g)))) H5,?_,?_⟩
  ·refine⟨_,rfl,ag,rfl,⟨_, .of (by rw[aj L6];exact IA)⟩,?_⟩;refine bW (xs:=iy) (fun i σ H5=>(∃w,σ=[sR x,sR t,sR u,sR tl,sR tg,sR ag,w])∧∃uF,H5 dl=some (.dT uF)∧uF.length≤B∧(∀r,bC uF (bf r)=if r∈m2.take i then some (.ref tl)else bC kl (bf r))∧SameBut dl (upd H3 dm (.dT (i4 km (bf g)))) H5) ?_ ?_ ?_ ?_
   ·exact⟨⟨_,rfl⟩,kl,by rw[aj D.ne];exact D.hl,QD,fun r=>ZF, .refl⟩
   ·rintro i σ H5 _ ⟨_,uF,_,_,_,s5⟩;exact .of (s5 _ _ O_ (by rw[aj L6];exact IA))
   ·rintro i v σ H5 hv ⟨⟨w,rfl⟩,uF,h5,MP,L7,s5⟩;have hi:i<m2.length:=by rw[←AR];exact(ZO hv).1
    have ei:m2[i]?=some m2[i]:=by simp[hi]
    have i_:m2[i]∈m2:=List.getElem_mem hi;generalize m2[i]=r0 at ei i_;obtain⟨tr,k1,k2⟩:=P2.2 i r0 ei;rw[hv]at k1;cases k1;have Vs:tr≠dl:=fun z=>by rw[z,D.hl]at k2;cases k2
    have Td:tr≠dm:=fun z=>by rw[z,D.hm]at k2;cases k2
    have k5:=s5 tr _ Vs (by rw[aj Td];exact k2);have g5:=s5 x _ nx (by rw[aj QE];exact hg);refine⟨_,rfl,_,rfl,x,aI,dg,_,_,rfl,g5,Gc.cl,Gc.oX,jz dl dm,_,rfl,dl,_,rfl, .t (k:=bf r0) h5 k5 (aZ UQ),⟨_,rfl⟩,_,ae,?_,fun r=>?_,s5.upd⟩
    ·have oj:bC uF (bf r0)≠none:=by
      rw[L7];split
      ·simp
      ·have:=D.lv r0;rw[((D.ms g m2 Iy).2 r0).mp i_]at this;obtain⟨t0,z,_⟩:=this;rw[z];simp
     have:(putK uF (bf r0) (.ref tl)).length=uF.length:=by
      unfold putK;rw[ij,Z7 (by cases z:bC uF (bf r0)<;>simp_all),List.length_map]
     lia
    ·rw[i5,L7];have et:m2.take (i+1)=m2.take i++[r0]:=by rw[List.take_succ,ei];rfl
     rw[et];by_cases e:r=r0
     ·rw[Z7 (by rw[e]),Z7 (by simp[e])]
     ·rw[Z5 (fun z=>e (dz z))];by_cases e2:r∈m2.take i
      ·rw[Z7 e2,Z7 (by simp[e2])]
      ·rw[Z5 e2,Z5 (by simp[e,e2])]
   ·rintro σ H5 ⟨⟨w,rfl⟩,uF,h5,MP,L7,s5⟩;rw[AR,List.take_length]at L7;exact⟨⟨_,rfl⟩,uF,h5,MP,L7,s5⟩
  rintro σ H5 ⟨⟨w,rfl⟩,uF,h5,MP,L7,s5⟩;have S_:tl≠dl:=fun z=>by rw[z,D.hl]at y9;cases y9
  have Tf:tl≠dm:=fun z=>by rw[z,D.hm]at y9;cases y9
  have g5:=s5 x _ nx (by rw[aj QE];exact hg);have m5:=s5 dm _ (Ne.symm D.ne) ae;have Vz:=s5 al _ O8 (by rw[aj O9];exact B0);have X9:=s5 ag _ O_ (by rw[aj L6];exact IA);have X_:=s5 tl _ S_ (by rw[aj Tf];exact y9);have vd:bC (i4 km (bf g)) (bf l)=some (.ref al):=by rw[mC,Z5 (fun z=>BY (dz z))];exact O7
  refine⟨_,rfl,x,aI,dg,_,_,rfl,g5,Gc.cl,Gc.members,iW dl dm,_,rfl,dm, .ref al,rfl,by have:=j8.t (k:=bf l) m5 X_;rw[vd]at this;exact this, .inl ⟨rfl,_, .of Vz⟩,_,rfl,al,ag,lz,iy,rfl,rfl,Vz,X9,?_,?_⟩
  ·have:=P1.1;exact aF UQ
  have X':x≠al:=fun z=>Gf (by rw[z];exact Vy)
  have JM:∀b o,¬S b→H3 b=some o→upd H5 al (.lst (lz++iy)) b=some o:=fun b o hb eb=>by
   rw[aj (fun z=>hb (by rw[z];exact Vy))];exact s5 b o (fun z=>hb (by rw[z];exact D.sl)) (by rw[aj (fun z=>hb (by rw[z];exact D.sm))];exact eb)
  refine qq _ ⟨fun _ h=> .inl h,JM⟩ ?_;refine⟨dg,dl,dm,uF,i4 km (bf g),_,_,JM x _ Gf hg,Gf,D.OL (tl:=tl) BY DT Iy O7 P1 P2 B0 y9 L7 (by rw[aj (Ne.symm O8)];exact h5) (by rw[aj (Ne.symm O9)];exact m5) ae ?_,fun a b=>(X8 a b).trans (LN BY JK JL (D.ms g m2 Iy).2 hE a b),MP,Nat.le_trans (yy _ _) MN⟩;intro b o h1 h2 h3 eb;rw[aj h3];exact s5 b o h1 (by rw[aj h2];exact eb)
variable(jf:mg "sorted"=none)
theorem t6:aL ["self"] ["self"] (ar g9):=⟨rfl,rfl,rfl,by decide+kernel,rfl,by decide+kernel,by decide+kernel⟩
include T Gc jf in
theorem t8{f:Addr}{fd:FuncData}(F:iA K "told" "Groups.told" g9 f fd):a8 P w K mg base (c7 P w) true 1 f fd ["self"] (xi aI):=by
 refine F.gO t6 Η (fun bU A outer s H vs Q E hr h hX=>?_)
 ·obtain⟨x,S,E1,B,rfl,_⟩:=h;rfl
 ·obtain⟨x,S,E1,B,rfl,G,hB,q⟩:=h;refine⟨_,(ZX (Θ (@kC _ _ _ _ _ _ _ _ _ _ _ _ _ _ (by exact rfl) (show bh ["self"] (ar g9) _ ["members"] [] []from⟨rfl,by decide+kernel,by decide+kernel,by decide+kernel,rfl,rfl,by decide+kernel,by decide+kernel,by decide+kernel⟩) (@HC _ H _ _ _ _ _ (ZP K) (Α) (Α) (Α)) (fun _ _ _ _ _=>(ZI (0) (show(["members"]:List Str).Nodup by decide+kernel))) (fun _ _ _ _ _=>fz) (fun _ _ _ _ _=>(ZY (Ax K) jf PyProof.Rows.Boot.«sorted» (ZJ Γ))) (by intro _;rfl)))),?_⟩;obtain⟨dg,dl,dm,kl,km,ld,mm,hg,Gf,D,hE,QD,MN⟩:=G;refine⟨_,rfl,x,aI,dg,_,_,rfl,hg,Gc.cl,Gc.members,iW dl dm,dm,km,rfl,D.hm,fun o nf R hR=>?_⟩;have nR:R≠dm:=fun z=>by rw[z,ae]at hR;cases hR
  have Tg:H R=none:=by rw[aj nR]at hR;exact hR
  refine C9 (fun k ys bq H'=>(∃u,bq=[u])∧(∃gs,gj H' ys gs∧gs.length=k∧∀(i:Nat) ps,gs[i]?=some ps→∃l ms v,km[i]?=some (bf l,v)∧mm l=some ms∧ps.Perm ms∧ps.Pairwise fun p q=>jy p q=true)∧H' R=some (.lst ys)∧(∀b o,b≠dm→H b=some o→H' b=some o)∧H' dm=some (.so o (.dT km))∧∀(i:Nat) a,ys[i]?=some (.ref a)→H a=none∧a≠R) ⟨⟨_,rfl⟩,⟨[], .nil,rfl,fun i ps e=>by simp at e⟩,ae,fun b o hb e=>by rw[aj (aE e Tg),aj hb];exact e,by rw[aj (Ne.symm nR),ae],fun i a e=>by simp at e⟩ ?_ ?_ ?_
  ·rintro k ys bq H' _ ⟨_,_,_,_,h4,_⟩;exact h4
  ·rintro k ⟨key,v⟩ ys bq H' hk ⟨⟨u,rfl⟩,⟨gs,W1,hl,MQ⟩,Pa,MR,JJ,Cu⟩;obtain⟨l,el⟩:=D.key _ (Z0 hk);have el:key=bf l:=el;subst el;have vv:=BX D.BV hk;have mv:=D.mv l;cases e:mm l with
   |none=>
    rw[e]at mv;have mv:bC km (bf l)=none:=mv;rw[mv]at vv;cases vv
   |some ms=>
    rw[e]at mv;obtain⟨a,us,z1,z2,z3,z4⟩:=mv;rw[vv]at z1;cases z1;obtain⟨nd,DI⟩:=D.ms l ms e;have Th:a≠dm:=fun z=>by rw[z,D.hm]at z2;cases z2
    have T:cU H H':=fun b v hb=>MR b _ (fun z=>by rw[z,D.hm]at hb;cases hb) hb
    refine lK ?_;refine⟨_,rfl,a,us,ms,rfl, .of (MR _ _ Th z2),z3.cz T,nd,by have:=D.vB nd (fun p hp=>⟨l,(DI p).mp hp⟩);lia,fun D2 VA qs lA P2 perm pw=>?_⟩;have QH:D2≠R:=fun z=>by rw[z,Pa]at lA;cases lA
    have VB:D2≠dm:=fun z=>by rw[z,JJ]at lA;cases lA
    have Pb:H D2=none:=by
     cases z:H D2 with
     |none=>rfl
     |some o2=>rw[MR D2 o2 VB z]at lA;cases lA
    have VC:=W1.1;have SI:k<km.length:=(ZO hk).1;refine⟨by rw[aj (Ne.symm QH)];exact Pa,aZ UQ,⟨_,rfl⟩,⟨gs++[qs],?_,by simp;lia,fun i ps hi=>?_⟩,ae,fun b o hb eb=>?_,?_,fun i a ha=>?_⟩
    ·have W2:gj (upd H' D2 (.lst VA)) ys gs:=W1.same (ax.upd lA);have W3:gj (upd H' D2 (.lst VA)) (ys++[.ref D2]) (gs++[qs]):=W2.append (.one ae (P2.same (ax.upd lA)));refine W3.put (fun i e=>?_) (by rw[aj (Ne.symm QH)];exact Pa);by_cases hi:i<ys.length
     ·rw[Υ hi]at e;exact(Cu i R e).2 rfl
     ·have:=(ZO e).1;have:i=ys.length:=by simp at this;lia
      subst this;simp at e;exact QH e
    ·by_cases Gv:i<gs.length
     ·rw[Υ Gv]at hi;exact MQ i ps hi
     ·have:=(ZO hi).1;have:i=gs.length:=by simp at this;lia
      subst this;simp at hi;subst hi;exact⟨l,ms,_,by rw[hl];exact hk,e,perm,pw⟩
    ·rw[aj (aE eb Tg),aj (aE eb Pb)];exact MR b o hb eb
    ·rw[aj (Ne.symm nR),aj (Ne.symm VB)];exact JJ
    ·by_cases hi:i<ys.length
     ·rw[Υ hi]at ha;exact Cu i a ha
     ·have:=(ZO ha).1;have:i=ys.length:=by simp at this;lia
      subst this;simp at ha;subst ha;exact⟨Pb,QH⟩
  ·rintro ys bq H' ⟨_,⟨gs,W1,hl,MQ⟩,Pa,MR,JJ,Cu⟩;refine q _ R ys gs ⟨fun a h=> .inl h,fun b o hb eb=>MR b o (fun z=>hb (by rw[z];exact D.sm)) eb⟩ Tg Pa W1 (fun k a h=>(Cu k a h).1) ?_;have at_:∀ps∈gs,∃l ms,mm l=some ms∧ps.Perm ms∧ps.Pairwise (fun p q=>jy p q=true):=fun ps DG=>by
    obtain⟨i,hi⟩:=List.getElem?_of_mem DG;obtain⟨l,ms,v,_,h2,h3,h4⟩:=MQ i ps hi;exact⟨l,ms,h2,h3,h4⟩
   refine⟨fun ps DG=>?_,fun ps DG=>?_,fun ps DG a ha b=>?_,fun a ha=>?_,?_⟩
   ·obtain⟨_,_,_,_,h4⟩:=at_ ps DG
    exact h4
   ·obtain⟨l,ms,h2,h3,_⟩:=at_ ps DG
    intro z;subst z;have:l∈ms:=((D.ms l ms h2).2 l).mpr (D.self l ms h2);have:=h3.mem_iff.mpr this;cases this
   ·obtain⟨l,ms,h2,h3,_⟩:=at_ ps DG
    have ha:=((D.ms l ms h2).2 a).mp (h3.mem_iff.mp ha);rw[h3.mem_iff,(D.ms l ms h2).2,hE,ha];exact⟨fun z=>⟨l,rfl,z⟩,fun⟨y,h,z⟩=>by cases h;exact z⟩
   ·obtain⟨l,h1,_⟩:=(hE a a).mp ha;obtain⟨ms,DI⟩:=D.ml a l h1;have mv:=D.mv l;rw[DI]at mv;obtain⟨aa,us,z1,_⟩:=mv;obtain⟨i,hi⟩:=y8 z1;have ig:i<gs.length:=by rw[hl];exact(ZO hi).1
    obtain⟨l2,Yb,v,h5,h6,h7,_⟩:=MQ i gs[i] (by simp[ig]);rw[hi]at h5;have:l=l2:=dz (Prod.mk.inj (Z' h5)).1;subst this;refine⟨gs[i],List.getElem_mem ig,h7.mem_iff.mpr ?_⟩;exact((D.ms l Yb h6).2 a).mpr h1
   ·rw[List.pairwise_iff_getElem];intro i j hi hj uy a ha hb;obtain⟨l1,m1,v1,a1,a2,a3,_⟩:=MQ i gs[i] (by simp[hi]);obtain⟨l2,m2,v2,b1,b2,b3,_⟩:=MQ j gs[j] (by simp[hj]);have ha:=((D.ms l1 m1 a2).2 a).mp (a3.mem_iff.mp ha);have hb:=((D.ms l2 m2 b2).2 a).mp (b3.mem_iff.mp hb);rw[ha]at hb;cases hb;have nd:=D.BV;have h1:(km.map (·.1))[i]?=some (bf l1):=by rw[List.getElem?_map,a1];rfl
    have h2:(km.map (·.1))[j]?=some (bf l1):=by rw[List.getElem?_map,b1];rfl
    have:=(List.getElem?_inj (ZO h1).1 nd).mp (h1.trans h2.symm)
    lia
variable(mJ:m4 P w K mg base true 1 "Groups" aI ["self"] [] (tM aI))
variable(Hc:JC K az)
theorem lC:aL ["self","trails","worth"] ["self","trails","worth"] (ar fg):=⟨rfl,rfl,rfl,by decide+kernel,rfl,by decide+kernel,by decide+kernel⟩
include T mJ Hc in
theorem lD{f:Addr}{fd:FuncData}(F:iA K "__init__" "Gathering.__init__" fg f fd):a8 P w K mg base (c7 P w) true 3 f fd ["self","trails","worth"] (qE az aI):=by
 refine F.gO lC Η (fun bU A outer s H vs Q E hr h hX=>?_)
 ·obtain⟨x,dx,tr,W,rfl,_⟩:=h;rfl
 ·obtain⟨x,dx,tr,W,rfl,hx,q⟩:=h;refine⟨_,(ZV (Z_ K Γ (pv 1)) (ZV (Z_ K Γ (pv 2)) (ZV (Z_ K Γ (@Fz _ _ _ _ _ _ _ _ _ _ _ mJ (hr.mono (ZD)) hX.pass (Α) (ZD))) (ZX (Z_ K Γ j9))))),?_⟩;refine⟨_,rfl,_,rfl,x,az,dx,_,rfl,hx,Hc.cl,Hc.tP,ZD,?_⟩;refine⟨_,rfl,_,rfl,x,az,dx,_,rfl,ae,Hc.cl,Hc.worth,by have:=aW "trails" (.ref tr) [];simp at this;lia,?_⟩;rw[gf];refine fun g dg hg QI eX=>?_
  have Pc:x≠g:=fun z=>by rw[←z,ae]at hg;cases hg
  have Ti:x≠dg:=fun z=>by rw[←z,ae]at QI;cases QI
  have Pd:H g=none:=by rw[aj (Ne.symm Pc)]at hg;exact hg
  have Pe:H dg=none:=by rw[aj (Ne.symm Ti)]at QI;exact QI
  refine⟨g,dg,rfl,ae,fun H1 S1 yi Tj G1=>⟨rfl,?_⟩⟩;have keep:∀b o,b≠x→H b=some o→H1 b=some o:=fun b o hb e=>yi b o (aE e Pd) (by rw[aj (aE e Pd),aj (aE e Pe),aj hb];exact e)
  have lu:H1 x=some (.ins az dx (bx "worth" (.int W) (bx "trails" (.ref tr) []))):=yi x _ Pc (by rw[aj Pc,aj Ti];exact ae);have l2:(bx "worth" (.int W) (bx "trails" (.ref tr) [])).length≤2:=by
   have:=aW "trails" (.ref tr) [];have:=aW "worth" (.int W) (bx "trails" (.ref tr) []);simp at*;lia
  refine⟨_,rfl,x,az,dx,_,rfl,lu,Hc.cl,Hc.groups,by lia,?_⟩;refine fun dk QJ=>?_
  have MS:x≠dk:=fun z=>by rw[←z,ae]at QJ;cases QJ
  have Gg:H1 dk=none:=by rw[aj (Ne.symm MS)]at QJ;exact QJ
  have Tn:H dk=none:=by
   cases e:H dk with
   |none=>rfl
   |some o=>rw[keep dk o (Ne.symm MS) e]at Gg;cases Gg
  refine⟨_,rfl,x,az,dx,_,rfl,by rw[aj MS];exact ae,Hc.cl,Hc.marks,by have:=aW "groups" (.ref g) (bx "worth" (.int W) (bx "trails" (.ref tr) []));lia,?_⟩;rw[LR];have QK:¬S1 x:=fun z=>by
   have:=Tj x z;rw[aj Pc,aj Ti,ae]at this;cases this
  have Yc:¬S1 g:=fun z=>by
   have:=Tj g z;rw[ae]at this;cases this
  have G2:=G1.nt;have fin:∀b o,b≠x→H1 b=some o→upd (upd (upd H1 x (.ins az dx (bx "groups" (.ref g) (bx "worth" (.int W) (bx "trails" (.ref tr) []))))) dk (.dT [])) x (.ins az dx (jW tr W g dk)) b=some o:=fun b o hb e=>by
   rw[aj hb,aj (aE e Gg),aj hb];exact e
  have To:¬(S1 dk∧NT H1 dk):=fun z=>by
   obtain⟨o,e,_⟩:=z.2;rw[Gg]at e;cases e
  refine q _ (fun a=>(S1 a∧NT H1 a)∨a=dk) (fun b o hb e=>fin b o hb (keep b o hb e)) (fun a ha=>?_) ⟨dx,g,dk,[],fun a=>S1 a∧NT H1 a,ae,G2.keep (fun a o hs e=>fin a o (fun z=>QK (by rw[←z];exact hs.1)) e) (fun b v hb=>fin b _ (fun z=>by rw[z,lu]at hb;cases hb) hb) (fun o e=>fin g o (Ne.symm Pc) e),by rw[aj (Ne.symm MS),ae],fun c=>rfl,Nat.le_refl _,fun a=>Iff.rfl,To,fun z=>z.elim (fun y=>QK y.1) MS,fun z=>z.elim (fun y=>Yc y.1) (fun y=>?_),fun a ha=>?_⟩
  ·rcases ha with ha|ha
   ·have:=Tj a ha.1;cases e:H a with
    |none=>rfl
    |some o=>rw[aj (aE e Pd),aj (aE e Pe),aj (fun z=>QK (by rw[←z];exact ha.1)),e]at this;cases this
   ·rw[ha];exact Tn
  ·obtain⟨Zs,dl,dm,kl,HV,ld,mm,og,_⟩:=G1;rw[y,Gg]at og;cases og
  ·rcases ha with⟨h1,o,h2,h3⟩|ha
   ·exact⟨o,fin a o (fun z=>QK (by rw[←z];exact h1)) h2,h3⟩
   ·exact⟨_,by rw[ha,aj (Ne.symm MS),ae],fun v=>(ZF)⟩
variable(cQ:eK P w K mg base true 1 aI "unite" ["self","pair","other"] (tN aI))
theorem ph:aL ["self","crossing","pair"] ["self","crossing","pair"] (ar fE):=⟨rfl,rfl,rfl,by decide+kernel,rfl,by decide+kernel,by decide+kernel⟩
include T Hc cQ in
theorem pj{f:Addr}{fd:FuncData}(F:iA K "mark" "Gathering.mark" fE f fd):a8 P w K mg base (c7 P w) true 2 f fd ["self","crossing","pair"] (tQ az aI):=by
 refine F.gO ph Η (fun bU A outer s H vs Q E hr h hX=>?_)
 ·obtain⟨x,tc,tp,tr,W,c,r,S,s1,B,M,rfl,_⟩:=h;rfl
 ·obtain⟨x,tc,tp,tr,W,c,r,S,s1,B,M,rfl,G,hc,hp,LO,h0,hB,hM,q⟩:=h;have hu:=hr.units;have hu:(A.deeper (PyProof.Rows.envOfC "Gathering.mark" (ar fE) s.heap.objs.size f bU)).units+1<cLine:=by lia
  refine⟨_,(ZX (Ξ (ZW (@qk _ _ _ _ _ hu Β (ZP K))) (ZX (Ο (ZT (ZP K) cQ aR (ZN (ρ hu Β (fun _ _=>rfl)) (ZJ (pv 2)))))) (ZX (@ky _ _ _ _ _ _ _ _ _ hu (ZP K) (pv 1) (pv 2) (by exact rfl))))),?_⟩;obtain⟨dx,g,dk,km,S1,D⟩:=id G;refine⟨_,rfl,_,rfl,x,az,dx,_,_,rfl,D.ob,Hc.cl,Hc.marks,lQ tr W g dk,dk,_,rfl, .t (k:=bf c) D.hk hc,_,rfl,?_⟩;have mv:=D.mv c;cases e:s1.2 c with
  |none=>
   rw[e]at mv;have mv:bC km (bf c)=none:=mv;rw[mv];refine f_ ?_;have hl:=D.len;refine⟨_,rfl,_,rfl,x,az,dx,_,_,rfl,D.ob,Hc.cl,Hc.marks,lQ tr W g dk,_,rfl,dk,_,rfl, .t (k:=bf c) D.hk hc (aZ UQ),?_⟩;obtain⟨u,D'⟩:=D.put (c:=c) hp;refine q _ S u ⟨dx,g,dk,putK km (bf c) (.ref tp),S1,?_⟩;unfold y_;rw[e];exact D'
  |some r0=>
   rw[e]at mv;obtain⟨t0,v0,Yd⟩:=mv;rw[v0];refine jS ?_;obtain⟨dg,dl,dm,kl,HV,ld,mm,og,_⟩:=id D.gr;refine⟨_,rfl,x,az,dx,_,_,rfl,D.ob,Hc.cl,Hc.groups,iX tr W g dk,g,dg,_,rfl,og,BU dl dm,_,rfl,x,az,dx,_,_,rfl,D.ob,Hc.cl,Hc.marks,lQ tr W g dk,_,rfl,dk,_,rfl,by have:=j8.t (k:=bf c) D.hk hc;rw[v0]at this;exact this,_,rfl,g,t0,tp,r0,r,S1,s1.1,B,rfl,D.gr,Yd,hp,h0 r0 e,LO,hB,fun H' u G'=>?_⟩;obtain⟨S',S2,u2,D2⟩:=D.Qs u G';refine q _ S' u2 ⟨dx,g,dk,km,S2,?_⟩;unfold y_;rw[e];exact⟨D2.ob,D2.gr,D2.hk,D2.mv,by have:=D2.len;lia,D2.sS,D2.BV,D2.nx,D2.ng,D2.nt⟩
variable(cj:eK P w K mg base true 1 aI "take_in" ["self","pair"] (xh aI))
variable(ck:eK P w K mg base true 2 az "mark" ["self","crossing","pair"] (tQ az aI))
theorem fm:aL ["self","crossing","pair","later","before"] ["self","crossing","pair"] (ar dJ):=⟨rfl,rfl,rfl,by decide+kernel,rfl,by decide+kernel,by decide+kernel⟩
include T bj aY Hc cQ cj ck in
theorem l5{f:Addr}{fd:FuncData}(F:iA K "go_over" "Gathering.go_over" dJ f fd):a8 P w K mg base (c7 P w) true 3 f fd ["self","crossing","pair"] (tR az aI aA):=by
 refine F.gO fm Η (fun bU A outer s H vs Q E hr h hX=>?_)
 ·obtain⟨x,tc,tp,tr,dt,e,b,es,bs,f,o,p,n,m,W,i,j,r,S,s1,B,M,H0,rfl,_⟩:=h;rfl
 ·obtain⟨x,tc,tp,tr,dt,e,b,es,bs,f1,o,p,n,m,W,i,j,r,S,s1,B,M,H0,rfl,G,TR,BA,hc,hp,hi,hj,TP,OK,hs,hB,hM,q⟩:=h;have hu:=hr.units;have hu:(A.deeper (PyProof.Rows.envOfC "Gathering.go_over" (ar dJ) s.heap.objs.size f bU)).units+1<cLine:=by lia
  refine⟨_,(Z1 (ZH (3) fm.nd (ρ hu Β (fun _ _=>rfl))) (Z1 (Ξ (Χ (ZT (ZP K) bj aR (ZN Β (ZJ (pv 2))))) (Z1 (Ο (ZT (ZP K) cj aR (ZJ (pv 2)))) (ZX (Ο (ZT (ZP K) cQ aR (ξ (pv 2)))))) aQ) (ZX (ZU hX.own (Ψ K (ZT (ZP K) aY aR (ZJ Β))) (ZI (4) fm.nd) (ZX (Ο (ZT Γ ck aR (ξ (pv 4))))))))),?_⟩;obtain⟨dx,g,dk,km,S1,D⟩:=id G;obtain⟨tl,vl,y9⟩:∃tl,bC km (bf (aP (i+1,j+1)))=some (.ref tl)∧H tl=some (.tup (jw r)):=by have:=D.mv (aP (i+1,j+1));rw[hs]at this;exact this
  obtain⟨MF,i2,j2,e2,OV⟩:=OK.mr _ _ hs;obtain⟨rfl,rfl⟩:=iJ e2;refine⟨fun σ H1=>H1=H∧σ=[sR x,sR tc,sR tp,sR tl,none],⟨_,rfl,x,az,dx,_,_,rfl,D.ob,Hc.cl,Hc.marks,lQ tr W g dk,_,rfl,dk,_,rfl,by have:=j8.t (k:=bf (aP (i+1,j+1))) D.hk hc;rw[vl]at this;exact this,rfl,rfl⟩,?_⟩;rintro σ H1 ⟨rfl,rfl⟩;have T1:=TR.keep BA.same;refine⟨fun σ H2=>σ=[sR x,sR tc,sR tp,sR tl,none]∧∃S',oW S H1 S' H2∧ir H2 az aI x tr W S' (JA f1 o p i j s1 r) (B+1) M,?_,?_⟩
  ·refine⟨_,rfl,x,az,dx,_,_,rfl,D.ob,Hc.cl,Hc.tP,mF tr W g dk,tr,dt,_,rfl,T1.ob,Jx o p e b,_,rfl,_,rfl,tr,dt,e,b,es,bs,f1,o,p,n,m,tc,tp,i+1,j+1,i,j,rfl,T1,hc,hp,by lia,by lia,hi,hj,_,rfl,?_⟩;unfold JA;refine bg (fun hh=>?_) (fun hh=>?_)
   ·have hh:=of_decide_eq_true hh;rw[Z7 hh];refine⟨fun σ H2=>σ=[sR x,sR tc,sR tp,sR tl,none]∧∃S',oW S H1 S' H2∧ir H2 az aI x tr W S' (Jz s1.1 (aP (i,j)),s1.2) (B+1) M,?_,?_⟩
    ·obtain⟨dg,dl,dm,kl,HV,ld,mm,og,_⟩:=id D.gr;refine⟨_,rfl,x,az,dx,_,_,rfl,D.ob,Hc.cl,Hc.groups,iX tr W g dk,g,dg,_,rfl,og,FG dl dm,_,rfl,g,tp,aP (i,j),S1,s1.1,B,rfl,D.gr,hp,by lia,fun H' LU u G'=>?_⟩;obtain⟨S',S2,u2,D2⟩:=D.Qs u G';exact⟨rfl,S',u2,dx,g,dk,km,S2,D2⟩
    rintro σ H2 ⟨rfl,S',u2,G2⟩;obtain⟨QL,g2,QM,HV,S2,D2⟩:=id G2;have T:=u2.cz G.nt;obtain⟨dg,dl,dm,kl,Zt,ld,mm,og,_⟩:=id D2.gr;refine⟨_,rfl,x,az,QL,_,_,rfl,D2.ob,Hc.cl,Hc.groups,iX tr W g2 QM,g2,dg,_,rfl,og,BU dl dm,_,rfl,_,rfl,g2,tp,tl,aP (i,j),r,S2,_,B+1,rfl,D2.gr,T _ _ hp,T _ _ y9, .inr ⟨rfl,rfl⟩, .inl MF,by lia,fun H' u G'=>?_⟩;obtain⟨Qo,S3,u3,D3⟩:=D2.Qs u G';exact⟨rfl,Qo,u2.trans u3,QL,g2,QM,HV,S3,D3⟩
   ·have hh:¬dH f1 o p i j=Bq f1 o p (i+1) (j+1):=fun z=>hh (decide_eq_true z)
    rw[Z5 hh];exact⟨rfl,S, .same (.refl _),G.cast rfl (by lia) (Nat.le_refl _)⟩
  rintro σ H2 ⟨rfl,S2,u2,G2⟩;obtain⟨Ye,VD,_⟩:=FO TP OK MF OV;have B8:=BA.ups u2;have T2:=TR.keep B8.same;have TT:=u2.cz G.nt;obtain⟨QL,g2,QM,HV,S3,D2⟩:=id G2;refine⟨_,rfl,x,az,QL,_,_,rfl,D2.ob,Hc.cl,Hc.tP,mF tr W g2 QM,tr,dt,_,rfl,T2.ob,BR o p e b,_,rfl,tr,dt,e,b,es,bs,f1,o,p,n,m,tc,i,j,rfl,T2,TT _ _ hc,hi,hj,fun H3 rr us s3 rE xt P3=>?_⟩;refine⟨rr,rfl,⟨_, .of xt⟩,?_⟩;have hlen:(bA f1 o p i j).length≤2:=by
   unfold bA;rw[List.length_append];split<;>split<;>simp
  have Yg:=rD TP OV;refine bW (xs:=us) (fun k σ H4=>(∃w,σ=[sR x,sR tc,sR tp,sR tl,w])∧∃S4,oW S H1 S4 H4∧ir H4 az aI x tr W S4 (((bA f1 o p i j).take k).foldl (fun s c=>y_ s c r) (JA f1 o p i j s1 r)) (B+1) (M+k)∧H4 rr=some (.lst us)∧gM H4 us (bA f1 o p i j)∧¬S4 rr∧H4 tl=some (.tup (jw r))) ?_ ?_ ?_ ?_
  ·have G3:=G2.same s3;refine⟨⟨_,rfl⟩,S2,u2.trans (.same s3),G3.cast ZA (Nat.le_refl _) (Nat.le_refl _),xt,P3,G2.out rE,s3 _ _ (TT _ _ y9)⟩
  ·rintro k σ H4 _ ⟨_,S4,_,_,h4,_⟩;exact .of h4
  ·rintro k v σ H4 hv ⟨⟨w,rfl⟩,S4,u4,G4,h4,P4,n4,t4⟩;have hk:k<(bA f1 o p i j).length:=by rw[←P4.1];exact(ZO hv).1
   have ek:(bA f1 o p i j)[k]?=some (bA f1 o p i j)[k]:=by simp[hk]
   have i_:(bA f1 o p i j)[k]∈bA f1 o p i j:=List.getElem_mem hk;generalize (bA f1 o p i j)[k]=c at ek i_;obtain⟨t,k1,k2⟩:=P4.2 k c ek;rw[hv]at k1;cases k1;obtain⟨Yh,Yi,_⟩:=tO TP ((bA f1 o p i j).take k) _ Ye (VD.e _ _ MF) (fun c hc=>Yg c (List.mem_of_mem_take hc));obtain⟨Yj,g4,Yk,Zu,S5,D4⟩:=id G4;refine⟨_,rfl,x,Yj,_,rfl,D4.ob,B1 tr W g4 Yk,_,rfl,_,rfl,x,t,tl,tr,W,c,r,S4,_,B+1,M+k,rfl,G4,k2,t4,Yi.e _ _ (VD.e _ _ MF),fun r0 h=>(Yh.mr _ _ h).1,by lia,by lia,fun H5 S6 u5 G5=>?_⟩;have T5:=u5.cz G4.nt;refine⟨⟨_,rfl⟩,S6,u4.trans u5,G5.cast ?_ Λ (by lia),u5.keep rr _ n4 h4,P4.cz T5,u5.out n4 h4,T5 _ _ t4⟩;rw[List.take_succ,ek];simp
  ·rintro σ H4 ⟨⟨w,rfl⟩,S4,u4,G4,h4,P4,n4,t4⟩;refine q _ S4 u4 (G4.cast ?_ Λ (by have:=P4.1;lia));rw[P4.1,List.take_length];rfl
variable(iO:eK P w K mg base true 1 aI "has" ["self","pair"] (AF aI))
variable(dM:eK P w K mg base true 3 az "go_over" ["self","crossing","pair"] (tR az aI aA))
theorem fW:aL ["self","i","j","pair","behind"] ["self","i","j"] (ar eP):=⟨rfl,rfl,rfl,by decide+kernel,rfl,by decide+kernel,by decide+kernel⟩
include T Rc cf Hc cj ck iO dM in
theorem nX{f:Addr}{fd:FuncData}(F:iA K "visit" "Gathering.visit" eP f fd):a8 P w K mg base (c7 P w) true 4 f fd ["self","i","j"] (qF az aI aA):=by
 refine F.gO fW Η (fun bU A outer s H vs Q E hr h hX=>?_)
 ·obtain⟨x,tr,dt,e,b,es,bs,f,o,p,n,m,W,i,j,S,s1,B,M,H0,rfl,_⟩:=h;rfl
 ·obtain⟨x,tr,dt,e,b,es,bs,f1,o,p,n,m,W,i,j,S,s1,B,M,H0,rfl,G,TR,BA,hi,hj,hn,hm,TP,OK,hB,hM,q⟩:=h;have hu:=hr.units;have hu:(A.deeper (PyProof.Rows.envOfC "Gathering.visit" (ar eP) s.heap.objs.size f bU)).units+1<cLine:=by lia
  refine⟨_,(Z1 (ZH (3) fW.nd (@d6 _ _ _ _ _ (ZN Β (ZJ (pv 2))))) (Z1 (ZH (4) fW.nd (@d6 _ _ _ _ _ (ZN (ZQ bp Β af) (ZJ (ZQ bp (pv 2) af))))) (Z1 (Ξ (Z9 jr (ZL (ZL (θ K (ZP K)) (pv 1)) (pv 2)) (ZP K) (aV _)) (ZX (Ο (ZT (ZP K) cj aR (ZJ (pv 3))))) aQ) (Z1 (Ξ (ZW (@qk _ _ _ _ _ hu (pv 4) (ZP K))) (ZX (Ο (ZT Γ dM aR (ξ (pv 4))))) aQ) (ZX (Ξ (@PW.pt _ _ _ (@pw_and _ _ _ _ _ _ _ (Χ (ZT (ZP K) iO aR (ZJ (pv 3)))) (@pw_and1 _ _ _ _ (Χ (ZT (ZP K) cf aR (ZJ (pv 3))))))) (ZX (Ο (ZT Γ ck aR (ξ (pv 3))))) aQ)))))),?_⟩;refine⟨fun σ H1=>∃t,σ=[sR x,sI i,sI j,sR t,none]∧ax H H1∧H1 t=some (.tup (jw (aP (i,j)))),⟨_,rfl,_,rfl,aF ZA,fun t ht=>⟨t,rfl,ax.upd ht,ae⟩⟩,?_⟩;rintro σ H1 ⟨t,rfl,s2,ht⟩;refine⟨fun σ H2=>∃u,σ=[sR x,sI i,sI j,sR t,sR u]∧ax H1 H2∧H2 u=some (.tup (jw (aP (i+1,j+1)))),⟨_,rfl,_,_,rfl,rfl,_,rfl,_,_,rfl,rfl,aF ZA,fun u hu=>⟨u,rfl,ax.upd hu,ae⟩⟩,?_⟩;rintro σ H2 ⟨u,rfl,s3,Qn⟩;have uA:=s3 _ _ ht;have MT:=s2.trans s3;have G2:=G.same MT;have B8:=BA.more MT;have T2:=TR.keep B8.same;obtain⟨rb,g1,g2,g3⟩:=T2.te.at hi;refine⟨fun σ H3=>σ=[sR x,sI i,sI j,sR t,sR u]∧∃S',oW S H2 S' H3∧ir H3 az aI x tr W S' (HS f1 o p W i j s1) (B+1) M,?_,?_⟩
  ·obtain⟨dx,g,dk,km,S1,D⟩:=id G2;refine⟨_,rfl,x,az,dx,_,_,rfl,D.ob,Hc.cl,Hc.tP,mF tr W g dk,tr,aA,dt,_,_,rfl,T2.ob,Rc.cl,Rc.kH,il o p e b,_,rfl,e,_,_,_,rfl,rfl, .of T2.he,au g2,_,rfl,rb,_,_,_,rfl,rfl, .of g3,au (du hj),_,rfl,x,az,dx,_,_,rfl,D.ob,Hc.cl,Hc.worth,FV tr W g dk,?_⟩;have JI:decide (bG (dH f1 o p i j)=V.int W)=decide (dH f1 o p i j=some W):=by cases dH f1 o p i j<;>simp[bG]
   refine⟨by cases dH f1 o p i j<;>rfl,_,rfl,?_⟩;rw[JI];unfold HS;refine bg (fun hh=>?_) (fun hh=>?_)
   ·have hh:=of_decide_eq_true hh;rw[Z7 hh];obtain⟨dg,dl,dm,kl,HV,ld,mm,og,_⟩:=id D.gr;refine⟨_,rfl,x,az,dx,_,_,rfl,D.ob,Hc.cl,Hc.groups,iX tr W g dk,g,dg,_,rfl,og,FG dl dm,_,rfl,g,t,aP (i,j),S1,s1.1,B,rfl,D.gr,uA,by lia,fun H' LU u G'=>?_⟩;obtain⟨S',S2,u2,D2⟩:=D.Qs u G';exact⟨rfl,S',u2,dx,g,dk,km,S2,D2⟩
   ·have hh:¬dH f1 o p i j=some W:=fun z=>hh (decide_eq_true z)
    rw[Z5 hh];exact⟨rfl,S, .same (.refl _),G2.cast rfl (by lia) (Nat.le_refl _)⟩
  rintro σ H3 ⟨rfl,S3,u3,G3⟩;have QN:=u3.cz G2.nt;have IB:=B8.ups u3;obtain⟨Yl,GW1,_⟩:=FP OK i j;refine⟨fun σ H4=>σ=[sR x,sI i,sI j,sR t,sR u]∧∃S',oW S3 H3 S' H4∧ir H4 az aI x tr W S' (DJ f1 o p W i j s1) (B+2) (M+2),?_,?_⟩
  ·obtain⟨dx,g,dk,km,S1,D⟩:=id G3;refine⟨_,rfl,_,rfl,x,az,dx,_,_,rfl,D.ob,Hc.cl,Hc.marks,lQ tr W g dk,dk,_,rfl, .t (k:=bf (aP (i+1,j+1))) D.hk (QN _ _ Qn),_,rfl,?_⟩;have mv:=D.mv (aP (i+1,j+1));have ee:(HS f1 o p W i j s1).2=s1.2:=rfl;rw[ee]at mv;unfold DJ;cases e9:s1.2 (aP (i+1,j+1))with
   |none=>
    rw[e9]at mv;have mv:bC km (bf (aP (i+1,j+1)))=none:=mv;rw[mv];refine f_ ?_;exact⟨rfl,S3, .same (.refl _),G3.cast rfl (by lia) (by lia)⟩
   |some r=>
    rw[e9]at mv;obtain⟨tl,vl,y9⟩:=mv;rw[vl];refine jS ?_;exact⟨_,rfl,x,dx,_,rfl,D.ob,HU tr W g dk,_,rfl,_,rfl,x,u,t,tr,dt,e,b,es,bs,f1,o,p,n,m,W,i,j,r,S3,_,B+1,M,H0,rfl,G3,TR,IB,QN _ _ Qn,QN _ _ uA,hi,hj,TP,Yl,e9,by lia,by lia,fun H' S' u G'=>⟨rfl,S',u,G'⟩⟩
  rintro σ H4 ⟨rfl,S4,u4,G4⟩;have Ym:=u4.cz G3.nt;have Yn:=IB.ups u4;have T4:=TR.keep Yn.same;have QO:=Ym _ _ (QN _ _ uA);obtain⟨Yo,GW2,_⟩:=FQ TP OK i j;have uu:oW S H S4 H4:=(oW.same MT).trans (u3.trans u4);obtain⟨dx,g,dk,km,S1,D⟩:=id G4;obtain⟨dg,dl,dm,kl,HV,ld,mm,og,_⟩:=id D.gr;refine⟨_,rfl,x,az,dx,_,_,rfl,D.ob,Hc.cl,Hc.groups,iX tr W g dk,g,dg,_,rfl,og,OI dl dm,_,rfl,g,t,aP (i,j),S1,_,B+2,rfl,D.gr,QO,fun b1 jZ=>?_⟩;refine⟨_,rfl,?_⟩;refine bg (fun hh=>?_) (fun hh=>?_)
  ·refine⟨_,rfl,x,az,dx,_,_,rfl,D.ob,Hc.cl,Hc.tP,mF tr W g dk,tr,dt,_,rfl,T4.ob,FA o p e b,_,rfl,tr,dt,e,b,es,bs,f1,o,p,n,m,t,i,j,rfl,T4,QO,by lia,by lia,_,rfl,?_⟩;refine bg (fun h2=>?_) (fun h2=>?_)
   ·have oj:=jZ.mp hh;refine⟨_,rfl,x,dx,_,rfl,D.ob,B1 tr W g dk,_,rfl,_,rfl,x,t,t,tr,W,aP (i,j),aP (i,j),S4,_,B+2,M+2,rfl,G4,QO,QO,oj,fun r0 h=>(Yo.mr _ _ h).1,by lia,by lia,fun H5 S5 u5 G5=>?_⟩;refine q _ S5 (uu.trans u5) ?_;unfold zK;rw[Z7 ⟨oj,h2⟩];exact G5
   ·refine q _ S4 uu (G4.cast ?_ UQ (by lia));unfold zK;rw[Z5 (fun z=>h2 z.2)]
  ·refine f_ ?_;refine q _ S4 uu (G4.cast ?_ UQ (by lia));unfold zK;rw[Z5 (fun z=>hh (jZ.mpr z.1))]
variable(iP:m4 P w K mg base true 3 "Gathering" az ["self","trails","worth"] [] (qE az aI))
variable(eU:eK P w K mg base true 4 az "visit" ["self","i","j"] (qF az aI aA))
variable(hV:eK P w K mg base true 1 aI "told" ["self"] (xi aI))
theorem gz:aL ["trails","worth","gathering","i","j"] ["trails","worth"] (ar jY):=⟨rfl,rfl,rfl,by decide+kernel,rfl,by decide+kernel,by decide+kernel⟩
include T Rc Hc iP eU hV in
theorem t9{f:Addr}{fd:FuncData}(F:jt K "best_groups" "best_groups" jY f fd):a8 P w K mg base (c7 P w) true 5 f fd ["trails","worth"] (AI aA):=by
 refine F.gO gz Η (fun bU A outer s H vs Q E hr h hX=>?_)
 ·obtain⟨tr,dt,e,b,es,bs,f,o,p,n,m,W,rfl,_⟩:=h;rfl
 ·obtain⟨tr,dt,e,b,es,bs,f1,o,p,n,m,W,rfl,TR,IT,VE,hn,hm,TP,q⟩:=h;refine⟨_,(Z1 (ZH (2) gz.nd (@sr _ _ _ _ _ _ _ _ _ _ _ _ _ _ iP (hr.mono (ZD)) hX.pass (ZN Γ (ZJ Β)) (Α) (ZD) (Α) (Α))) (Z1 (ZU hX.own (@vP _ _ _ _ _ _ _ _ (by exact rfl) T.fC (ZN (ZQ cA (ZM (aK K) T.c_ (ZJ (ZP K))) af) (ZN (@rl _ _ _ _ _ _ lI af) (ZJ (@rl _ _ _ _ _ _ lI af)))) (Α) (Α)) (ZI (3) gz.nd) (ZX (ZU hX.own (@vP _ _ _ _ _ _ _ _ (by exact rfl) T.fC (ZN (ZQ cA (ZM (aK K) T.c_ (ZJ (ZL (ZP K) (pv 3)))) af) (ZN (@rl _ _ _ _ _ _ lI af) (ZJ (@rl _ _ _ _ _ _ lI af)))) (Α) (Α)) (ZI (4) gz.nd) (ZX (Ο (ZT (pv 2) eU aR (ZN (pv 3) (ZJ (pv 4))))))))) (ZX (Θ (@CB _ _ _ _ _ _ _ _ _ _ _ _ _ (θ K (pv 2)) hV (hr.mono (ZD)) aR (Α)))))),?_⟩;refine⟨fun σ H1=>∃gx S,σ=[sR tr,sI W,sR gx,none,none]∧Base H H1 S∧ir H1 az aI gx tr W S (fun _ _=>False,fun _=>none) 0 0,?_,?_⟩
  ·refine⟨_,rfl,_,rfl,fun y dy hy L4 eX=>⟨y,dy,tr,W,rfl,ae,fun H' S sb fr G=>⟨rfl,y,S,rfl,⟨SameBut.Ai hy L4 sb,fun a ha=>?_⟩,G⟩⟩⟩;have:=fr a ha;cases e9:H a with
   |none=>rfl
   |some o9=>rw[aj (aE e9 hy),aj (aE e9 L4),e9]at this;cases this
  rintro σ H1 ⟨gx,S,rfl,BA,G⟩;have Iq:es.length=n:=TR.te.1;have V0:=Vd.start f1 o p W n m;refine⟨fun σ H2=>(∃u v,σ=[sR tr,sI W,sR gx,u,v])∧∃S s B M,Base H H2 S∧ir H2 az aI gx tr W S s B M∧Vd f1 o p W (Vb n m 0 0) s∧B≤6000,?_,?_⟩
  ·have T1:=TR.keep BA.same;refine⟨_,rfl,tr,aA,dt,_,_,rfl,T1.ob,Rc.cl,Rc.kH,il o p e b,e,_,rfl, .inl (.of T1.he),_,_,rfl,rfl,_,rfl,_,rfl,_,_,rfl,⟨by rw[List.length_map,Iq];lia,by rw[List.length_map,Iq];lia,ZD,ZD⟩,?_⟩;have en:((((es.map V.ref).length:Nat):Int)-1- -1).toNat=n:=by rw[List.length_map,Iq];lia
   rw[en];refine yZ (fun k σ H2=>(∃u v,σ=[sR tr,sI W,sR gx,u,v])∧∃S s B M,Base H H2 S∧ir H2 az aI gx tr W S s B M∧Vd f1 o p W (Vb n m (n-k) 0) s∧B≤2*(k*m)∧M≤3*(k*m)) ⟨⟨_,_,rfl⟩,S,_,0,0,BA,G,V0,by lia,by lia⟩ ?_ ?_
   ·rintro k σ H2 hk ⟨⟨u,v,rfl⟩,S2,s2,B,M,B8,G2,V2,hB,hM⟩;have ei:(((es.map V.ref).length:Nat):Int)-1-(k:Int)=((n-1-k:Nat):Int):=by rw[List.length_map,Iq];lia
    rw[ei];have T2:=TR.keep B8.same;obtain⟨rb,g1,g2,g3⟩:=T2.te.at (show n-1-k<n by lia);have V2:Vd f1 o p W (Vb n m (n-1-k) m) s2:=Vd.turn (by rw[show n-1-k+1=n-k by lia];exact V2);have Zv:(k+1)*m≤n*m:=Nat.mul_le_mul_right m UQ;have Zw:(k+1)*m=k*m+m:=Nat.succ_mul k m;have lm:∀g:Nat→Option Int,(dj m g).length=m:=fun g=>by simp[dj]
    refine⟨_,rfl,tr,aA,dt,_,_,rfl,T2.ob,Rc.cl,Rc.kH,il o p e b,_,rfl,e,_,_,_,rfl,rfl, .of T2.he,au g2,rb,_,rfl, .inl (.of g3),_,_,rfl,rfl,_,rfl,_,rfl,_,_,rfl,⟨by rw[lm];lia,by rw[lm];lia,ZD,ZD⟩,?_⟩;have Yp:((((dj m (dH f1 o p (n-1-k))).length:Nat):Int)-1- -1).toNat=m:=by rw[lm];lia
    rw[Yp];refine yZ (fun l σ H3=>(∃v,σ=[sR tr,sI W,sR gx,sI (((n-1-k:Nat):Int)),v])∧∃S s B M,Base H H3 S∧ir H3 az aI gx tr W S s B M∧Vd f1 o p W (Vb n m (n-1-k) (m-l)) s∧B≤2*(k*m+l)∧M≤3*(k*m+l)) ⟨⟨_,rfl⟩,S2,s2,B,M,B8,G2,V2,hB,hM⟩ ?_ ?_
    ·rintro l σ H3 hl ⟨⟨v3,rfl⟩,S3,s3,B3,M3,IB,G3,V3,Yq,Yr⟩;have ej:(((dj m (dH f1 o p (n-1-k))).length:Nat):Int)-1-(l:Int)=((m-1-l:Nat):Int):=by rw[lm];lia
     rw[ej];obtain⟨dx,g,dk,km,S1,D⟩:=id G3;have V3:Vd f1 o p W (Vb n m (n-1-k) (m-1-l+1)) s3:=by rw[show m-1-l+1=m-l by lia];exact V3
     refine⟨_,rfl,gx,dx,_,rfl,D.ob,FW tr W g dk,_,rfl,_,rfl,gx,tr,dt,e,b,es,bs,f1,o,p,n,m,W,n-1-k,m-1-l,S3,s3,B3,M3,H,rfl,G3,TR,IB,by lia,by lia,hn,hm,TP,V3.ok,by lia,by lia,fun H4 S4 u4 G4=>?_⟩;refine⟨⟨_,rfl⟩,S4,_,_,_,IB.ups u4,G4,?_,by lia,by lia⟩;have:=V3.next TP (show n-1-k<n by lia) (show m-1-l<m by lia);rw[show m-(l+1)=m-1-l by lia];exact this
    ·rintro σ H3 ⟨⟨v3,rfl⟩,S3,s3,B3,M3,IB,G3,V3,Yq,Yr⟩;refine⟨⟨_,_,rfl⟩,S3,s3,B3,M3,IB,G3,?_,by lia,by lia⟩;rw[show n-(k+1)=n-1-k by lia,show(0:Nat)=m-m by lia];exact V3
   ·rintro σ H2 ⟨⟨u,v,rfl⟩,S2,s2,B,M,B8,G2,V2,hB,hM⟩;rw[Nat.sub_self]at V2;exact⟨⟨_,_,rfl⟩,S2,s2,B,M,B8,G2,V2,by lia⟩
  rintro σ H2 ⟨⟨u,v,rfl⟩,S2,s2,B,M,B8,G2,V2,hB⟩;obtain⟨dx,g,dk,km,S1,D⟩:=id G2;obtain⟨dg,dl,dm,kl,HV,ld,mm,og,_⟩:=id D.gr;have HG:=fun a b=>V2.SJ TP IT a b
  refine⟨_,rfl,gx,az,dx,_,_,rfl,D.ob,Hc.cl,Hc.groups,iX tr W g dk,g,dg,_,rfl,og,LL dl dm,g,S1,_,B,rfl,D.gr,by lia,fun H3 r us gs u3 rE xt W3 Mp TD=>?_⟩;have IB:Base H H2 S1:=⟨B8.same,fun a h=>B8.free a ((D.sS a).mpr (.inl h))⟩
  exact q _ r us gs (IB.ups u3).same (B8.same.free rE) xt W3 (fun k a h=>B8.same.free (Mp k a h)) (TD.iff HG)
theorem nY:aL ["taken","shut","pair"] ["taken"] (ar mI):=⟨rfl,rfl,rfl,by decide+kernel,rfl,by decide+kernel,by decide+kernel⟩
include T in
theorem AS{f:Addr}{fd:FuncData}(F:jt K "shut_by" "shut_by" mI f fd):a8 P w K mg base (c7 P w) true 1 f fd ["taken"] wZ:=by
 refine F.gO nY Η (fun bU A outer s H vs Q E hr h hX=>?_)
 ·obtain⟨v,shut,rfl,_⟩:=h;rfl
 ·obtain⟨v,shut,rfl,TV,hlen,q⟩:=h;have hu:=hr.units;have hu:(A.deeper (PyProof.Rows.envOfC "shut_by" (ar mI) s.heap.objs.size f bU)).units+1<cLine:=by lia
  refine⟨_,(ZV (ZH (1) nY.nd j9) (Z1 (Ξ (ZW (@ow _ _ _ _ _ (pv 0))) (ZX (ZU hX.own (Ψ K Γ) (ZI (2) nY.nd) (ZX (@ky _ _ _ _ _ _ _ _ _ hu Β (pv 2) dW Ρ)))) aQ) (ZX (Θ Β)))),?_⟩;refine fun d hd=>?_
  refine⟨fun σ H1=>(∃u,σ=[some v,sR d,u])∧ax H H1∧∃kvs,H1 d=some (.dT kvs)∧m8 kvs shut,?_,?_⟩
  ·refine⟨_,rfl,_,rfl,?_⟩;rcases TV with⟨rfl,rfl⟩|⟨l,us,rfl,hl,P1⟩
   ·refine bg (fun hh=>absurd hh ZA) (fun _=>?_);exact⟨⟨_,rfl⟩,ax.upd hd,[],ae,fun p=>by simp[sP]⟩
   ·refine bg (fun _=>?_) (fun hh=>absurd ZA hh);have Iu:=P1.1;refine⟨_,rfl,l,rfl,⟨_, .of (ax.upd hd _ _ hl)⟩,?_⟩;refine bW (xs:=us) (fun i σ H'=>(∃u,σ=[sR l,sR d,u])∧ax H H'∧∃kvs,H' d=some (.dT kvs)∧kvs.length≤i∧m8 kvs (shut.take i)) ?_ ?_ ?_ ?_
    ·exact⟨⟨_,rfl⟩,ax.upd hd,[],ae,Nat.le_refl _,fun p=>by simp[sP]⟩
    ·rintro i σ H' _ ⟨_,s1,_⟩;exact .of (s1 _ _ hl)
    ·rintro i x σ H' hx ⟨⟨u,rfl⟩,s1,kvs,hD,hk,hS⟩;have hi:i<shut.length:=by rw[←Iu];exact(ZO hx).1
     obtain⟨t,yh,uA⟩:=P1.K0 hi;rw[hx]at yh;cases yh;refine⟨_,rfl,_,rfl,d,_,rfl, .t (k:=bf (pr shut i)) hD (s1 _ _ uA) (aZ UQ),⟨_,rfl⟩,s1.dU hd,_,ae,Nat.le_trans (eZ _ _ _) (by lia),fun p=>?_⟩;have e1:shut.take (i+1)=shut.take i++[pr shut i]:=by rw[List.take_succ,Jl hi];rfl
     rw[i5,e1];by_cases hp:p=pr shut i
     ·rw[Z7 (by rw[hp])];simp[hp]
     ·rw[Z5 (fun z=>hp ?_),hS p]
      ·simp[hp]
      ·simp only[bf,List.cons.injEq,Sum.inl.injEq,and_true]at z;exact Prod.ext z.1 z.2
    ·rintro σ H' ⟨⟨u,rfl⟩,s1,kvs,hD,_,hS⟩;rw[Iu,List.take_length]at hS;exact⟨⟨_,rfl⟩,s1,kvs,hD,hS⟩
  rintro σ H1 ⟨⟨u,rfl⟩,s1,kvs,hD,hS⟩;exact⟨_,rfl,q H1 d kvs s1 hD hS⟩
variable(mK:bM P w K mg base true 1 "shut_by" ["taken"] wZ)
variable(eC:eK P w K mg base true 1 aU "pair_worth" ["self","x","y"] (wM aU))
theorem dQ:aL ["first","second","terms","taken","shut","worths","i","x","row"] ["first","second","terms","taken"] (ar fK):=⟨rfl,rfl,rfl,by decide+kernel,rfl,by decide+kernel,by decide+kernel⟩
include T Tc mK eC in
theorem t_{f:Addr}{fd:FuncData}(F:jt K "open_worths" "open_worths" fK f fd):a8 P w K mg base (c7 P w) true 2 f fd ["first","second","terms","taken"] (tU aU):=by
 refine F.gO dQ Η (fun bU A outer s H vs Q E hr h hX=>?_)
 ·obtain⟨f,g,t,v,c,shut,rfl,_⟩:=h;rfl
 ·obtain⟨f1,g,t,v,c,shut,rfl,hf,hg,TF,TV,RM,SA,VC,q⟩:=h;have hu:=hr.units;have hu:(A.deeper (PyProof.Rows.envOfC "open_worths" (ar fK) s.heap.objs.size f bU)).units+1<cLine:=by lia
  have lx:(c.xs.map V.str).length=c.xs.length:=List.length_map ..;have ly:(c.ys.map V.str).length=c.ys.length:=List.length_map ..;refine⟨_,(Z1 (@aH _ _ (4) _ _ _ _ dQ.nd Ρ (Or.inr rfl) (ZK mK aR (ZJ (pv 3))) (Α) (by exact .inl rfl)) (Z1 (ZH (5) dQ.nd (@bN _ _ _ _ ai)) (Z1 (ZU hX.own (@oP _ K _ _ _ _ _ _ _ (by exact rfl) T.jv (ZJ Γ) (Α) (Α)) (μ K (2) (by exact rfl) (Τ (@aJ _ _ (6) _ dQ.nd Ρ (Or.inr rfl) (by first|exact .inl rfl|exact .inr rfl|assumption)) (Τ (@aJ _ _ (7) _ dQ.nd Ρ (Or.inr rfl) (by first|exact .inl rfl|exact .inr rfl|assumption)) ft))) (Z1 (@ju _ _ _ _ _ _ _ _ _ _ _ _ _ _ _ (8) _ _ (by exact rfl) dQ.nd Ρ (by exact rfl) (show bh ["first","second","terms","taken","shut","worths","i","x","row"] (ar fK) _ ["j","y"] [6,4,2,7] ["i","shut","terms","x"]from⟨rfl,by decide+kernel,by decide+kernel,by decide+kernel,rfl,rfl,by decide+kernel,by decide+kernel,by decide+kernel⟩) (@oP _ K _ _ _ _ _ _ _ (by exact rfl) T.jv (ZJ Β) (Α) (Α)) (fun _ _ _ _ _=>(μ K (2) (by exact rfl) (Τ (ZI (0) (show(["j","y","i","shut","terms","x"]:List Str).Nodup by decide+kernel)) (Τ (ZI (1) (show(["j","y","i","shut","terms","x"]:List Str).Nodup by decide+kernel)) ft)))) (fun _ _ _ _ _=>fz) (fun _ _ _ _ _=>(@oz _ _ _ _ _ _ _ _ (ZW (@qk _ _ _ _ _ hu (@d6 _ _ _ _ _ (ZN (pv 2) (ZJ Γ))) (pv 3))) jQ (ZT (pv 4) eC aR (ZN (pv 5) (ZJ Β))))) (Α) (by intro _;rfl)) (ZX (Ο (ZR K PySem.F.slot_list_append PySem.F.type_list_append bS (pv 5) (ZJ (pv 8))))))) (ZX (Θ (pv 5)))))),?_⟩;refine⟨fun σ H1=>∃d kvs,σ=[sR f1,sR g,sR t,some v,sR d,none,none,none,none]∧ax H H1∧H1 d=some (.dT kvs)∧m8 kvs shut,?_,?_⟩
  ·exact⟨_,rfl,v,shut,rfl,TV,RM,fun H1 d kvs s1 hd hS=>⟨d,kvs,rfl,s1,hd,hS⟩⟩
  rintro σ H1 ⟨d,kvs,rfl,s1,Ys,hS⟩;refine⟨fun σ H2=>∃e,σ=[sR f1,sR g,sR t,some v,sR d,sR e,none,none,none]∧ax H1 H2∧H1 e=none∧H2 e=some (.lst []),?_,?_⟩
  ·exact⟨aF ZA,fun e he=>⟨e,rfl,ax.upd he,he,ae⟩⟩
  rintro σ H2 ⟨e,rfl,s2,JF,MJ⟩;refine⟨fun σ H3=>(∃u1 u2 u3,σ=[sR f1,sR g,sR t,some v,sR d,sR e,u1,u2,u3])∧ax H1 H3∧∃as:List Addr,H3 e=some (.lst (as.map V.ref))∧i9 H3 as (i8 c shut) c.xs.length c.ys.length∧(∀a∈as,H1 a=none∧a≠e)∧as.Nodup,?_,?_⟩
  ·refine⟨_,rfl,f1,rfl,⟨_, .of (s2 _ _ (s1 _ _ hf))⟩,?_⟩;refine yI (xs:=c.xs.map V.str) (fun i σ H'=>(∃u1 u2 u3,σ=[sR f1,sR g,sR t,some v,sR d,sR e,u1,u2,u3])∧ax H1 H'∧∃as:List Addr,H' e=some (.lst (as.map V.ref))∧i9 H' as (i8 c shut) i c.ys.length∧(∀a∈as,H1 a=none∧a≠e)∧as.Nodup) ?_ ?_ ?_ ?_
   ·exact⟨⟨_,_,_,rfl⟩,s2,[],MJ,⟨rfl,fun i a h=>by simp at h⟩,(fun a h=>by cases h), .nil⟩
   ·rintro i σ H' _ ⟨_,s3,_⟩;exact .of (s3 _ _ (s1 _ _ hf))
   ·rintro i x T' σ H' hx ⟨⟨u1,u2,u3,rfl⟩,s3,as,GD,TA,hn,GA⟩ hT;obtain⟨wx,QP,rfl⟩:=mz hx;have hi:i<c.xs.length:=(ZO QP).1;have s4:ax H1 (upd H' T' (.tup [.int i, .str wx])):=s3.trans (ax.upd hT);have QR:=ax.upd (o:= .tup [.int i, .str wx]) hT _ _ GD;have QS:=TA.same (ax.upd (o:= .tup [.int i, .str wx]) hT);refine⟨T',_,rfl, .of ae,rfl,_,_,rfl,_,_,rfl,rfl,?_⟩;generalize upd H' T' (.tup [.int i, .str wx])=H4 at s4 QR QS;clear TA GD s3 hT;refine⟨fun σ H5=>∃r,σ=[sR f1,sR g,sR t,some v,sR d,sR e,sI i,sS wx,sR r]∧ax H4 H5∧H4 r=none∧H5 r=some (.lst (dj c.ys.length (i8 c shut i))),?_,?_⟩
    ·have VF:=s4 _ _ (s1 _ _ hg);refine⟨_,rfl,g,rfl,⟨_, .of VF⟩,fun D hD=>?_⟩;refine vK (xs:=c.ys.map V.str) (fun j ys bq H5=>(∃w1 w2,bq=[w1,w2,sI i,sR d,sR t,sS wx])∧ys=dj j (i8 c shut i)∧H5 D=some (.lst ys)∧ax H4 H5) ⟨⟨_,_,rfl⟩,rfl,ae,ax.upd hD⟩ ?_ ?_ ?_
     ·rintro j ys bq H5 _ ⟨_,_,_,s5⟩;exact .of (s5 _ _ VF)
     ·rintro j y T2 ys bq H5 hy ⟨⟨w1,w2,rfl⟩,rfl,GF,s5⟩ O3;obtain⟨wy,DS,rfl⟩:=mz hy;have hj:j<c.ys.length:=(ZO DS).1;have s6:ax H4 (upd H5 T2 (.tup [.int j, .str wy])):=s5.trans (ax.upd O3);have GG:=ax.upd (o:= .tup [.int j, .str wy]) O3 _ _ GF;refine⟨T2,_,rfl, .of ae,rfl,_,_,rfl,_,_,rfl,rfl,?_⟩;generalize upd H5 T2 (.tup [.int j, .str wy])=H6 at s6 GG;refine oM ?_;refine⟨_,rfl,_,rfl,aF ZA,fun p hp=>?_⟩;have s7:=s6.trans (ax.upd (o:= .tup [.int (i:Int), .int (j:Int)]) hp);have sA:=s4.trans s7;have Gh:=ax.upd (o:= .tup [.int (i:Int), .int (j:Int)]) hp _ _ GG;have len:(dj j (i8 c shut i)).length<sizeLine:=aZ (by rw[dq];lia);have sn:∀u,u=i8 c shut i j→dj j (i8 c shut i)++[bG u]=dj (j+1) (i8 c shut i):=fun u e=>by rw[qv,e]
      have Tp:c.pw ((i:Int),(j:Int))=cK c.same c.fs wx wy:=Case.pw_of (by rw[tw];exact QP) (by rw[tw];exact DS);refine⟨_,rfl,d,_,rfl, .t (k:=bf ((i:Int),(j:Int))) (sA _ _ Ys) ae,_,rfl,?_⟩;rw[hS];refine bg (fun h1=>?_) (fun h1=>?_)
      ·have h1:((i:Int),(j:Int))∈shut:=by simpa using h1
       refine⟨Gh,len,⟨_,_,rfl⟩,?_,ae,s7.dU hD⟩;exact sn none (by simp[i8,mO,h1])
      ·have h1:((i:Int),(j:Int))∉shut:=by simpa using h1
       obtain⟨n,dx,l,dd,vs,T1,e1,e2,e3,e4⟩:=(TF.keep s1).keep sA;refine⟨_,rfl,t,dx,_,rfl,T1.ob,wK n l dd,_,rfl,_,rfl,t,wx,wy,n,c.fs,dx,l,dd,vs,rfl,T1,fun H8 s8=>?_⟩;refine⟨s8 _ _ Gh,len,⟨_,_,rfl⟩,?_,ae,(s7.trans s8).dU hD⟩;exact sn _ (by simp[i8,mO,h1,Tp,e1])
     ·rintro ys bq H5 ⟨_,rfl,GF,s5⟩;rw[ly]at GF;exact⟨D,rfl,s5,hD,GF⟩
    rintro σ H5 ⟨r,rfl,s5,rE,Tq⟩;have VG:r≠e:=Ne.symm (aE QR rE);have hlen:=QS.len;refine⟨_,rfl, .inl ⟨rfl,_, .of (s5 _ _ QR)⟩,_,rfl,e,_,_,rfl,rfl,s5 _ _ QR,aZ (by rw[List.length_map];lia),⟨_,_,_,rfl⟩,(s4.trans s5).dU JF,as++[r],by rw[ae];simp,⟨by simp[hlen],fun k a hk=>?_⟩,fun a ha=>?_,List.nodup_append.mpr ⟨GA,ZF,fun x hx y hy e9=>?_⟩⟩
    ·by_cases h:k<i
     ·rw[Υ UQ]at hk;rw[aj (hn a (Z0 hk)).2];exact s5 _ _ (QS.row k a hk)
     ·rw[Ω UQ]at hk;have xb:k-as.length=0:=by
       have:=(ZO hk).1;simp at this
       lia
      rw[xb]at hk;have:r=a:=by simpa using hk
      subst this;rw[aj VG];have:k=i:=by lia
      rw[this];exact Tq
    ·rcases List.mem_append.mp ha with ha|ha
     ·exact hn a ha
     ·have:a=r:=by simpa using ha
      rw[this];exact⟨s4.free rE,VG⟩
    ·have hy:y=r:=by simpa using hy
     obtain⟨k,hk,ek⟩:=List.mem_iff_getElem.mp hx;have:=QS.row k x (by rw[ι hk,ek]);rw[e9,hy,rE]at this;cases this
   ·rintro σ H' ⟨⟨u1,u2,u3,rfl⟩,s3,as,GD,TA,hn,GA⟩;rw[lx]at TA;exact⟨⟨_,_,_,rfl⟩,s3,as,GD,TA,hn,GA⟩
  rintro σ H3 ⟨⟨u1,u2,u3,rfl⟩,s3,as,GD,TA,hn,GA⟩;exact⟨_,rfl,q H3 e as (s1.trans s3) GD (s1.free JF) TA GA (fun z=>(hn e z).2 rfl) fun a ha=>s1.free (hn a ha).1⟩
variable(mL:m4 P w K mg base true 4 "Trails" aA ["self","worths","terms"] [] (qB aA aU))
variable(hZ:bM P w K mg base true 5 "best_groups" ["trails","worth"] (AI aA))
variable(gA:bM P w K mg base true 6 "make_finding" ["trails","worth","pairs"] (AE aA ay))
theorem j4:aL ["worths","terms","trails","worth"] ["worths","terms"] (ar gv):=⟨rfl,rfl,rfl,by decide+kernel,rfl,by decide+kernel,by decide+kernel⟩
include T Tc fj Rc mL hZ gA in
theorem uL{f:Addr}{fd:FuncData}(F:jt K "make_round" "make_round" gv f fd):a8 P w K mg base (c7 P w) true 7 f fd ["worths","terms"] (oZ aU ay):=by
 refine F.gO j4 Η (fun bU A outer s H vs Q E hr h hX=>?_)
 ·obtain⟨w,t,as,c,f,n,m,rfl,_⟩:=h;rfl
 ·obtain⟨w,t,as,c,f1,n,m,rfl,hw,TA,TF,IT,VE,hn,hm,q0,q1⟩:=h;refine⟨_,(Z1 (@aH _ _ (2) _ _ _ _ j4.nd Ρ (Or.inr rfl) (@sr _ _ _ _ _ _ _ _ _ _ _ _ _ _ mL (hr.mono (ZD)) hX.pass (ZN Γ (ZJ Β)) (Α) (ZD) (Α) (Α)) (Α) (by exact .inl rfl)) (Z1 (@aH _ _ (3) _ _ _ _ j4.nd Ρ (Or.inr rfl) (ZK fj aR (ZJ (@kC _ _ _ _ _ _ _ _ _ _ _ _ _ _ (by exact rfl) (show bh ["worths","terms","trails","worth"] (ar gv) _ ["row"] [] []from⟨rfl,by decide+kernel,by decide+kernel,by decide+kernel,rfl,rfl,by decide+kernel,by decide+kernel,by decide+kernel⟩) (Ψ K (θ K (pv 2))) (fun _ _ _ _ _=>(ZI (0) (show(["row"]:List Str).Nodup by decide+kernel))) (fun _ _ _ _ _=>fz) (fun _ _ _ _ _=>(ZK fj aR (ZJ Γ))) (by intro _;rfl)))) (Α) (by exact .inl rfl)) (Z1 (Ξ (@PW.pt _ _ _ (η (ZW (@lG _ _ _ _ _ (pv 3))) (@pw_or1 _ _ _ _ (Z9 m3 (pv 3) (θ K Β) (aV _))))) (ZX (Θ (@bN _ _ _ _ ai))) aQ) (ZX (Θ (@kC _ _ _ _ _ _ _ _ _ _ _ _ _ _ (by exact rfl) (show bh ["worths","terms","trails","worth"] (ar gv) _ ["pairs"] [2,3] ["trails","worth"]from⟨rfl,by decide+kernel,by decide+kernel,by decide+kernel,rfl,rfl,by decide+kernel,by decide+kernel,by decide+kernel⟩) (Ψ K (ZK hZ aR (ξ (pv 2)))) (fun _ _ _ _ _=>(ZI (0) (show(["pairs","trails","worth"]:List Str).Nodup by decide+kernel))) (fun _ _ _ _ _=>fz) (fun _ _ _ _ _=>(ZK gA aR (ZN Β (ZN (pv 2) (ZJ Γ))))) (by intro _;rfl))))))),?_⟩;refine⟨fun σ H1=>∃x dx e b es,σ=[sR w,sR t,sR x,none]∧ax H H1∧H1 x=some (.ins aA dx (gP c.out c.into e b))∧H1 e=some (.lst (es.map V.ref))∧i9 H1 es (dH f1 c.out c.into) n m∧(0<n→∃bs,qA H1 aA x dx e b es bs f1 c.out c.into n m),?_,?_⟩
  ·refine⟨_,rfl,_,rfl,fun x dx hx EX eX=>?_⟩;have s5:ax H (upd (upd H dx (.own x)) x (.ins aA dx [])):=(ax.upd EX).dU hx;refine⟨x,dx,w,t,c,as,f1,n,m,rfl,ae,by rw[aj eX];exact ae,s5 _ _ hw,TA.same s5,TF.keep s5,hn,hm,fun H6 e b sb VH Te Tb=>?_⟩;obtain⟨es,he,_,TE,_⟩:=Te;refine⟨rfl,x,dx,e,b,es,rfl,SameBut.Ai hx EX sb,VH,he,TE,fun h=>?_⟩;obtain⟨bs,hb,_,Yt,_⟩:=Tb h;exact⟨bs,VH,he,TE,hb,Yt⟩
  rintro σ H1 ⟨x,dx,e,b,es,rfl,s1,lu,AQ,TE,Yu⟩;have Iq:es.length=n:=TE.len;refine⟨fun σ H2=>σ=[sR w,sR t,sR x,some (bG (HX f1 c.out c.into n m))]∧ax H1 H2,?_,?_⟩
  ·refine⟨_,rfl,x,aA,dx,_,_,rfl,lu,Rc.cl,Rc.kH,il c.out c.into e b,e,rfl,⟨_, .of AQ⟩,fun D hD=>?_⟩;refine fA (xs:=es.map V.ref) (fun k ys bq H'=>(∃u,bq=[u])∧ys=((Ι k).map fun i=>bG (oQ ((Ι m).map (dH f1 c.out c.into i))))∧H' D=some (.lst ys)∧ax H1 H') ⟨⟨_,rfl⟩,rfl,ae,ax.upd hD⟩ ?_ ?_ ?_
   ·rintro k ys bq H' _ ⟨_,_,_,s2⟩;exact .of (s2 _ _ AQ)
   ·rintro k v ys bq H' hv ⟨⟨u,rfl⟩,rfl,rW,s2⟩;have hk:k<n:=by rw[←Iq];have:=(ZO hv).1;simpa using this
    obtain⟨rb,g1,g2,g3⟩:=TE.at hk;rw[hv]at g2;cases g2;refine lK ?_;refine⟨_,rfl,rb,(Ι m).map (dH f1 c.out c.into k),rfl,?_,by simpa using hm,fun Qp s3=>?_⟩
    ·rw[s2 _ _ g3,List.map_map];rfl
    ·refine⟨s3 _ _ rW,aZ (by simp;lia),⟨_,rfl⟩,?_,ae,(s2.trans s3).dU hD⟩;rw[List.range_succ,List.map_append];rfl
   ·rintro ys bq H' ⟨_,rfl,rW,s2⟩;rw[List.length_map,Iq]at rW;refine⟨D,(Ι n).map fun i=>oQ ((Ι m).map (dH f1 c.out c.into i)),rfl,by rw[rW,List.map_map];rfl,by simpa using hn,fun Qp s3=>⟨rfl,s2.trans s3⟩⟩
  rintro σ H2 ⟨rfl,s2⟩;have JN:=s1.trans s2;obtain⟨nu,dt,l,d,vs,TM,z1,z2,z3,z4⟩:=TF.keep JN;have MX:=FZ IT c.out c.into;refine⟨fun σ H3=>∃W,HX f1 c.out c.into n m=some W∧c.least≤W∧σ=[sR w,sR t,sR x,sI W]∧H3=H2,?_,?_⟩
  ·refine⟨_,rfl,_,rfl,?_⟩;cases eT:HX f1 c.out c.into n m with
   |none=>
    rw[eT]at MX;refine jS ?_;refine jS ?_;exact⟨aF ZA,fun r rE=>q0 (fun ps hp=>Zn ⟨ps,hp,rfl⟩ (MX _)) _ r (JN.trans (ax.upd rE)) (JN.free rE) ae⟩
   |some W=>
    rw[eT]at MX;refine bg (fun hh=>Zn hh (by simp[bG])) (fun _=>?_);refine⟨_,rfl,_,rfl,t,aU,dt,_,_,rfl,TM.ob,Tc.cl,Tc.least,Hn nu l d,_,_,rfl,rfl,_,rfl,?_⟩;refine bg (fun hh=>?_) (fun hh=>?_)
    ·have hh:W<nu.least:=by simpa using hh
     rw[z4]at hh;exact⟨aF ZA,fun r rE=>q0 (fun ps hp=>by have:=MX.2 _ ⟨ps,hp,rfl⟩;lia) _ r (JN.trans (ax.upd rE)) (JN.free rE) ae⟩
    ·have hh:¬W<nu.least:=by simpa using hh
     rw[z4]at hh;exact⟨W,rfl,by lia,rfl,rfl⟩
  rintro σ H2 ⟨W,eT,hle,rfl,rfl⟩;rw[eT]at MX;obtain⟨VI,w0,VJ⟩:=MX.1;have TP:e8 f1 c.out c.into W:=fun ps hp=>MX.2 _ ⟨ps,hp,rfl⟩
  have SY:0<n:=by
   obtain⟨i,j,_,hi,_⟩:=jV IT w0 (dw w0.ne)
   lia
  obtain⟨bs,TR⟩:=Yu SY;have VL:=TR.keep s2;refine⟨_,rfl,_,rfl,x,dx,e,b,es,bs,f1,c.out,c.into,n,m,W,rfl,VL,IT,VE,hn,hm,TP,fun H3 r us gs s3 rE xt W3 Mp TD=>?_⟩;have IC:∀g∈gs,∀a∈g,∃i j:Nat,a=aP (i,j)∧i<n∧j<m:=fun g hg a ha=>by
   obtain⟨ps,wp,hm⟩:=(TD.mem hg ha).on;exact jV IT wp.1 hm
  have rq:∀g∈gs,g.length≤n*m:=fun g hg=>by
   have:=len_sub g (tT n m) ((TD.qc g hg).imp fun{a b} h e=>by
    rw[e]at h;unfold jy at h;simp at h) fun a ha=>by
    obtain⟨i,j,rfl,hi,hj⟩:=IC g hg a ha;exact lR hi hj
   rw[oY]at this;exact this
  have Eo:=TD.vB IC;have Tr:gs≠[]:=fun z=>by
   obtain⟨i,j,h1,_⟩:=jV IT w0 (dw w0.ne);obtain⟨g,hg,_⟩:=TD.all _ (f'.way VI ⟨w0,VJ.symm⟩ (dw w0.ne) (dw w0.ne));rw[z]at hg;cases hg
  have hW:=W3.1;refine⟨r,rfl,⟨_, .of xt⟩,fun D hD=>?_⟩;refine fA (xs:=us) (fun k ys bq H'=>(∃u,bq=[u,sR x,sI W])∧H' D=some (.lst ys)∧ax H3 H'∧∃ds,cb (fun b=>H2 b=none∧b≠D) H' ay ys ds∧ds.map Fd.pairs=gs.take k∧∀d∈ds,OP f1 c.out c.into W d) ⟨⟨_,rfl⟩,ae,ax.upd hD,[], .nil,rfl,fun d h=>(by cases h)⟩ ?_ ?_ ?_
  ·rintro k ys bq H' _ ⟨_,_,s4,_⟩;exact .of (s4 _ _ xt)
  ·rintro k v ys bq H' hv ⟨⟨u,rfl⟩,Dq,s4,ds,F4,Pf,bY⟩;have hk:k<gs.length:=by rw[←hW];exact(ZO hv).1
   have ek:gs[k]?=some gs[k]:=by simp[hk]
   have i_:gs[k]∈gs:=List.getElem_mem hk;generalize gs[k]=g at ek i_;obtain⟨pa,VM,k1,k2,k3⟩:=W3.2 k g ek;rw[hv]at k1;cases k1;have Ts:=Mp k pa hv;have Pg:pa≠D:=fun z=>by rw[z,hD]at k2;cases k2
   obtain⟨gn,Ph⟩:∃gn:List (Nat×Nat),g=gn.map aP:=by
    refine⟨g.map fun a=>(a.1.toNat,a.2.toNat),?_⟩;rw[List.map_map]
    conv=>lhs;rw[←List.map_id g]
    apply List.map_congr_left;intro a ha;obtain⟨i,j,rfl,_⟩:=IC g i_ a ha;simp[aP]
   obtain⟨i0,j0,z5,z6,z7,z8⟩:∃i j:Nat,dH f1 c.out c.into i j=some W∧i<n∧j<m∧aP (i,j)∈g:=by
    obtain⟨a,ha⟩:=List.exists_mem_of_ne_nil _ (TD.ne g i_);obtain⟨i,j,h1,h2,h3,h4⟩:=Dg TP IT (TD.mem i_ ha);exact⟨i,j,h1,h2,h3,(TD.cls g i_ a ha _).mpr h4⟩
   have Tt:gn.filter (fun q=>decide (dH f1 c.out c.into q.1 q.2=some W))≠[]:=fun z=>by
    rw[Ph]at z8;obtain⟨q9,Yv,e9⟩:=List.mem_map.mp z8;obtain⟨Yw,Yx⟩:=iJ (a:=q9.1) (b:=q9.2) e9;have:q9∈gn.filter (fun q=>decide (dH f1 c.out c.into q.1 q.2=some W)):=List.mem_filter.mpr ⟨Yv,by rw[Yw,Yx];simpa using z5⟩;rw[z]at this;cases this
   obtain⟨ua,Iv⟩:∃q0,(gn.filter fun q=>decide (dH f1 c.out c.into q.1 q.2=some W))[0]?=some q0:=by
    cases e9:gn.filter (fun q=>decide (dH f1 c.out c.into q.1 q.2=some W))with
    |nil=>exact Zn e9 Tt
    |cons a r=>exact⟨a,rfl⟩
   have Pj:=List.mem_filter.mp (Z0 Iv);have Tu:dH f1 c.out c.into ua.1 ua.2=some W:=by simpa using Pj.2
   have Yy:=VL.keep (s3.trans s4);refine lK ?_;refine⟨_,rfl,_,rfl,_,rfl,x,dx,e,b,es,bs,f1,c.out,c.into,n,m,W,pa,VM,gn,ua,rfl,Yy,s4 _ _ k2,by rw[←Ph];exact k3.same s4,fun q hq=>?_,Iv,hn,?_,fun H5 y dy wy rw iy s5 hy L4 DS Tv Yz YA Tw P5 Tq=>?_⟩
   ·have:aP q∈g:=by rw[Ph];exact List.mem_map.mpr ⟨q,hq,rfl⟩
    obtain⟨i,j,h1,h2,h3⟩:=IC g i_ _ this;obtain⟨h4,h5⟩:=iJ (a:=q.1) (b:=q.2) h1
    lia
   ·have:=rq g i_;rw[Ph,List.length_map]at this
    lia
   ·obtain⟨v1,v2,v3,v4⟩:=HW f1 c.out c.into ua.1 ua.1 ua.2 W Λ Tu;have Zx:=F4.1;have YB:ds.length=k:=by
     have:=congrArg List.length Pf;rw[List.length_map,List.length_take]at this
     lia
    have nD:∀{z},H' z=none→z≠D:=fun h z=>by rw[z,Dq]at h;cases h
    have Tx:ax H2 H':=s3.trans s4;refine⟨s5 _ _ Dq,aZ UQ,⟨_,rfl⟩,ae,(s4.trans s5).dU hD,ds++[⟨W,(eL f1 c.out c.into ua.1 ua.1 ua.2).map aP,za (lf f1) c.out c.into ((eL f1 c.out c.into ua.1 ua.1 ua.2).map aP),g⟩],?_,?_,fun d hd=>?_⟩
    ·refine cb.append (F4.keep (fun b o hb e=>by rw[aj hb.2];exact s5 _ _ e) (fun a v e=>by rw[aj (fun z=>by rw[z,Dq]at e;cases e)];exact s5 _ _ e) fun _ h=>h) ⟨rfl,fun k9 d9 e9=>?_⟩;have YC:k9=0:=by
      have:=(ZO e9).1;simp at this
      lia
     subst YC;have e9:=(Z' e9).symm;subst e9;have T5:cU H5 (upd H5 D (.lst (ys++[.ref y]))):=cU.lst (s5 _ _ Dq);refine⟨y,dy,wy,rw,pa,iy,VM,rfl,⟨by rw[aj (nD hy)];exact Yz,by rw[aj (nD DS)];exact Tw,P5.cz T5,?_,by rw[aj Pg];exact s5 _ _ (s4 _ _ k2),((k3.same s4).same s5).cz T5,⟨Tx.free hy,nD hy⟩,⟨Tx.free DS,nD DS⟩,⟨Tx.free Tv,nD Tv⟩,⟨Ts,Pg⟩⟩⟩;rw[aj (nD Tv),Tq]
     congr 2
     have:=congrArg (List.map bG) v4;rw[List.map_map,List.map_map]at this;exact this
    ·rw[List.map_append,Pf,List.take_succ,ek];rfl
    ·rcases List.mem_append.mp hd with hd|hd
     ·exact bY d hd
     ·have:d=⟨W,(eL f1 c.out c.into ua.1 ua.1 ua.2).map aP,za (lf f1) c.out c.into ((eL f1 c.out c.into ua.1 ua.1 ua.2).map aP),g⟩:=by simpa using hd
      subst this;refine⟨rfl,⟨v1,v3⟩,rfl,fun q hq=>?_⟩;have Pd:aP ua∈g:=by rw[Ph];exact List.mem_map.mpr ⟨_,Pj.1,rfl⟩
      have v2:lstP ((eL f1 c.out c.into ua.1 ua.1 ua.2).map aP)=aP ua:=v2;exact(TD.cls g i_ _ Pd q).mpr (.way _ ⟨v1,v3⟩ (by rw[←v2];exact dw v1.ne) hq)
  ·rintro ys bq H' ⟨_,Dq,s4,ds,F4,Pf,bY⟩;rw[hW,List.take_length]at Pf;have sA:=JN.trans (s3.trans s4);exact q1 W gs ds ⟨TP,⟨VI,w0,VJ.symm⟩,hle,TD,Pf,bY⟩ Tr _ D ys sA ((JN.trans s3).free hD) Dq (F4.keep (fun _ _ _ h=>h) (fun _ _ h=>h) fun b hb=>JN.free hb.1)
theorem h_:aL ["worths","findings","finding","i","j"] ["worths","findings"] (ar kN):=⟨rfl,rfl,rfl,by decide+kernel,rfl,by decide+kernel,by decide+kernel⟩
include T Fc in
theorem uM{f:Addr}{fd:FuncData}(F:jt K "shut_pairs" "shut_pairs" kN f fd):a8 P w K mg base (c7 P w) true 1 f fd ["worths","findings"] (tV ay):=by
 refine F.gO h_ Η (fun bU A outer s H vs Q E hr h hX=>?_)
 ·obtain⟨w,md,as,us,ds,f,n,m,rfl,_⟩:=h;rfl
 ·obtain⟨w,md,as,us,ds,f1,n,m,rfl,hw,OB,nw,TA,VN,YD,FL,oj,q⟩:=h;refine⟨_,(ZX (ZU hX.own (Ψ K Β) (ZI (2) h_.nd) (ZX (ZU hX.own (Ψ K (θ K (pv 2))) (μ K (2) (by exact rfl) (Τ (ZI (3) h_.nd) (Τ (ZI (4) h_.nd) ft))) (ZX (@sM _ _ _ _ _ _ jQ (@zP _ _ _ _ _ _ _ (ZL Γ (pv 3)) (pv 4) set_list (by intro _;rfl)) (Α) (Α) (Α))))))),?_⟩;have rows:∀a∈as,∃xs,H a=some (.lst xs):=fun a ha=>by
   obtain⟨k,hk,ek⟩:=List.mem_iff_getElem.mp ha;exact⟨_,TA.row k a (by rw[ι hk,ek])⟩
  have cz:∀H',(∀b o,b∉as→H b=some o→H' b=some o)→cU H H':=fun H' k t v e=>k t _ (fun z=>by
   obtain⟨xs,h⟩:=rows t z;rw[e]at h;cases h) e
  have hlen:=FL.1;refine⟨_,rfl,md,rfl,⟨_, .of VN⟩,?_⟩;refine bW (xs:=us) (fun k σ H1=>(∃u1 u2 u3,σ=[sR w,sR md,u1,u2,u3])∧(∀b o,b∉as→H b=some o→H1 b=some o)∧i9 H1 as (gk f1 ((ds.take k).map Fd.pairs).flatten) n m) ⟨⟨_,_,_,rfl⟩,fun _ _ _ h=>h,TA⟩ ?_ ?_ ?_
  ·rintro k σ H1 _ ⟨_,k1,_⟩;exact .of (k1 _ _ YD VN)
  ·rintro k v σ H1 hv ⟨⟨u1,u2,u3,rfl⟩,k1,T1⟩;have hk:k<ds.length:=by rw[←hlen];exact(ZO hv).1
   have ek:ds[k]?=some ds[k]:=by simp[hk]
   have i_:ds[k]∈ds:=List.getElem_mem hk;generalize ds[k]=d at ek i_;obtain⟨a,dy,wy,iE,pr,lz,iy,e1,F⟩:=FL.2 k d ek;rw[hv]at e1;cases e1;have wC:=F.pp.1;have et:((ds.take (k+1)).map Fd.pairs).flatten=((ds.take k).map Fd.pairs).flatten++d.pairs:=by
    rw[List.take_succ,ek,List.map_append,List.flatten_append];simp
   refine⟨_,rfl,a,ay,dy,_,_,rfl,k1 _ _ F.fa F.ob,Fc.cl,Fc.pairs,ip d.worth wy iE pr,pr,rfl,⟨_, .of (k1 _ _ F.fp F.hp)⟩,?_⟩;refine bW (xs:=iy) (fun l σ H2=>(∃u2 u3,σ=[sR w,sR md,sR a,u2,u3])∧(∀b o,b∉as→H b=some o→H2 b=some o)∧i9 H2 as (gk f1 (((ds.take k).map Fd.pairs).flatten++d.pairs.take l)) n m) ⟨⟨_,_,rfl⟩,k1,by simpa using T1⟩ ?_ ?_ ?_
   ·rintro l σ H2 _ ⟨_,k2,_⟩;exact .of (k2 _ _ F.fp F.hp)
   ·rintro l v σ H2 QT ⟨⟨v2,v3,rfl⟩,k2,T2⟩;have hl:l<d.pairs.length:=by rw[←wC];exact(ZO QT).1
    have el:d.pairs[l]?=some d.pairs[l]:=by simp[hl]
    have hq:=oj d i_ d.pairs[l] (List.getElem_mem hl);generalize d.pairs[l]=g at el hq;obtain⟨i,j,rfl,hi,hj⟩:=hq;obtain⟨t,g1,g2⟩:=F.pp.2 l _ el;rw[QT]at g1;cases g1;have kt:=cz H2 k2 _ _ g2;refine⟨t,_,rfl, .of kt,rfl,_,_,rfl,_,_,rfl,rfl,?_⟩;obtain⟨ra,r1,r2,r3⟩:=T2.at hi;have Qz:ra∈as:=Z0 r1;refine⟨_,rfl,_,rfl,w,_,_,_,rfl,rfl, .of (k2 _ _ nw hw),au r2,_,rfl,ra,_,_,j,rfl,rfl,r3,wN (by rw[dq];exact hj),⟨_,_,rfl⟩,fun b o hb e=>?_,⟨T2.len,fun x b hb=>?_⟩⟩
    ·rw[aj (fun z=>hb (by rw[z];exact Qz))];exact k2 b o hb e
    ·have VO:d.pairs.take (l+1)=d.pairs.take l++[aP (i,j)]:=by rw[List.take_succ,el];rfl
     by_cases e:b=ra
     ·have ex:x=i:=by
       obtain⟨h1,e1⟩:=ZO hb;obtain⟨h2,e2⟩:=ZO r1;exact(List.getElem_inj OB).mp (by rw[e1,e2,e])
      subst ex e;rw[ae];show some (HO.lst ((dj m _).set j (bG none)))=_;rw[E5]
      congr 2
      unfold dj;apply List.map_congr_left;intro y _;unfold gk;rw[VO,←List.append_assoc]
      congr 1
      dsimp only;by_cases ey:y=j
      ·subst ey;rw[if_pos rfl,if_pos ZA]
      ·rw[Z5 ey];have:¬aP (x,y)=aP (x,j):=fun z=>ey (iJ z).2
       simp[this]
     ·rw[aj e,T2.row x b hb]
      congr 2
      unfold dj;apply List.map_congr_left;intro y _;unfold gk;rw[VO,←List.append_assoc];have:¬aP (x,y)=aP (i,j):=fun z=>by
       have hk:=(iJ z).1;subst hk;rw[r1]at hb;exact e (Z' hb).symm
      simp[this]
   ·rintro σ H2 ⟨⟨v2,v3,rfl⟩,k2,T2⟩;rw[wC,List.take_length]at T2;exact⟨⟨_,_,_,rfl⟩,k2,by rw[et];exact T2⟩
  ·rintro σ H1 ⟨_,k1,T1⟩;rw[hlen,List.take_length]at T1;exact q H1 k1 (cz H1 k1) T1
variable(eE:D_ mg "FINDINGS_MOST" (.int 20))
variable(ic:bM P w K mg base true 2 "open_worths" ["first","second","terms","taken"] (tU aU))
variable(gB:bM P w K mg base true 7 "make_round" ["worths","terms"] (oZ aU ay))
variable(iQ:bM P w K mg base true 1 "shut_pairs" ["worths","findings"] (tV ay))
variable(kX:bM P w K mg base true 1 "order_of" ["finding"] (tL ay))
variable(kn:Er K mg "TooMany" kf)
theorem jg:aL ["first","second","terms","worths","findings","made"] ["first","second","terms"] (ar qJ):=⟨rfl,rfl,rfl,by decide+kernel,rfl,by decide+kernel,by decide+kernel⟩
include T jf eE ic gB iQ kX kn in
theorem AU{f:Addr}{fd:FuncData}(F:jt K "compare" "compare" qJ f fd):a8 P w K mg base (c7 P w) true 8 f fd ["first","second","terms"] (xm aU ay kf):=by
 refine F.gO jg Η (fun bU A outer s H vs Q E hr h hX=>?_)
 ·obtain⟨a,b,t,c,rfl,_⟩:=h;rfl
 ·obtain⟨a,b,t,c,rfl,ha,hb,TF,hx,hy,q1,q2⟩:=h;refine⟨_,(Z1 (ZH (3) jg.nd (ZK ic aR (ZN Γ (ZN Β (ZN (pv 2) (ZJ jQ)))))) (Z1 (ZH (4) jg.nd (@bN _ _ _ _ ai)) (Z1 (ZH (5) jg.nd (ZK gB aR (ZN (pv 3) (ZJ (pv 2))))) (Z1 (@sN _ _ _ _ _ _ hX.own (Z9 rm (ZM (aK K) T.c_ (ZJ (pv 5))) af (aV _)) (Z1 (Ο (ZR K PySem.F.slot_list_extend PySem.F.type_list_extend vC (pv 4) (ZJ (pv 5)))) (Z1 (Ξ (Z9 rm (ZM (aK K) T.c_ (ZJ (pv 4))) (ο eE) (aV _)) (ZX (@i6 _ _ _ _ _ _ _ _ _ _ hX Ρ (by exact rfl) kn.m kn.e (ZJ (@mw _ _ _ _ _ _ (@fv _ _ _ _ _ dY (@fv _ _ _ _ _ (@ql _ _ _ _ (ο eE)) (@fv _ _ _ _ _ dY wD))))) (ZD) (Α) (Α))) aQ) (Z1 (Ο (ZK iQ aR (ZN (pv 3) (ZJ (pv 5))))) (ZX (ZH (5) jg.nd (ZK gB aR (ZN (pv 3) (ZJ (pv 2)))))))))) (ZX (Θ (@Fy _ K _ _ _ _ _ _ _ _ _ _ _ kX (hr.mono (ZD)) (pv 4) (by exact rfl) jf (Α) (ZD) (Α) (Α)))))))),?_⟩;have Aq:c.xs.length*c.ys.length≤3000:=Nat.le_trans (Nat.mul_le_mul hx hy) (ZD);have Tz:=K5 c [];refine⟨fun σ H1=>∃w as,σ=[sR a,sR b,sR t,sR w,none,none]∧ax H H1∧H1 w=some (.lst (as.map V.ref))∧i9 H1 as (i8 c []) c.xs.length c.ys.length∧as.Nodup∧w∉as∧∀a∈as,H a=none,?_,?_⟩
  ·exact⟨_,rfl,_,rfl,_,rfl,a,b,t, .cR,c,[],rfl,ha,hb,TF, .inl ⟨rfl,rfl⟩,ZF,by lia,by lia,fun H1 w as s1 h1 _ h3 h4 h5 h6=>⟨w,as,rfl,s1,h1,h3,h4,h5,h6⟩⟩
  rintro σ H1 ⟨w,as,rfl,s1,rX,TC,OB,nw,has⟩;refine⟨fun σ H2=>∃fl,σ=[sR a,sR b,sR t,sR w,sR fl,none]∧ax H1 H2∧H1 fl=none∧H2 fl=some (.lst []),⟨aF ZA,fun fl h=>⟨fl,rfl,ax.upd h,h,ae⟩⟩,?_⟩;rintro σ H2 ⟨fl,rfl,s2,L8,Pk⟩;have alloc:∀x∈as,∃xs,H1 x=some (.lst xs):=fun x hx=>by
   obtain⟨k,hk,ek⟩:=List.mem_iff_getElem.mp hx;exact⟨_,TC.row k x (by rw[ι hk,ek])⟩
  have VP:fl∉as:=fun z=>by
   obtain⟨xs,h⟩:=alloc fl z;rw[L8]at h;cases h
  have ID:w≠fl:=aE rX L8;have rd:∀f H3,(∀x∈as,∃xs,H3 x=some (.lst xs))→H3 w=some (.lst (as.map V.ref))→i9 H3 as f c.xs.length c.ys.length→ax H H3→∀done,Reach (i8 c []) c.out c.into c.least done f→∀(Q':VK)(E':XK),(∀H4 r,ax H3 H4→H3 r=none→∀us ds,H4 r=some (.lst us)→cb (fun b=>H3 b=none) H4 ay us ds→((us=[]∧ds=[]∧Stop f c.out c.into c.least)∨(us≠[]∧∃W gs,g7 f c.out c.into c.least W gs ds))→Q' (.ref r) H4)→oZ aU ay [.ref w, .ref t] H3 Q' E':=fun f H3 al h3 T3 s3 done RC Q' E' k=>by
   refine⟨w,t,as,c,f,_,_,rfl,h3,T3,TF.keep s3,RC.SK Tz,Aq,by lia,by lia,fun st H4 r s4 h4 h5=>k H4 r s4 h4 [] [] h5 .nil (.inl ⟨rfl,rfl,st⟩),fun W gs ds R Tr H4 r us s4 h4 h5 FL=>k H4 r s4 h4 us ds h5 FL (.inr ⟨fun z=>Tr ?_,W,gs,R⟩)⟩;have:=FL.1;rw[z]at this;have:ds=[]:=List.length_eq_zero_iff.mp (by simpa using this.symm);rw[←R.DK,this];rfl
  have VQ:∀b o,b∉as→b≠fl→H1 b=some o→H2 b=some o:=fun b o _ _ e=>s2 b o e
  have MU:=s1.trans s2;refine⟨fun σ H3=>∃md us ds,σ=[sR a,sR b,sR t,sR w,sR fl,sR md]∧ax H2 H3∧H2 md=none∧H3 md=some (.lst us)∧cb (fun b=>H2 b=none) H3 ay us ds∧((us=[]∧ds=[]∧Stop (i8 c []) c.out c.into c.least)∨(us≠[]∧∃W gs,g7 (i8 c []) c.out c.into c.least W gs ds)),?_,?_⟩
  ·exact⟨_,rfl,_,rfl,rd _ H2 (fun x hx=>let ⟨xs,h⟩:=alloc x hx;⟨xs,s2 _ _ h⟩) (s2 _ _ rX) (TC.same s2) MU [] .start _ _ fun H4 r s4 h4 us ds h5 FL z=>⟨r,us,ds,rfl,s4,h4,h5,FL,z⟩⟩
  rintro σ H3 ⟨md,us,ds,rfl,s3,IE,TK,YE,Z3⟩;refine⟨fun σ H5=>∃md ul es f,σ=[sR a,sR b,sR t,sR w,sR fl,sR md]∧ax H H5∧H5 fl=some (.lst ul)∧cb (fun b=>H2 b=none) H5 ay ul es∧Reach (i8 c []) c.out c.into c.least es f∧Stop f c.out c.into c.least∧es.length≤20,?_,?_⟩
  ·refine⟨fun mm σ H4=>∃md us ds ul es f,mm+es.length=20∧σ=[sR a,sR b,sR t,sR w,sR fl,sR md]∧ax H H4∧(∀b o,b∉as→b≠fl→H2 b=some o→H4 b=some o)∧i9 H4 as f c.xs.length c.ys.length∧H4 fl=some (.lst ul)∧cb (fun b=>H2 b=none) H4 ay ul es∧Reach (i8 c []) c.out c.into c.least es f∧H2 md=none∧H4 md=some (.lst us)∧cb (fun b=>H2 b=none) H4 ay us ds∧((us=[]∧ds=[]∧Stop f c.out c.into c.least)∨(us≠[]∧∃W gs,g7 f c.out c.into c.least W gs ds)),⟨20,md,us,ds,[],[],i8 c [],rfl,rfl,MU.trans s3,fun b o _ _ e=>s3 b o e,(TC.same s2).same s3,s3 _ _ Pk, .nil, .start,IE,TK,YE,Z3⟩,?_⟩;rintro mm σ H4 ⟨md,us,ds,ul,es,f1,Zy,rfl,sH,k4,T4,IF,FE,RC,IE,L9,FD,Z4⟩;have YF:∀x∈as,∃xs,H2 x=some (.lst xs):=fun x hx=>let ⟨xs,h⟩:=alloc x hx;⟨xs,s2 _ _ h⟩
   have P2:∀{b},H2 b=none→b∉as:=fun{b} h z=>by
    obtain⟨xs,h'⟩:=YF b z;rw[h]at h';cases h'
   have TL:∀{b},H2 b=none→b≠fl:=fun{b} h z=>by rw[z,Pk]at h;cases h
   have QU:=FE.1;have Zz:=FD.1;refine⟨_,rfl,md,_,rfl, .inl (.of L9),_,_,rfl,rfl,_,rfl,?_⟩;refine bg (fun hh=>?_) (fun hh=>?_)
   ·have hh:0<us.length:=by simpa using hh
    rcases Z4 with⟨z1,_,_⟩|⟨VR,W,gs,R⟩
    ·rw[z1]at hh;simp at hh
    have QC:ds.length≤c.xs.length*c.ys.length:=by
     have:=R.told.vB (n:=c.xs.length) (m:=c.ys.length) fun g hg q hq=>by
      obtain⟨ps,wp,hm⟩:=(R.told.mem hg hq).on;exact jV (RC.SK Tz) wp.1 hm
     rw[←R.DK,List.length_map]at this;exact this
    refine⟨_,fun bq H' z=>z,?_⟩;have YG:md≠fl:=TL IE;refine⟨fun σ H5=>σ=[sR a,sR b,sR t,sR w,sR fl,sR md]∧H5=upd H4 fl (.lst (ul++us)),⟨_,rfl, .inl ⟨rfl,_, .of IF⟩,_,rfl,fl,md,ul,us,rfl,rfl,IF,L9,aF UQ,rfl,rfl⟩,?_⟩;rintro σ H5 ⟨rfl,rfl⟩;have VS:ax H (upd H4 fl (.lst (ul++us))):=sH.dU (s1.free L8);have VT:cU H4 (upd H4 fl (.lst (ul++us))):=cU.lst IF;have YH:cb (fun b=>H2 b=none) (upd H4 fl (.lst (ul++us))) ay ul es:=FE.keep (fun b o hb e=>by rw[aj (TL hb)];exact e) VT fun _ h=>h
    have VU:cb (fun b=>H2 b=none) (upd H4 fl (.lst (ul++us))) ay us ds:=FD.keep (fun b o hb e=>by rw[aj (TL hb)];exact e) VT fun _ h=>h
    have TQ:=RC.round R;refine⟨fun σ H6=>σ=[sR a,sR b,sR t,sR w,sR fl,sR md]∧H6=upd H4 fl (.lst (ul++us))∧(es++ds).length≤20,?_,?_⟩
    ·refine⟨_,rfl,fl,_,rfl, .inl (.of ae),_,_,rfl,rfl,_,rfl,?_⟩;refine bg (fun h9=>?_) (fun h9=>?_)
     ·have h9:20<(ul++us).length:=by
       have:(20:Int)<((ul++us).length:Nat):=by simpa using h9
       lia
      have:=q2 _ _ TQ (by rw[List.length_append]at h9⊢;lia) _ VS;have z:(20:Int).natAbs.log2<1920∧(Str.ofString (toString (20:Int))).length≤6:=⟨ZD,by decide+kernel⟩
      have w1:(Str.ofString "there are at most ").length=18:=by decide+kernel
      have w2:(Str.ofString " findings between two books").length=27:=by decide+kernel
      have w3:=my;refine⟨_,rfl,aF ?_, .inr ⟨20,rfl,z.1,_,rfl,aF ?_,_,rfl,aF ?_,aF ?_,ik,this⟩⟩;all_goals (simp only[len_app];lia)
     ·have h9:¬20<(ul++us).length:=by
       have:¬(20:Int)<((ul++us).length:Nat):=by simpa using h9
       lia
      exact⟨rfl,rfl,by rw[List.length_append]at h9⊢;lia⟩
    rintro σ H6 ⟨rfl,rfl,hle⟩;refine⟨fun σ H7=>σ=[sR a,sR b,sR t,sR w,sR fl,sR md]∧(∀b o,b∉as→upd H4 fl (.lst (ul++us)) b=some o→H7 b=some o)∧cU (upd H4 fl (.lst (ul++us))) H7∧i9 H7 as (gk f1 gs.flatten) c.xs.length c.ys.length,?_,?_⟩
    ·refine⟨_,rfl,_,rfl,w,md,as,us,ds,f1,_,_,rfl,by rw[aj ID];exact k4 _ _ nw ID (s2 _ _ rX),OB,nw,⟨T4.len,fun i x hx=>by rw[aj (fun z=>VP (by rw[←z];exact Z0 hx))];exact T4.row i x hx⟩,by rw[aj YG];exact L9,P2 IE,VU.keep (fun _ _ _ h=>h) (fun _ _ h=>h) (fun _ h=>P2 h),fun d hd q hq=>?_,fun H7 k7 t7 T7=>⟨rfl,k7,t7,by rw[←R.DK];exact T7⟩⟩;have hg:d.pairs∈gs:=by rw[←R.DK];exact List.mem_map.mpr ⟨d,hd,rfl⟩
     obtain⟨ps,wp,hm⟩:=(R.told.mem hg hq).on;exact jV (RC.SK Tz) wp.1 hm
    rintro σ H7 ⟨rfl,k7,t7,T7⟩;have VV:ax H H7:=fun b o e=>k7 b o (fun z=>by rw[has b z]at e;cases e) (VS b o e)
    have VW:∀x∈as,∃xs,H7 x=some (.lst xs):=fun x hx=>by
     obtain⟨k,hk,ek⟩:=List.mem_iff_getElem.mp hx;exact⟨_,T7.row k x (by rw[ι hk,ek])⟩
    have w7:H7 w=some (.lst (as.map V.ref)):=k7 w _ nw (by rw[aj ID];exact k4 _ _ nw ID (s2 _ _ rX));have F7:cb (fun b=>H2 b=none) H7 ay (ul++us) (es++ds):=(YH.append VU).keep (fun b o hb e=>k7 b o (P2 hb) e) t7 fun _ h=>h
    have VX:H7 fl=some (.lst (ul++us)):=k7 fl _ VP ae;refine⟨_,rfl,_,rfl,rd _ H7 VW w7 T7 VV _ TQ _ _ fun H8 r s8 h8 YI YJ YK YL Z8=>?_⟩;have VY:∀b,H7 b=none→H2 b=none:=fun b h=>by
     cases e:H2 b with
     |none=>rfl
     |some o=>
      by_cases TU:b∈as
      ·obtain⟨xs,h'⟩:=VW b TU;rw[h]at h';cases h'
      ·by_cases TX:b=fl
       ·rw[TX,VX]at h;cases h
       ·rw[k7 b o TU (by rw[aj TX];exact k4 b o TU TX e)]at h;cases h
    refine⟨20-(es++ds).length,?_,r,YI,YJ,ul++us,es++ds,_,by lia,rfl,VV.trans s8,fun b o h1 h2 e=>s8 b o (k7 b o h1 (by rw[aj h2];exact k4 b o h1 h2 e)),T7.same s8,s8 _ _ VX,F7.keep (fun b o _ e=>s8 b o e) (cU.same s8) fun _ h=>h,TQ,VY r h8,YK,YL.keep (fun _ _ _ h=>h) (fun _ _ h=>h) fun b h=>VY b h,Z8⟩;rw[List.length_append]at hle⊢
    lia
   ·have hh:us.length=0:=by
     have:¬(0:Int)<(us.length:Nat):=by simpa using hh
     lia
    rcases Z4 with⟨_,_,z3⟩|⟨VR,_⟩
    ·exact⟨md,ul,es,f1,rfl,sH,IF,FE,RC,z3,by lia⟩
    ·exact Zn (List.length_eq_zero_iff.mp hh) VR
  rintro σ H5 ⟨md,ul,es,f1,rfl,sH,TY,FE,RC,ST,hle⟩;have QU:=FE.1;have AP:=RC.apart;have Pl:∀d∈es,lq d.pairs∈d.pairs:=fun d hd=>by
   cases e:d.pairs with
   |nil=>exact Zn e (AP.qc d hd).2
   |cons a r=>simp[lq]
  refine⟨_,rfl,fl,ul,es.map (fun d=>(-d.worth,lq d.pairs)),rfl, .of TY,by rw[List.length_map];lia,?_,by lia,fun i v H6 hv s6=>?_,fun p H6 D hp hs s6 hD GG=>?_⟩
  ·refine List.pairwise_map.mpr (List.Pairwise.imp_of_mem (fun{x y} hx hy Aq e=>?_) AP.ap);have:=(Prod.mk.inj e).2;exact Aq _ (Pl x hx) (by rw[this];exact Pl y hy)
  ·have hi:i<es.length:=by rw[←QU];exact(ZO hv).1
   have ei:es[i]?=some es[i]:=by simp[hi]
   have i_:es[i]∈es:=List.getElem_mem hi;have eg:(es.map fun d=>(-d.worth,lq d.pairs)).getD i (0,(0,0))=(-es[i].worth,lq es[i].pairs):=by simp[hi]
   rw[eg];generalize es[i]=d at ei i_;obtain⟨x,dy,wy,iE,pr,lz,iy,e1,F⟩:=FE.2 i d ei;rw[hv]at e1;cases e1;exact⟨x,dy,wy,iE,pr,d.worth,iy,d.pairs,rfl,s6 _ _ F.ob,s6 _ _ F.hp,F.pp.same s6,(AP.qc d i_).2,fun H7 k t s7 hk ht=>⟨s7,k,t,rfl,hk,ht⟩⟩
  ·have rq:p.toList.Perm (Ι es.length):=by rw[←QU];exact hp
   have L_:∀i∈p.toList,i<es.length:=fun i hi=>by simpa using rq.mem_iff.mp hi
   have dflt:Fd:=⟨0,[],[],[]⟩
   refine q1 (p.toList.map fun i=>es.getD i dflt) ⟨⟨es,f1,RC,ST,?_⟩,?_,?_⟩ _ D _ ((sH.trans s6).dU (sH.free hD)) (sH.free hD) ae ?_
   ·have e1:(Ι es.length).map (fun i=>es.getD i dflt)=es:=by
     apply List.ext_getElem
     ·simp
     ·intro i h1 h2;simp[h2]
    have:=rq.map fun i=>es.getD i dflt
    rw[e1]at this;exact this
   ·rw[List.length_map,rq.length_eq,List.length_range];exact hle
   ·rw[List.pairwise_map,List.pairwise_iff_getElem];intro i j hi hj uy;have hsz:p.size=es.length:=by have:=rq.length_eq;simpa using this
    have:=hs i j uy (by rw[QU,←hsz];simpa using hj);have g1:gd p i=p.toList[i]:=by rw[E8];simp at hi;simp[hi]
    have g2:gd p j=p.toList[j]:=by rw[E8];simp at hj;simp[hj]
    rw[g1,g2]at this;have l1:=L_ _ (List.getElem_mem hi);have l2:=L_ _ (List.getElem_mem hj);generalize p.toList[i]=x at this l1;generalize p.toList[j]=y at this l2;unfold kl zJ at this;unfold Dh;simp only[List.getD_eq_getElem?_getD,List.getElem?_map,ι l1,ι l2,Option.map_some,Option.getD_some]at this⊢;by_cases ew:es[x].worth=es[y].worth
    ·rw[Z7 ew];rw[Z7 (by rw[ew])]at this;exact this
    ·rw[Z5 ew];rw[Z5 (fun z=>ew UQ)]at this;simp at this⊢
     lia
   ·refine⟨ZF,fun k d hk=>?_⟩;rw[List.getElem?_map]at hk;cases e:p.toList[k]? with
    |none=>rw[e]at hk;cases hk
    |some i=>
     rw[e]at hk;have hi:=L_ i (Z0 e);have hd:es.getD i dflt=d:=by simpa using hk
     have ei:es[i]?=some d:=by rw[←hd];simp[hi]
     obtain⟨x,dy,wy,iE,pr,lz,iy,e1,F⟩:=FE.2 i d ei;have nD:∀{b o},H5 b=some o→b≠D:=fun h z=>by rw[z,hD]at h;cases h
     refine⟨x,dy,wy,iE,pr,lz,iy,?_,F.ob|>fun h=>⟨by rw[aj (nD h)];exact s6 _ _ h,by rw[aj (nD F.hw)];exact s6 _ _ F.hw,(F.pw.same s6).same (ax.upd GG),by rw[aj (nD F.hr)];exact s6 _ _ F.hr,by rw[aj (nD F.hp)];exact s6 _ _ F.hp,(F.pp.same s6).same (ax.upd GG),MU.free F.fa,MU.free F.fw,MU.free F.fr,MU.free F.fp⟩⟩;rw[List.getElem?_map,e];show some (ul.getD i .cR)=_;simp[e1]
theorem AV:aL ["_law_script","_law_k"] ["_law_script","_law_k"] (ar qK):=⟨rfl,rfl,rfl,by decide+kernel,rfl,by decide+kernel,by decide+kernel⟩
include T in
theorem AW{f:Addr}{fd:FuncData}(F:jt K "_law_at" "_law_at" qK f fd):a8 P w K mg base (c7 P w) true 1 f fd ["_law_script","_law_k"] (EG K):=by
 refine F.gO AV Η (fun bU A outer s H vs Q E hr h hX=>?_)
 ·obtain⟨a,ns,k,rfl,_⟩:=h;rfl
 ·obtain⟨a,ns,k,rfl,hS,h0,q⟩:=h;refine⟨_,(ZV (Ξ (Z9 m3 Β (ZM (aK K) T.c_ (ZJ Γ)) (aV _)) (ZX (Θ (ZL Γ (pv 1)))) aQ) (ZX (Θ af))),?_⟩;refine⟨_,rfl,_,rfl,a,_,rfl, .inl hS,_,_,rfl,rfl,_,rfl,?_⟩;refine bg (fun h=>?_) (fun h=>?_)
  ·have h:k<((ns.map V.int).length:Int):=by simpa using h
   rw[List.length_map]at h;exact⟨_,rfl,_,rfl,a,_,k,_,rfl,rfl,hS,Hm h0 h,q⟩
  ·have h:¬k<((ns.map V.int).length:Int):=by simpa using h
   rw[List.length_map]at h;rw[cell_out h0 h]at q;exact q
theorem uN:aL ["_law_found"] ["_law_found"] (ar kO):=⟨rfl,rfl,rfl,by decide+kernel,rfl,by decide+kernel,by decide+kernel⟩
include T in
theorem uO{f:Addr}{fd:FuncData}(F:jt K "_law_whole" "_law_whole" kO f fd):a8 P w K mg base (c7 P w) true 1 f fd ["_law_found"] s_:=by
 refine F.gO uN Η (fun bU A outer s H vs Q E hr h hX=>?_)
 ·obtain⟨i,rfl,_⟩:=h;rfl
 ·obtain⟨i,rfl,q⟩:=h;refine⟨_,(ZX (Θ (@wb _ _ _ _ _ _ _ (ZY (f6 K) T.de PyProof.Rows.Boot.«isinstance» (ZN Γ (ZJ (@jq _ _ (.ty "int") _ _ (by exact rfl) T.Bt PyProof.Rows.Boot.«int» Ρ (ZD) (ZD))))) (@v_ _ _ _ _ _ (@J_ _ _ _ _ (ZY (f6 K) T.de PyProof.Rows.Boot.«isinstance» (ZN Γ (ZJ (@jq _ _ (.ty "bool") _ _ (by exact rfl) T.KS PyProof.Rows.Boot.«bool» Ρ (ZD) (ZD)))))))))),?_⟩;refine⟨_,rfl,_,_,_,true,_,rfl,rfl, .int i,rfl,_,rfl,?_⟩;refine jS ?_;exact⟨_,rfl,_,_,_,false,_,rfl,rfl, .int i,by kernel_rfl,_,rfl,q⟩
theorem bH:aL ["_law_cell","_law_other","_law_many","_law_letters","_law_stem","_law_rest","_law_k","_law_size","_law_found","_law_spot","_law_sign"] ["_law_cell","_law_other","_law_many"] (ar lV):=⟨rfl,rfl,rfl,by decide+kernel,rfl,by decide+kernel,by decide+kernel⟩
include T in
theorem xu{f:Addr}{fd:FuncData}(F:jt K "_law_bank" "_law_bank" lV f fd):a8 P w K mg base (c7 P w) true 1 f fd ["_law_cell","_law_other","_law_many"] wQ:=by
 refine F.gO bH Η (fun bU A outer s H vs Q E hr h hX=>?_)
 ·obtain⟨cell,other,many,rfl,_⟩:=h;rfl
 ·obtain⟨cell,other,many,rfl,T8,hm,q⟩:=h;have aaC:=Hq;have VZ:(0:Int)<26:=ZD;have V1:(0:Int)<12:=ZD;refine⟨_,(ZV (ZH (3) bH.nd dY) (ZV (ZH (4) bH.nd dY) (ZV (ZH (5) bH.nd (ZQ dZ Γ af)) (ZV (ZU hX.own (@dN _ _ _ _ _ _ (by exact rfl) T.fC (ZJ af) (Α)) (ZI (6) bH.nd) (ZV (ZH (4) bH.nd (ZQ ny (pv 4) (δ Em (pv 3) (ZQ bD (pv 5) af)))) (ZX (ZH (5) bH.nd (ZQ dZ (pv 5) af))))) (ZV (ZH (7) bH.nd (ZQ bp af (ZQ bD (ZQ dZ Γ af) af))) (ZV (ZH (8) bH.nd (@bN _ _ _ _ ai)) (ZV (ZU hX.own (@dN _ _ _ _ _ _ (by exact rfl) T.fC (ZJ (pv 2)) (Α)) (ZI (6) bH.nd) (ZX (Ξ (Z9 jr (ZQ bD Γ af) af (aV _)) (ZX (Ο (ZR K PySem.F.slot_list_append PySem.F.type_list_append bS (pv 8) (ZJ (@oC _ _ _ _ _ _ _ _ _ _ Ad (pv 4) wk (@oB _ _ _ (ZQ bp af (ZQ bD (ZQ bp (pv 7) (pv 6)) af)))))))) (ZV (ZH (9) bH.nd (ZQ bD Β (pv 7))) (ZV (ZH (10) bH.nd (δ Em (pv 3) (ZQ bD (ZQ bp (ZQ dZ Β af) (pv 6)) af))) (ZX (Ο (ZR K PySem.F.slot_list_append PySem.F.type_list_append bS (pv 8) (ZJ (ZQ ny (ZQ ny (@oC _ _ _ _ _ _ _ _ _ _ Ad (pv 4) wk (@oB _ _ _ (pv 9))) (pv 10)) (@oC _ _ _ _ _ _ _ _ _ _ Ad (pv 4) (@oB _ _ _ (ZQ bp (pv 9) af)) (@oB _ _ _ (pv 7))))))))))))) (ZX (Θ (pv 8)))))))))),?_⟩;refine⟨_,rfl,_,_,rfl,rfl,⟨ZD,ZD⟩,?_⟩;refine⟨12,rfl,ZD,ZD,?_⟩;refine fu (fun i σ H'=>H'=H∧∃(bT:Str)(rest:Int)(kv:Option V),bT.length=i∧lows bT∧σ=[sI cell,sI other,sI many,sS Oc,sS bT,sI rest,kv,none,none,none,none]) ⟨rfl,_,_,_,(by decide+kernel),(show(Str.ofString "").cps.toList.all low=true by decide+kernel),rfl⟩ ?_ ?_
  ·rintro i σ H' hi ⟨rfl,bT,rest,kv,hl,L',rfl⟩;have hi:i<12:=hi;refine⟨_,rfl,_,rfl,_,rfl,_,_,rfl,rfl,VZ,_,_,_,rfl,rfl,aF UQ,EO,_,_,rfl,rfl,aF (show bT.length+1≤100000 by lia),?_⟩;refine⟨_,rfl,_,_,rfl,rfl,⟨ZD,ZD⟩,rfl,_,_,_,?_,?_,rfl⟩
   ·rw[len_app,hl];rfl
   ·have h1:bT.cps.toList.all low=true:=L';have h2:=Bx rest;unfold lows;rw[oO,List.all_append,h1];simp[h2]
  ·rintro σ H' ⟨rfl,bT,rest,kv,hl,L',rfl⟩;have hl:bT.length=12:=hl;refine⟨_,rfl,_,_,rfl,rfl,⟨ZD,ZD⟩,_,_,rfl,rfl,V1,_,_,rfl,rfl,?_⟩;have z0:1≤1+cell/2%12∧1+cell/2%12≤12:=by lia
   refine⟨aF ZA,fun D hD=>?_⟩;refine⟨_,rfl,many,rfl,by lia,by lia,?_⟩;refine fu (fun i σ H2=>(∃u v w,σ=[sI cell,sI other,sI many,sS Oc,sS bT,sI rest,u,sI (1+cell/2%12),sR D,v,w])∧H2 D=some (.lst (((Ι i).map (ka bT cell other)).map V.str))∧ax H' H2) ⟨⟨_,_,_,rfl⟩,ae,ax.upd hD⟩ ?_ ?_
   ·rintro i σ H2 hi ⟨⟨u,v,w,rfl⟩,lA,s2⟩;have hi:i<12:=by lia
    have nx:∀z,z=ka bT cell other i→(Ι i).map (fun k=>V.str (ka bT cell other k))++[V.str z]=((Ι (i+1)).map (ka bT cell other)).map V.str:=fun z e=>by
     rw[List.range_succ,e];simp
    have ig:(((Ι i).map (ka bT cell other)).map V.str).length<sizeLine:=aZ (by simp;lia);refine⟨_,rfl,_,_,rfl,rfl,(show(0:Int)<2 by decide),rfl,_,rfl,?_⟩;refine bg (fun h=>?_) (fun h=>?_)
    ·have h:cell%2=1:=by simpa using h
     refine⟨_,rfl, .inl ⟨rfl,_, .of lA⟩,_,rfl,_,rfl,_,rfl,_,_,rfl,rfl,_,_,rfl,rfl,V1,_,_,rfl,rfl,_,rfl,bT,rfl,aF UQ,D,_,_,rfl,rfl,lA,ig,⟨_,_,_,rfl⟩,?_,s2.dU hD⟩;rw[ae];have:=nx (Txt.slice bT none (some (1+(1+cell/2%12+(0+(i:Int)))%12))) (by simp[ka,h]);rw[←this];simp
    ·have h:¬cell%2=1:=by simpa using h
     have z1:0≤other%(1+cell/2%12)∧other%(1+cell/2%12)<1+cell/2%12:=⟨Int.emod_nonneg _ (by lia),Int.emod_lt_of_pos _ (by lia)⟩
     have b1:=vG bT none (some (other%(1+cell/2%12)));have b2:=vG bT (some (other%(1+cell/2%12)+1)) (some (1+cell/2%12));refine⟨_,rfl,_,rfl,_,_,rfl,rfl,(show(0:Int)<1+cell/2%12 by lia),?_⟩;refine⟨_,rfl,_,rfl,_,_,rfl,rfl,⟨ZD,ZD⟩,_,rfl,_,_,rfl,rfl,_,_,rfl,rfl,VZ,_,_,_,rfl,rfl,aF UQ,EO,?_⟩;refine⟨_,rfl, .inl ⟨rfl,_, .of lA⟩,_,rfl,_,rfl,_,rfl,bT,rfl,aF UQ,_,rfl,_,_,rfl,rfl,aF (show(Txt.slice bT none (some (other%(1+cell/2%12)))).length+1≤100000 by lia),_,rfl,_,rfl,_,_,rfl,rfl,_,rfl,_,rfl,_,rfl,bT,rfl,aF UQ,_,_,rfl,rfl,?_,D,_,_,rfl,rfl,lA,ig,⟨_,_,_,rfl⟩,?_,s2.dU hD⟩
     ·rw[len_app];exact aF (show(Txt.slice bT none (some (other%(1+cell/2%12)))).length+1+_≤100000 by lia)
     rw[ae];have:=nx (Txt.slice bT none (some (other%(1+cell/2%12)))++⟨#[97+((other/12+(0+(i:Int)))%26).toNat]⟩++Txt.slice bT (some (other%(1+cell/2%12)+1)) (some (1+cell/2%12))) (by simp[ka,h]);rw[←this];simp
   ·rintro σ H2 ⟨⟨u,v,w,rfl⟩,lA,s2⟩;refine⟨_,rfl,q H2 D _ s2 hD lA ZA ?_ (Ag hl cell other (by lia))⟩;intro z hz;obtain⟨k,_,rfl⟩:=List.mem_map.mp hz;exact ET hl L' cell other k
variable(a7:bM P w K mg base true 1 "_law_at" ["_law_script","_law_k"] (EG K))
theorem gC:aL ["_law_script","_law_cell","_law_spot","_law_many","_law_bank_here","_law_book_here","_law_rest","_law_k"] ["_law_script","_law_cell","_law_spot","_law_many","_law_bank_here"] (ar lW):=⟨rfl,rfl,rfl,by decide+kernel,rfl,by decide+kernel,by decide+kernel⟩
include T a7 in
theorem xv{f:Addr}{fd:FuncData}(F:jt K "_law_book" "_law_book" lW f fd):a8 P w K mg base (c7 P w) true 2 f fd ["_law_script","_law_cell","_law_spot","_law_many","_law_bank_here"] (wU K):=by
 refine F.gO gC Η (fun bU A outer s H vs Q E hr h hX=>?_)
 ·obtain⟨a,b,ns,zs,c,p,m,rfl,_⟩:=h;rfl
 ·obtain⟨a,b,ns,zs,c,p,m,rfl,hS,hb,⟨YM,Mt⟩,YN,T8,DT,q⟩:=h;refine⟨_,(ZV (ZH (5) gC.nd (@bN _ _ _ _ ai)) (ZV (ZH (6) gC.nd Β) (ZV (ZU hX.own (@dN _ _ _ _ _ _ (by exact rfl) T.fC (ZJ (pv 3)) (Α)) (ZI (7) gC.nd) (ZV (Ο (ZR K PySem.F.slot_list_append PySem.F.type_list_append bS (pv 5) (ZJ (ZL (pv 4) (ZQ bD (ZQ bp (ZQ bp (pv 6) (pv 7)) (ZK a7 aR (ZN Γ (ZJ (ZQ bp (pv 2) (pv 7)))))) (ZM (aK K) T.c_ (ZJ (pv 4)))))))) (ZX (ZH (6) gC.nd (ZQ dZ (pv 6) (ZM (aK K) T.c_ (ZJ (pv 4)))))))) (ZX (Θ (pv 5)))))),?_⟩;refine⟨aF ZA,fun l hl=>?_⟩;refine⟨_,rfl,?_⟩;refine⟨_,rfl,m,rfl,by lia,by lia,?_⟩;refine fu (fun i σ H'=>(∃r u,σ=[sR a,sI c,sI p,sI m,sR b,sR l,sI r,u])∧ax H H'∧∃ws:List Str,H' l=some (.lst (ws.map V.str))∧ws.length=i∧∀w∈ws,w∈zs) ⟨⟨_,_,rfl⟩,ax.upd hl,[],ae,rfl,fun w hw=>by cases hw⟩ ?_ ?_
  ·rintro i σ H' hi ⟨⟨r,u,rfl⟩,s1,ws,lh,rX,Ma⟩;have hi:i<m.toNat:=hi;have jZ:=s1 _ _ hb;have z0:0≤(r+(0+(i:Int))+cell ns (p+(0+(i:Int))))%(zs.length:Int):=Int.emod_nonneg _ (by lia);have z1:(r+(0+(i:Int))+cell ns (p+(0+(i:Int))))%(zs.length:Int)<(zs.length:Int):=Int.emod_lt_of_pos _ (by lia);obtain⟨w,hw,vW⟩:=Af zs z0 z1;have el:(zs.map V.str).length=zs.length:=List.length_map ..;refine⟨_,rfl, .inl ⟨rfl,_, .of lh⟩,_,rfl,_,rfl,_,rfl,_,_,rfl,rfl,_,rfl,_,rfl,_,rfl,_,_,rfl,rfl,a,ns,_,rfl,s1.seq hS,by lia,_,_,rfl,rfl,_,rfl,b,_,rfl, .inl (.of jZ),_,_,rfl,rfl,(by rw[el];show(0:Int)<_;lia),b,_,_,_,rfl,rfl, .of jZ,(by rw[el];exact vW),l,_,_,rfl,rfl,lh,aZ (by rw[List.length_map];lia),?_⟩;have Io:b≠l:=aE hb hl;have yg:upd H' l (.lst (ws.map V.str++[.str w])) b=some (.lst (zs.map V.str)):=by rw[aj Io];exact jZ
   refine⟨_,rfl,_,rfl,b,_,rfl, .inl (.of yg),_,_,rfl,rfl,⟨by rw[el];lia,by rw[el];lia⟩,⟨_,_,rfl⟩,s1.dU hl,ws++[w],?_,by simp[rX],?_⟩
   ·rw[ae];simp
   ·intro x hx;rcases List.mem_append.mp hx with hx|hx
    ·exact Ma x hx
    ·have:x=w:=by simpa using hx
     rw[this];exact hw
  ·rintro σ H' ⟨⟨r,u,rfl⟩,s1,ws,lh,rX,Ma⟩;exact⟨_,rfl,q H' l ws s1 hl lh rX Ma⟩
theorem cx:aL ["_law_script","_law_cell","_law_spot","_law_many","_law_first","_law_bank_here","_law_book_here","_law_rest","_law_place","_law_k","_law_pick"] ["_law_script","_law_cell","_law_spot","_law_many","_law_first","_law_bank_here"] (ar iL):=⟨rfl,rfl,rfl,by decide+kernel,rfl,by decide+kernel,by decide+kernel⟩
include T a7 in
theorem uP{f:Addr}{fd:FuncData}(F:jt K "_law_quote" "_law_quote" iL f fd):a8 P w K mg base (c7 P w) true 2 f fd ["_law_script","_law_cell","_law_spot","_law_many","_law_first","_law_bank_here"] (tD K):=by
 refine F.gO cx Η (fun bU A outer s H vs Q E hr h hX=>?_)
 ·obtain⟨a,b,x,ns,zs,Mb,c,p,m,rfl,_⟩:=h;rfl
 ·obtain⟨a,b,x,ns,zs,Mb,c,p,m,rfl,hS,hb,hx,⟨YM,Mt⟩,yj,T9,YN,T8,DT,q⟩:=h;have hu:=hr.units;have L5:(A.deeper (PyProof.Rows.envOfC "_law_quote" (ar iL) s.heap.objs.size f bU)).units<cLine:=by lia
  have c8:(0:Int)<8:=ZD;refine⟨_,(ZV (ZH (6) cx.nd (@bN _ _ _ _ ai)) (ZV (ZH (7) cx.nd Β) (ZV (ZH (8) cx.nd af) (ZV (ZU hX.own (@dN _ _ _ _ _ _ (by exact rfl) T.fC (ZJ (pv 3)) (Α)) (ZI (9) cx.nd) (ZV (ZH (10) cx.nd (ZQ bp (pv 7) (ZK a7 aR (ZN Γ (ZJ (ZQ bp (pv 2) (pv 9))))))) (ZV (ZH (7) cx.nd (ZQ dZ (pv 7) (ZQ jR af (ZM (aK K) T.c_ (ZJ (pv 5)))))) (ZX (Ξ (@PW.pt _ _ _ (@pw_and _ _ _ _ _ _ _ (Z9 m3 (ZQ bD (pv 10) af) af (aV _)) (@pw_and1 _ _ _ _ (Z9 (tf K L5) (pv 4) (@bN _ _ _ _ ai) (aV _))))) (ZV (ZH (8) cx.nd (ZQ bp (pv 8) (ς qh Ρ T.Bt PyProof.Rows.Boot.«int» (ZJ (@iG _ _ _ _ _ _ _ _ jr (ZQ bD (pv 10) af) af (aV _)))))) (ZV (Ο (ZR K PySem.F.slot_list_append PySem.F.type_list_append bS (pv 6) (ZJ (ZL (pv 4) (ZQ bD (pv 8) (ZM (aK K) T.c_ (ZJ (pv 4)))))))) (ZX (ZH (8) cx.nd (ZQ bp (pv 8) af))))) (ZX (Ο (ZR K PySem.F.slot_list_append PySem.F.type_list_append bS (pv 6) (ZJ (ZL (pv 5) (ZQ bD (ZQ dZ (pv 10) af) (ZM (aK K) T.c_ (ZJ (pv 5)))))))))))))) (ZX (Θ (pv 6))))))),?_⟩;refine⟨aF ZA,fun l hl=>?_⟩;refine⟨_,rfl,?_⟩;refine⟨_,rfl,m,rfl,by lia,by lia,?_⟩;refine fu (fun i σ H'=>(∃(r pl:Int)(u1 u2:Option V),σ=[sR a,sI c,sI p,sI m,sR x,sR b,sR l,sI r,sI pl,u1,u2])∧ax H H'∧∃ws:List Str,H' l=some (.lst (ws.map V.str))∧ws.length=i∧∀w∈ws,w∈zs) ⟨⟨_,_,_,_,rfl⟩,ax.upd hl,[],ae,rfl,fun w hw=>by cases hw⟩ ?_ ?_
  ·rintro i σ H' hi ⟨⟨r,pl,u1,u2,rfl⟩,s1,ws,lh,rX,Ma⟩;have hi:i<m.toNat:=hi;have jZ:=s1 _ _ hb;have lu:=s1 _ _ hx;have el:(zs.map V.str).length=zs.length:=List.length_map ..;have V4:(Mb.map V.str).length=Mb.length:=List.length_map ..;have ig:(ws.map V.str).length<sizeLine:=aZ (by rw[List.length_map];lia);refine⟨_,rfl,_,rfl,_,rfl,_,rfl,_,_,rfl,rfl,a,ns,_,rfl,s1.seq hS,by lia,_,_,rfl,rfl,?_⟩;refine⟨_,rfl,_,rfl,b,_,rfl, .inl (.of jZ),_,_,rfl,rfl, .inl (ZD),_,_,rfl,rfl,⟨by rw[el];lia,by rw[el];lia⟩,?_⟩;have fin:∀H3 (w:Str),ax H H3→H3 l=some (.lst (ws.map V.str))→w∈zs→ax H (upd H3 l (.lst (ws.map V.str++[.str w])))∧∃T_:List Str,upd H3 l (.lst (ws.map V.str++[.str w])) l=some (.lst (T_.map V.str))∧T_.length=i+1∧∀w∈T_,w∈zs:=fun H3 w s3 h3 hw=>by
    refine⟨s3.dU hl,ws++[w],by rw[ae];simp,by simp[rX],fun x hx=>?_⟩;rcases List.mem_append.mp hx with hx|hx
    ·exact Ma x hx
    ·have:x=w:=by simpa using hx
     rw[this];exact hw
   have other:∀H3,ax H H3→H3 l=some (.lst (ws.map V.str))→H3 b=some (.lst (zs.map V.str))→∃w,w∈zs∧rO (zs.map V.str) ((r+cell ns (p+(0+(i:Int))))/8%((zs.map V.str).length:Int))=some (.str w):=fun H3 _ _ _=>by
    rw[el];exact Af zs (Int.emod_nonneg _ (by lia)) (Int.emod_lt_of_pos _ (by lia))
   refine⟨_,rfl,_,_,rfl,rfl,c8,_,_,rfl,rfl,_,rfl,?_⟩;refine bg (fun h1=>?_) (fun h1=>?_)
   ·refine⟨_,rfl,aF ZA,fun pn MV=>⟨x,pn,_,rfl,rfl, .of (ax.upd MV _ _ lu), .of ae,_,rfl,?_⟩⟩;have s2:ax H (upd H' pn (.lst [])):=s1.trans (ax.upd MV);have wC:=ax.upd (o:= .lst []) MV _ _ lh;refine bg (fun h2=>?_) (fun h2=>?_)
    ·have eX:Mb≠[]:=by simpa using h2
     have Ua:0<Mb.length:=List.length_pos_iff.mpr eX;obtain⟨w,hw,vW⟩:=Af Mb (i:=(pl+(if decide ((r+cell ns (p+(0+(i:Int))))%8=4)=true then 1 else 0))%((Mb.length:Nat):Int)) (Int.emod_nonneg _ (by lia)) (Int.emod_lt_of_pos _ (by lia));obtain⟨a1,a2⟩:=fin _ w s2 wC (T9 w hw);refine⟨_,rfl,_,rfl,_,_,rfl,rfl,c8,rfl, .inr ⟨_,rfl,_,_,rfl,rfl,?_⟩⟩;refine⟨_,rfl, .inl ⟨rfl,_, .of wC⟩,_,rfl,_,rfl,_,rfl,x,_,rfl, .inl (.of (s2 _ _ hx)),_,_,rfl,rfl,(by rw[V4];show(0:Int)<_;lia),x,_,_,_,rfl,rfl, .of (s2 _ _ hx),by rw[V4];simpa[beq_iff_eq,wu]using vW,l,_,_,rfl,rfl,wC,ig,?_⟩;exact⟨_,rfl,_,_,rfl,rfl,⟨_,_,_,_,rfl⟩,a1,a2⟩
    ·obtain⟨w,hw,vW⟩:=other _ s2 wC (s2 _ _ hb);obtain⟨a1,a2⟩:=fin _ w s2 wC hw;refine⟨_,rfl, .inl ⟨rfl,_, .of wC⟩,_,rfl,_,rfl,_,_,rfl,rfl,⟨ZD,ZD⟩,_,rfl,b,_,rfl, .inl (.of (s2 _ _ hb)),_,_,rfl,rfl,(by rw[el];show(0:Int)<_;lia),b,_,_,_,rfl,rfl, .of (s2 _ _ hb),vW,l,_,_,rfl,rfl,wC,ig,⟨_,_,_,_,rfl⟩,a1,a2⟩
   ·refine f_ ?_;obtain⟨w,hw,vW⟩:=other _ s1 lh jZ;obtain⟨a1,a2⟩:=fin _ w s1 lh hw;refine⟨_,rfl, .inl ⟨rfl,_, .of lh⟩,_,rfl,_,rfl,_,_,rfl,rfl,⟨ZD,ZD⟩,_,rfl,b,_,rfl, .inl (.of jZ),_,_,rfl,rfl,(by rw[el];show(0:Int)<_;lia),b,_,_,_,rfl,rfl, .of jZ,vW,l,_,_,rfl,rfl,lh,ig,⟨_,_,_,_,rfl⟩,a1,a2⟩
  ·rintro σ H' ⟨⟨r,pl,u1,u2,rfl⟩,s1,ws,lh,rX,Ma⟩;exact⟨_,rfl,q H' l ws s1 hl lh rX Ma⟩
theorem eF:aL ["_law_script","_law_spot","_law_pick","_law_same","_law_most"] ["_law_script","_law_spot"] (ar gw):=⟨rfl,rfl,rfl,by decide+kernel,rfl,by decide+kernel,by decide+kernel⟩
include T a7 in
theorem r6{f:Addr}{fd:FuncData}(F:jt K "_law_numbers" "_law_numbers" gw f fd):a8 P w K mg base (c7 P w) true 2 f fd ["_law_script","_law_spot"] (nF K):=by
 refine F.gO eF Η (fun bU A outer s H vs Q E hr h hX=>?_)
 ·obtain⟨a,ns,k,rfl,_⟩:=h;rfl
 ·obtain⟨a,ns,k,rfl,hS,h0,q⟩:=h;have c2:(0:Int)<2:=ZD;have c4:(0:Int)<4:=ZD;have c6:(0:Int)<6:=ZD;have cM:(0:Int)<1000000:=ZD;have V5:∀i:Int,Kg i 4:=fun i=>⟨ZD,ZD⟩
  have YO:∀i:Int,Kg i 8:=fun i=>⟨ZD,ZD⟩
  refine⟨_,(ZV (@ju _ _ _ _ _ _ _ _ _ _ _ _ _ _ _ (2) _ _ (by exact rfl) eF.nd Ρ (by exact rfl) (show bh ["_law_script","_law_spot","_law_pick","_law_same","_law_most"] (ar gw) _ ["_law_k"] [0,1] ["_law_script","_law_spot"]from⟨rfl,by decide+kernel,by decide+kernel,by decide+kernel,rfl,rfl,by decide+kernel,by decide+kernel,by decide+kernel⟩) (@dN _ _ _ _ _ _ (by exact rfl) T.fC (ZJ af) (Α)) (fun _ _ _ _ _=>(ZI (0) (show(["_law_k","_law_script","_law_spot"]:List Str).Nodup by decide+kernel))) (fun _ _ _ _ _=>fz) (fun _ _ _ _ _=>(ZK a7 aR (ZN Β (ZJ (ZQ bp (pv 2) (pv 0)))))) (Α) (by intro _;rfl)) (ZV (Ξ (Z9 m3 (ZZ bD af) af (aV _)) (ZV (ZH (3) eF.nd (ZQ bp af (ZQ bD (ZZ dZ af) af))) (ZX (Θ (@bN _ _ _ _ (ZN (pv 3) (ZN (ZZ bD af) (ZN (ZZ bD af) (ZJ (ZQ bp af (ZZ bD (ZQ jR af (pv 3)))))))))))) aQ) (ZV (ZH (3) eF.nd (ZQ bp af (ZQ bD (ZZ dZ af) af))) (ZV (ZH (4) eF.nd (ZL (@bN _ _ _ _ (υ (ZY (qg rfl) T.EF PyProof.Rows.Boot.«min» (ZN af (ZJ (ZQ jR af (pv 3))))))) (ZQ bD (ZZ dZ af) af))) (ZX (Θ (@bN _ _ _ _ (ZN (pv 3) (ZN (ZZ bD af) (ZN (ZZ bD af) (ZJ (ZQ bp af (ZZ bD (pv 4)))))))))))))),?_⟩;refine⟨4,rfl,ZD,ZD,fun D hD=>?_⟩;refine sX (fun i ys bq H'=>(∃u,bq=[u,sR a,sI k])∧∃is:List Int,ys=is.map V.int∧is.length=i∧H' D=some (.lst ys)∧ax H H') ⟨⟨_,rfl⟩,[],rfl,rfl,ae,ax.upd hD⟩ ?_ ?_
  ·rintro i ys bq H' hi ⟨⟨u,rfl⟩,is,rfl,hl,Ub,s1⟩;have hi:i<4:=hi;refine lK ?_;exact⟨_,rfl,_,rfl,_,rfl,_,_,rfl,rfl,a,ns,_,rfl,s1.seq hS,by lia,Ub,aZ (by rw[List.length_map];lia),⟨_,rfl⟩,is++[cell ns (k+(0+(i:Int)))],ZF,by simp[hl],ae,s1.dU hD⟩
  ·rintro ys bq H1 ⟨_,is,rfl,hl,rW,s1⟩;obtain⟨p0,p1,p2,p3,rfl⟩:=By hl;refine⟨_,rfl,D,_,0,_,rfl,rfl, .of rW,Zo (j:=0),_,_,rfl,rfl,c4,_,_,rfl,rfl,_,rfl,?_⟩;refine bg (fun _=>?_) (fun _=>?_)
   ·refine⟨_,rfl,D,_,0,_,rfl,rfl, .of rW,Zo (j:=0),_,_,rfl,rfl,V5 _,_,_,rfl,rfl,c6,_,_,rfl,rfl,?_⟩;have z0:1≤1+p0/4%6∧1+p0/4%6≤6:=by lia
    have z3:0≤p3%(3*(1+p0/4%6)):=Int.emod_nonneg _ (by lia);have z4:p3%(3*(1+p0/4%6))<3*(1+p0/4%6):=Int.emod_lt_of_pos _ (by lia);exact⟨_,rfl,_,rfl,D,_,1,_,rfl,rfl, .of rW,Zo (j:=1),_,_,rfl,rfl,c4,_,rfl,D,_,2,_,rfl,rfl, .of rW,Zo (j:=2),_,_,rfl,rfl,c4,_,rfl,D,_,3,_,rfl,rfl, .of rW,Zo (j:=3),_,rfl,_,_,rfl,rfl, .inl (ZD),_,_,rfl,rfl,(show(0:Int)<3*(1+p0/4%6) by lia),_,_,rfl,rfl,aF ZA,fun p hp=>q _ p _ _ _ _ (s1.trans (ax.upd hp)) (s1.free hp) ae UQ (by lia) (by lia) (by lia)⟩
   ·refine⟨_,rfl,D,_,0,_,rfl,rfl, .of rW,Zo (j:=0),_,_,rfl,rfl,YO _,_,_,rfl,rfl,(show(0:Int)<999999 by decide),_,_,rfl,rfl,?_⟩;have z0:1≤1+p0/8%999999∧1+p0/8%999999≤999999:=by lia
    obtain⟨m,DT,hm⟩:=int_at [if 3*(1+p0/8%999999)<999999 then 3*(1+p0/8%999999)else 999999,999999] (i:=p0/4%2) (by lia) (show p0/4%2<2 by lia);have Iy:1≤m∧m≤999999:=by
     simp only[List.mem_cons,List.not_mem_nil,or_false]at DT;rcases DT with rfl|rfl
     ·split<;>lia
     ·lia
    refine⟨_,rfl,_,_,rfl,rfl, .inl (ZD),_,_,rfl,aF ZA,fun p hp=>?_⟩;have lA:=ax.upd (o:= .lst [.int (if 3*(1+p0/8%999999)<999999 then 3*(1+p0/8%999999)else 999999), .int 999999]) hp _ _ rW;refine⟨_,rfl,D,_,0,_,rfl,rfl, .of lA,Zo (j:=0),_,_,rfl,rfl,V5 _,_,_,rfl,rfl,c2,p,_,_,_,rfl,rfl, .of ae,hm,?_⟩;have z3:0≤p3%m:=Int.emod_nonneg _ (by lia);have z4:p3%m<m:=Int.emod_lt_of_pos _ (by lia);exact⟨_,rfl,_,rfl,D,_,1,_,rfl,rfl, .of lA,Zo (j:=1),_,_,rfl,rfl,cM,_,rfl,D,_,2,_,rfl,rfl, .of lA,Zo (j:=2),_,_,rfl,rfl,cM,_,rfl,D,_,3,_,rfl,rfl, .of lA,Zo (j:=3),_,rfl,_,_,rfl,rfl,(show(0:Int)<m by lia),_,_,rfl,rfl,aF ZA,fun p2 Cp=>q _ p2 _ _ _ _ ((s1.trans (ax.upd hp)).trans (ax.upd Cp)) ((s1.trans (ax.upd hp)).free Cp) ae UQ (by lia) (by lia) (by lia)⟩
theorem dB:aL ["_law_cell","_law_bank_here","_law_same","_law_found","_law_rest","_law_x","_law_y","_law_price"] ["_law_cell","_law_bank_here","_law_same"] (ar lX):=⟨rfl,rfl,rfl,by decide+kernel,rfl,by decide+kernel,by decide+kernel⟩
include T in
theorem xw{f:Addr}{fd:FuncData}(F:jt K "_law_near" "_law_near" lX f fd):a8 P w K mg base (c7 P w) true 1 f fd ["_law_cell","_law_bank_here","_law_same"] wR:=by
 refine F.gO dB Η (fun bU A outer s H vs Q E hr h hX=>?_)
 ·obtain⟨cell,same,b,zs,rfl,_⟩:=h;rfl
 ·obtain⟨cell,same,b,zs,rfl,hb,YQ,hw,hn,XI,Ki,q⟩:=h;have Je:(0:Int)<same+3:=by lia
  refine⟨_,(ZV (ZH (3) dB.nd (@bN _ _ _ _ ai)) (ZV (ZH (4) dB.nd Γ) (ZV (ZU hX.own (Ψ K Β) (ZI (5) dB.nd) (ZX (ZU hX.own (Ψ K Β) (ZI (6) dB.nd) (ZX (Ξ (Z9 vm (pv 5) (pv 6) (aV _)) (ZV (ZH (7) dB.nd (ZQ bD (ZQ dZ (pv 4) af) (ZQ bp (pv 2) af))) (Z1 (Ξ (Z9 jr (ZQ bD (pv 4) af) af (aV _)) (ZV (Ο (ZR K PySem.F.slot_list_append PySem.F.type_list_append bS (pv 3) (ZJ (@d6 _ _ _ _ _ (ZN (pv 5) (ZN (pv 6) (ZJ (ZY (qg rfl) T.EF PyProof.Rows.Boot.«min» (υ (pv 7)))))))))) (ZX (ZH (4) dB.nd (ZQ dZ (pv 4) (ZQ bp (pv 2) af))))) (ZX (Ξ (Z9 jr (ZQ bD (pv 4) af) af (aV _)) (ZX (Ο (ZR K PySem.F.slot_list_append PySem.F.type_list_append bS (pv 3) (ZJ (@d6 _ _ _ _ _ (ZN (pv 5) (υ (pv 6)))))))) aQ))) (ZX (ZH (4) dB.nd (ZQ dZ (pv 4) af))))) aQ))))) (ZX (Θ (pv 3)))))),?_⟩;refine⟨aF ZA,fun l hl=>?_⟩;refine⟨_,rfl,?_⟩;have ZC:b≠l:=aE hb hl;refine⟨_,rfl,b,rfl,⟨_, .of (ax.upd hl _ _ hb)⟩,?_⟩;refine bW (xs:=zs.map V.str) (fun i σ H'=>(∃(rest:Int)(u1 u2 u3:Option V),σ=[sI cell,sR b,sI same,sR l,sI rest,u1,u2,u3])∧ax H H'∧∃xs fs,H' l=some (.lst xs)∧cT H' xs fs∧dh zs i 0 fs) ⟨⟨_,_,_,_,rfl⟩,ax.upd hl,[],[],ae, .nil, .nil⟩ ?_ ?_ ?_
  ·rintro i σ H' _ ⟨_,s1,_⟩;exact .of (s1 _ _ hb)
  ·rintro i v σ H' hv ⟨⟨rest,u1,u2,u3,rfl⟩,s1,xs,fs,lh,T1,P1⟩;obtain⟨x,hx,rfl⟩:∃x,zs[i]?=some x∧v= .str x:=mz hv;have hi:i<zs.length:=(ZO hx).1;refine⟨_,rfl,b,rfl,⟨_, .of (s1 _ _ hb)⟩,?_⟩;refine bW (xs:=zs.map V.str) (fun j σ H'=>(∃(rest:Int)(u2 u3:Option V),σ=[sI cell,sR b,sI same,sR l,sI rest,sS x,u2,u3])∧ax H H'∧∃xs fs,H' l=some (.lst xs)∧cT H' xs fs∧dh zs i j fs) ⟨⟨_,_,_,rfl⟩,s1,xs,fs,lh,T1,P1⟩ ?_ ?_ ?_
   ·rintro j σ H' _ ⟨_,s1,_⟩;exact .of (s1 _ _ hb)
   ·clear s1 lh T1 P1 xs fs u1 u2 u3 rest H';rintro j v σ H' hv ⟨⟨rest,u2,u3,rfl⟩,s1,xs,fs,lh,T1,P1⟩;obtain⟨y,hy,rfl⟩:∃y,zs[j]?=some y∧v= .str y:=mz hv;have Eo:xs.length<1000:=by
     have h1:=P1.vB;have h2:i*(zs.length-1)≤8*7:=Nat.mul_le_mul UQ (by lia);have h3:j<zs.length:=(ZO hy).1;have h4:=T1.1
     lia
    refine⟨_,rfl,_,rfl,rfl,_,rfl,?_⟩;refine bg (fun h=>?_) (fun h=>?_)
    rotate_left
    ·exact⟨⟨_,_,_,rfl⟩,s1,xs,fs,lh,T1,P1.skip⟩
    have eX:¬x=y:=by simpa using h
    refine⟨_,rfl,_,_,rfl,rfl,⟨ZD,ZD⟩,_,rfl,_,_,rfl,rfl,_,_,rfl,rfl,Je,?_⟩;have p0:0≤rest/3%(same+3):=Int.emod_nonneg _ (by lia);have add:∀(t:Addr)(ht:H' t=none)(pr:Int),0≤pr→pr≤999999→ax H (upd (upd H' t (.tup [.str x, .str y, .int pr])) l (.lst (xs++[.ref t])))∧∃Gi B9,upd (upd H' t (.tup [.str x, .str y, .int pr])) l (.lst (xs++[.ref t])) l=some (.lst Gi)∧cT (upd (upd H' t (.tup [.str x, .str y, .int pr])) l (.lst (xs++[.ref t]))) Gi B9∧dh zs i (j+1) B9:=fun t ht pr h0 h1=>by
     refine⟨(s1.trans (ax.upd ht)).dU hl,_,fs++[(x,y,pr)],ae,?_,P1.add hn hw hx hy eX h0 h1⟩;have T2:cT (upd H' t (.tup (EH (x,y,pr)))) (xs++[.ref t]) (fs++[(x,y,pr)]):=(T1.same (ax.upd ht)).snoc ae;exact T2.cz (cU.lst (ax.upd ht _ _ lh))
    refine⟨fun σ H2=>(∃(rest:Int)(u3:Option V),σ=[sI cell,sR b,sI same,sR l,sI rest,sS x,sS y,u3])∧ax H H2∧∃xs fs,H2 l=some (.lst xs)∧cT H2 xs fs∧dh zs i (j+1) fs,?_,?_⟩
    ·refine⟨_,rfl,_,_,rfl,rfl,(show(0:Int)<3 by decide),rfl,_,rfl,?_⟩;refine bg (fun _=>?_) (fun _=>?_)
     ·refine⟨_,rfl, .inl ⟨rfl,_, .of lh⟩,_,rfl,_,rfl,_,rfl,_,_,rfl,aF ZA,fun t ht=>⟨l,xs,_,rfl,rfl,ax.upd ht _ _ lh,aZ UQ,?_⟩⟩;obtain⟨a1,a2⟩:=add t ht (if 999999<rest/3%(same+3)then 999999 else rest/3%(same+3)) (by split<;>lia) (by split<;>lia);exact⟨_,rfl,_,rfl,_,_,rfl,rfl,_,_,rfl,rfl,⟨Je,by lia⟩,⟨_,_,rfl⟩,a1,a2⟩
     ·refine⟨_,rfl,_,_,rfl,rfl,(show(0:Int)<9 by decide),rfl,_,rfl,?_⟩;refine bg (fun _=>?_) (fun _=>?_)
      ·refine⟨_,rfl, .inl ⟨rfl,_, .of lh⟩,_,rfl,_,rfl,aF ZA,fun t ht=>⟨l,xs,_,rfl,rfl,ax.upd ht _ _ lh,aZ UQ,?_⟩⟩;obtain⟨a1,a2⟩:=add t ht 999999 (ZD) (ZD);exact⟨⟨_,_,rfl⟩,a1,a2⟩
      ·exact⟨⟨_,_,rfl⟩,s1,xs,fs,lh,T1,P1.skip⟩
    rintro σ H2 ⟨⟨JO,u4,rfl⟩,s2,Gi,B9,wC,T2,P2⟩;exact⟨_,rfl,_,_,rfl,rfl,⟨ZD,ZD⟩,⟨_,_,_,rfl⟩,s2,Gi,B9,wC,T2,P2⟩
   ·rintro σ H2 ⟨⟨JO,u4,u5,rfl⟩,s2,Gi,B9,wC,T2,P2⟩;rw[List.length_map]at P2;exact⟨⟨_,_,_,_,rfl⟩,s2,Gi,B9,wC,T2,P2.row hi⟩
  ·rintro σ H2 ⟨⟨JO,u4,u5,u6,rfl⟩,s2,Gi,B9,wC,T2,P2⟩;rw[List.length_map]at P2;exact⟨_,rfl,q H2 l Gi B9 s2 hl wC T2 (P2.good YQ)⟩
variable(jD:bM P w K mg base true 1 "_law_bank" ["_law_cell","_law_other","_law_many"] wQ)
variable(jE:bM P w K mg base true 2 "_law_book" ["_law_script","_law_cell","_law_spot","_law_many","_law_bank_here"] (wU K))
variable(iR:bM P w K mg base true 2 "_law_quote" ["_law_script","_law_cell","_law_spot","_law_many","_law_first","_law_bank_here"] (tD K))
variable(gD:bM P w K mg base true 2 "_law_numbers" ["_law_script","_law_spot"] (nF K))
variable(jF:bM P w K mg base true 1 "_law_near" ["_law_cell","_law_bank_here","_law_same"] wR)
theorem dC:aL ["_law_script","_law_most","_law_many","_law_bank_here","_law_one","_law_other","_law_first","_law_second","_law_numbers_here"] ["_law_script","_law_most"] (ar lY):=⟨rfl,rfl,rfl,by decide+kernel,rfl,by decide+kernel,by decide+kernel⟩
include T a7 jD jE iR gD jF in
theorem xx{f:Addr}{fd:FuncData}(F:jt K "_law_case" "_law_case" lY f fd):a8 P w K mg base (c7 P w) true 3 f fd ["_law_script","_law_most"] (wV K):=by
 refine F.gO dC Η (fun bU A outer s H vs Q E hr h hX=>?_)
 ·obtain⟨a,ns,most,rfl,_⟩:=h;rfl
 ·obtain⟨a,ns,most,rfl,hS,T8,DT,q⟩:=h;refine⟨_,(Z1 (ZH (2) dC.nd (ZQ bp (ZQ bp af (ZQ bD (ZS a7 aR) af)) (ZQ jR (ς qh Ρ T.Bt PyProof.Rows.Boot.«int» (ZJ (@iG _ _ _ _ _ _ _ _ rm Β af (aV _)))) af))) (Z1 (ZH (3) dC.nd (ZK jD aR (ZN (ZS a7 aR) (ZN (ZS a7 aR) (ZJ (pv 2)))))) (Z1 (ZH (4) dC.nd (ZQ cA Β (ZQ bD (ZS a7 aR) (ZQ bp Β af)))) (Z1 (ZH (5) dC.nd (ZQ cA Β (ZQ bD (ZS a7 aR) (ZQ bp Β af)))) (Z1 (ZH (6) dC.nd (ZK jE aR (ZN Γ (ZN (ZS a7 aR) (ZN af (ξ (pv 4))))))) (Z1 (ZH (7) dC.nd (ZK iR aR (ZN Γ (ZN (ZS a7 aR) (ZN af (ZN (pv 5) (ξ (pv 6)))))))) (Z1 (ZH (8) dC.nd (ZS gD aR)) (ZX (Θ (@bN _ _ _ _ (ZN (pv 6) (ZN (pv 7) (ZN (pv 8) (ZJ (ZK jF aR (ZN (ZS a7 aR) (ZN (@oC _ _ _ _ _ _ _ _ _ _ (EE K) (pv 3) wk (@oB _ _ _ af)) (ZJ (ZL (pv 8) af))))))))))))))))))),?_⟩;refine⟨fun σ H1=>∃many:Int,σ=[sR a,sI most,sI many,none,none,none,none,none,none]∧H1=H∧1≤many∧many≤12,?_,?_⟩
  ·refine⟨_,rfl,a,ns,2,rfl,hS,ZD,_,_,rfl,rfl,(show(0:Int)<5 by decide),_,_,rfl,rfl,_,rfl,_,_,rfl,rfl, .inr ⟨_,rfl,_,_,rfl,rfl, .inr ⟨ZD,ZD⟩,_,_,rfl,rfl,_,rfl,rfl,?_,?_⟩⟩
   ·split<;>lia
   ·split<;>lia
  rintro σ H ⟨many,rfl,rfl,aaA,GB⟩;refine⟨fun σ H1=>∃(b:Addr)(zs:List Str),σ=[sR a,sI most,sI many,sR b,none,none,none,none,none]∧ax H H1∧H1 b=some (.lst (zs.map V.str))∧(1≤zs.length∧zs.length≤12)∧(∀z∈zs,sZ z=true)∧zs.Nodup,?_,?_⟩
  ·exact⟨_,rfl,a,ns,0,rfl,hS,ZD,_,rfl,a,ns,1,rfl,hS,ZD,_,rfl,_,_,many,rfl,by lia,by lia,fun H' b zs s1 hb jZ hz hw hn=>⟨b,zs,rfl,s1,jZ,by lia,hw,hn⟩⟩
  rintro σ H1 ⟨b,zs,rfl,s1,jZ,hz,hw,hn⟩;have Pn:=s1.seq hS;refine⟨fun σ H2=>∃one:Int,σ=[sR a,sI most,sI many,sR b,sI one,none,none,none,none]∧H2=H1∧0≤one∧one≤most,?_,?_⟩
  ·have z0:0≤cell ns 3%(most+1):=Int.emod_nonneg _ (by lia);have z1:cell ns 3%(most+1)<most+1:=Int.emod_lt_of_pos _ (by lia);exact⟨_,rfl,_,rfl,a,ns,3,rfl,Pn,ZD,_,rfl,_,_,rfl,rfl,_,_,rfl,rfl,(show(0:Int)<most+1 by lia),_,_,rfl,rfl,_,rfl,rfl,by lia,by lia⟩
  rintro σ H1 ⟨one,rfl,rfl,YR,HM⟩;refine⟨fun σ H2=>∃IG:Int,σ=[sR a,sI most,sI many,sR b,sI one,sI IG,none,none,none]∧H2=H1∧0≤IG∧IG≤most,?_,?_⟩
  ·have z0:0≤cell ns 4%(most+1):=Int.emod_nonneg _ (by lia);have z1:cell ns 4%(most+1)<most+1:=Int.emod_lt_of_pos _ (by lia);exact⟨_,rfl,_,rfl,a,ns,4,rfl,Pn,ZD,_,rfl,_,_,rfl,rfl,_,_,rfl,rfl,(show(0:Int)<most+1 by lia),_,_,rfl,rfl,_,rfl,rfl,by lia,by lia⟩
  rintro σ H1 ⟨IG,rfl,rfl,Iv,OQ⟩;refine⟨fun σ H2=>∃(x:Addr)(xs:List Str),σ=[sR a,sI most,sI many,sR b,sI one,sI IG,sR x,none,none]∧ax H1 H2∧H2 x=some (.lst (xs.map V.str))∧xs.length=one.toNat∧∀w∈xs,w∈zs,?_,?_⟩
  ·exact⟨_,rfl,_,rfl,a,ns,10,rfl,Pn,ZD,_,rfl,_,rfl,a,b,ns,zs,_,16,one,rfl,Pn,jZ,⟨hz.1,by lia⟩,ZD,YR,by lia,fun H2 x xs s2 hx yj hl oj=>⟨x,xs,rfl,s2,yj,hl,oj⟩⟩
  rintro σ H2 ⟨x,xs,rfl,s2,yj,SA,T9⟩;have s3:=s1.trans s2;have Uc:=s2.seq Pn;refine⟨fun σ H3=>∃(y:Addr)(ys:List Str),σ=[sR a,sI most,sI many,sR b,sI one,sI IG,sR x,sR y,none]∧ax H2 H3∧H3 y=some (.lst (ys.map V.str))∧ys.length=IG.toNat,?_,?_⟩
  ·exact⟨_,rfl,_,rfl,a,ns,11,rfl,Uc,ZD,_,rfl,_,rfl,_,rfl,a,b,x,ns,zs,xs,_,17,IG,rfl,Uc,s2 _ _ jZ,yj,⟨hz.1,by lia⟩,by lia,T9,ZD,Iv,by lia,fun H3 y ys s4 hy DQ hl _=>⟨y,ys,rfl,s4,DQ,hl⟩⟩
  rintro σ H3 ⟨y,ys,rfl,s4,YS,VC⟩;have s5:=s3.trans s4;have V6:=s4.seq Uc;refine⟨fun σ H4=>∃(n:Addr)(sa ou iN le:Int),σ=[sR a,sI most,sI many,sR b,sI one,sI IG,sR x,sR y,sR n]∧ax H3 H4∧H4 n=some (.lst [.int sa, .int ou, .int iN, .int le])∧(1≤sa∧sa≤999999)∧(0≤ou∧ou≤999999)∧(0≤iN∧iN≤999999)∧(1≤le∧le≤999999),?_,?_⟩
  ·exact⟨_,rfl,a,ns,5,rfl,V6,ZD,fun H4 D sa ou iN le s6 hD Dq h1 h2 h3 h4=>⟨D,sa,ou,iN,le,rfl,s6,Dq,h1,h2,h3,h4⟩⟩
  rintro σ H4 ⟨n,sa,ou,iN,le,rfl,s6,V7,h1,h2,h3,h4⟩;have s7:=s5.trans s6;have YT:=s6.seq V6;have YU:H4 b=some (.lst (zs.map V.str)):=s6 _ _ (s4 _ _ (s2 _ _ jZ));refine⟨_,rfl,_,rfl,_,rfl,_,rfl,a,ns,9,rfl,YT,ZD,_,rfl,_,rfl,b,_,rfl, .of YU,fun b5 MP=>?_⟩;have e5:Ct (zs.map V.str) none (some 5)=(zs.take 5).map V.str:=by
   have:HT.kz (zs.map V.str).length (zs.map V.str).length (some 5)=min 5 zs.length:=by
    rw[List.length_map];simp only[HT.kz];split<;>lia
   have e0:HT.kz (zs.map V.str).length 0 none=0:=by simp[HT.kz]
   unfold Ct;rw[this,e0,List.drop_zero,Nat.sub_zero,←List.map_take]
   congr 1
   apply List.ext_getElem?;intro i;rw[List.getElem?_take,List.getElem?_take];by_cases hi:i<zs.length
   ·by_cases h5:i<5
    ·rw[Z7 UQ,Z7 h5]
    ·rw[Z5 UQ,Z5 h5]
   ·simp[List.getElem?_eq_none (by lia:zs.length≤i)]
  rw[e5];have s8:ax H4 (upd H4 b5 (.lst ((zs.take 5).map V.str))):=ax.upd MP;have YV:=s8 _ _ V7;refine⟨_,rfl,n,_,0,_,rfl,rfl, .of YV,Zo (j:=0),_,sa,b5,zs.take 5,rfl,ae,by simp;lia,fun z hz=>hw z (List.mem_of_mem_take hz),hn.sublist (List.take_sublist ..),h1.1,h1.2,fun H6 l us fs s9 hl V8 T6 g6=>?_⟩;have sA:=(s7.trans s8).trans s9;refine⟨aF ZA,fun r hr=>?_⟩;have sB:=ax.upd (o:= .lst [.ref x, .ref y, .ref n, .ref l]) hr;have sC:=s9.trans sB;refine q _ r ⟨xs,ys,sa,ou,iN,le,fs⟩ x y n l us (sA.trans sB) (sA.free hr) ⟨ae,?_,?_,?_,sB _ _ V8,T6.same sB⟩ ⟨by show xs.length≤_;lia,by show ys.length≤_;lia,g6,h1,h2,h3,h4⟩
  ·exact sC _ _ (s8 _ _ (s6 _ _ (s4 _ _ yj)))
  ·exact sC _ _ (s8 _ _ (s6 _ _ YS))
  ·exact sC _ _ (s8 _ _ V7)
theorem iS:aL ["_law_x","_law_y","_law_same","_law_near_here","_law_old","_law_new","_law_price"] ["_law_x","_law_y","_law_same","_law_near_here"] (ar lZ):=⟨rfl,rfl,rfl,by decide+kernel,rfl,by decide+kernel,by decide+kernel⟩
include T in
theorem xy{f:Addr}{fd:FuncData}(F:jt K "_law_pair" "_law_pair" lZ f fd):a8 P w K mg base (c7 P w) true 1 f fd ["_law_x","_law_y","_law_same","_law_near_here"] tq:=by
 refine F.gO iS Η (fun bU A outer s H vs Q E hr h hX=>?_)
 ·obtain⟨x,y,same,l,xs,fs,rfl,_⟩:=h;rfl
 ·obtain⟨x,y,same,l,xs,fs,rfl,hl,T1,q⟩:=h;refine⟨_,(ZV (Ξ (Z9 jr Γ (pv 1) (aV _)) (ZX (Θ (pv 2))) aQ) (ZV (ZU hX.own (Ψ K (pv 3)) (μ K (3) (by exact rfl) (Τ (ZI (4) iS.nd) (Τ (ZI (5) iS.nd) (Τ (ZI (6) iS.nd) ft)))) (ZX (Ξ (@PW.pt _ _ _ (@pw_and _ _ _ _ _ _ _ (Z9 jr (pv 4) (pv 0) (aV _)) (@pw_and1 _ _ _ _ (Z9 jr (pv 5) (pv 1) (aV _))))) (ZX (Θ (ZQ cA (pv 2) (pv 6)))) aQ))) (ZX (Θ jQ)))),?_⟩;refine⟨_,rfl,_,rfl,rfl,_,rfl,?_⟩;refine bg (fun h=>?_) (fun h=>?_)
  ·have h:x=y:=by simpa using h
   rw[show cK same fs x y=some same by simp[cK,h]]at q;exact⟨_,rfl,q⟩
  have h:¬x=y:=by simpa using h
  refine⟨_,rfl,l,rfl,⟨_, .of hl⟩,?_⟩;refine bW (xs:=xs) (fun i σ H'=>(∃u1 u2 u3,σ=[sS x,sS y,sI same,sR l,u1,u2,u3])∧H'=H∧∀f∈fs.take i,¬(f.1=x∧f.2.1=y)) ⟨⟨_,_,_,rfl⟩,rfl,ZF⟩ ?_ ?_ ?_
  ·rintro i σ H' _ ⟨_,rfl,_⟩;exact .of hl
  ·rintro i v σ H' hv ⟨⟨u1,u2,u3,rfl⟩,rfl,CP⟩;have hi:i<fs.length:=by rw[←T1.1];exact(ZO hv).1
   have hf:fs[i]?=some fs[i]:=by simp[hi]
   generalize fs[i]=f0 at hf;obtain⟨t,yh,uA⟩:=T1.2 i f0 hf;rw[hv]at yh;cases yh;obtain⟨x0,y0,p0⟩:=f0;refine⟨t,_,rfl, .of uA,rfl,_,_,rfl,_,_,rfl,_,_,rfl,rfl,?_⟩;have Qy:¬(x0=x∧y0=y)→∀f∈fs.take (i+1),¬(f.1=x∧f.2.1=y):=fun eX f V9=>by
    rw[List.take_succ,hf]at V9;rcases List.mem_append.mp V9 with h|h
    ·exact CP f h
    ·have h:f=(x0,y0,p0):=by simpa using h
     rw[h];exact eX
   refine⟨_,rfl,_,rfl,rfl,_,rfl,?_⟩;refine bg (fun hh=>?_) (fun hh=>?_)
   ·have Au:x0=x:=by simpa using hh
    refine⟨_,rfl,_,rfl,rfl,_,rfl,?_⟩;refine bg (fun hh=>?_) (fun hh=>?_)
    ·have jZ:y0=y:=by simpa using hh
     have e:cJ fs x y=some p0:=rA hf CP ⟨Au,jZ⟩;rw[show cK same fs x y=some (same-p0) by simp[cK,h,e]]at q;exact⟨_,rfl,_,rfl,_,_,rfl,rfl,q⟩
    ·have jZ:¬y0=y:=by simpa using hh
     exact⟨⟨_,_,_,rfl⟩,rfl,Qy fun z=>jZ z.2⟩
   ·have Au:¬x0=x:=by simpa using hh
    refine f_ ?_;exact⟨⟨_,_,_,rfl⟩,rfl,Qy fun z=>Au z.1⟩
  ·rintro σ H' ⟨⟨u1,u2,u3,rfl⟩,rfl,CP⟩;rw[T1.1,List.take_length]at CP;have e:cJ fs x y=none:=EW CP;rw[show cK same fs x y=none by simp[cK,h,e]]at q;exact q
variable(bL:bM P w K mg base true 1 "_law_pair" ["_law_x","_law_y","_law_same","_law_near_here"] tq)
theorem cy:aL ["_law_case_here","_law_way","_law_total","_law_k","_law_i","_law_j","_law_gain"] ["_law_case_here","_law_way"] (ar kP):=⟨rfl,rfl,rfl,by decide+kernel,rfl,by decide+kernel,by decide+kernel⟩
include T bL in
theorem uQ{f:Addr}{fd:FuncData}(F:jt K "_law_worth" "_law_worth" kP f fd):a8 P w K mg base (c7 P w) true 2 f fd ["_law_case_here","_law_way"] qu:=by
 refine F.gO cy Η (fun bU A outer s H vs Q E hr h hX=>?_)
 ·obtain⟨a,w,c,f,g,m,l,us,ws,ps,rfl,_⟩:=h;rfl
 ·obtain⟨a,w,c,x1,x2,m,l,us,ws,ps,rfl,C1,no,hw,P1,hlen,Ir,q⟩:=h;obtain⟨eX,Hi⟩:=kE Ir;have Ua:0<ps.length:=List.length_pos_iff.mpr eX;have Iu:=P1.1;have j5:=C1.ca;have yk:=C1.nu;have nO:=no.out;have nI:=no.into;refine⟨_,(ZV (ZH (2) cy.nd af) (ZV (χ hX.own (ZI (3) cy.nd) (ZV (@sM _ _ _ _ _ _ (ZL Β (pv 3)) (μ K (2) (by exact rfl) (Τ (ZI (4) cy.nd) (Τ (ZI (5) cy.nd) ft))) (Α) (Α) (Α)) (ZV (ZH (6) cy.nd (ZK bL aR (ZN (ZL Ν (pv 4)) (ZN (ZL Ν (pv 5)) (ZN (ZL Ν af) (ZJ Ν)))))) (ZV (Ξ (ZW (@lG _ _ _ _ _ (pv 6))) (ZX (Θ jQ)) aQ) (ZV (ZH (2) cy.nd (ZQ bp (pv 2) (pv 6))) (ZX (Ξ (Z9 rm (pv 3) af (aV _)) (ZV (ZH (2) cy.nd (ZQ cA (pv 2) (ZQ jR (ZL Ν af) (ZQ cA (ZQ cA (pv 4) (δ (bV K) (ZL Β (ZQ cA (pv 3) af)) af)) af)))) (ZX (ZH (2) cy.nd (ZQ cA (pv 2) (ZQ jR (ZL Ν af) (ZQ cA (ZQ cA (pv 5) (δ (bV K) (ZL Β (ZQ cA (pv 3) af)) af)) af)))))) aQ))))))) (ZX (Θ (pv 2))))),?_⟩;refine⟨_,rfl,w,_,rfl, .inl (.of hw),(ws.length:Int),rfl,by lia,by lia,?_⟩;refine fu (fun i σ H'=>(∃(u1 u2 u3 u4:Option V),σ=[sR a,sR w,sI ((if i=0 then 0 else dI c ps (i-1))),u1,u2,u3,u4])∧H'=H) ⟨⟨_,_,_,_,rfl⟩,rfl⟩ ?_ ?_
  ·rintro i σ H' hi ⟨⟨u1,u2,u3,u4,rfl⟩,e0⟩;subst e0;have hi:i<ps.length:=by lia
   obtain⟨tt,yh,uA⟩:=P1.K0 hi;obtain⟨wo,QV⟩:=Hv (Hi i hi);obtain⟨b1,b2⟩:=c.pw_in QV;obtain⟨x,lu,yj⟩:=vJ b1.1 b1.2;obtain⟨y,GB,DQ⟩:=vJ b2.1 b2.2;have ep:c.pw (pr ps i)=cK c.same c.fs x y:=Case.pw_of lu GB;refine⟨_,rfl,_,rfl,w,_,_,_,rfl,rfl, .of hw,US yh,tt,_,rfl, .of uA,rfl,_,_,rfl,_,_,rfl,rfl,?_⟩;refine⟨_,rfl,a,_,0,_,rfl,rfl, .of j5,Zo (j:=0),_,rfl,x1,_,_,_,rfl,rfl, .of C1.fi,yj,_,rfl,a,_,1,_,rfl,rfl, .of j5,Zo (j:=1),_,rfl,x2,_,_,_,rfl,rfl, .of C1.se,DQ,_,rfl,a,_,2,_,rfl,rfl, .of j5,Zo (j:=2),m,_,0,_,rfl,rfl, .of yk,Zo (j:=0),_,rfl,a,_,3,_,rfl,rfl, .of j5,Zo (j:=3),x,y,c.same,l,us,c.fs,rfl,C1.ne,C1.tr,?_⟩;rw[←ep,QV];refine⟨_,rfl,_,rfl,?_⟩;refine bg (fun hh=>Zn hh (by simp[bG])) (fun _=>?_);refine⟨_,rfl,_,rfl,_,_,rfl,rfl,?_⟩;refine⟨_,rfl,_,_,rfl,rfl,_,rfl,?_⟩;refine bg (fun h2=>?_) (fun h2=>?_)
   ·have h2:0<i:=by
     have:(0:Int)<0+(i:Int):=by simpa using h2
     lia
    obtain⟨j,rfl⟩:∃j,i=j+1:=⟨i-1,by lia⟩
    have e1:((0+((j+1:Nat):Int))-1)=((j:Nat):Int):=by lia
    obtain⟨t2,OQ,FU⟩:=P1.K0 (show j<ps.length by lia);have vW:rO ws ((0+((j+1:Nat):Int))-1)=some (.ref t2):=by rw[e1];exact au OQ
    refine⟨_,rfl,_,rfl,a,_,2,_,rfl,rfl, .of j5,Zo (j:=2),m,_,1,_,rfl,rfl, .of yk,Zo (j:=1),_,rfl,_,rfl,_,rfl,_,_,rfl,rfl,w,_,_,_,rfl,rfl, .of hw,vW,t2,_,0,_,rfl,rfl, .of FU,Zo (j:=0),_,_,rfl,rfl,_,_,rfl,rfl,_,_,rfl,rfl, .inl ⟨by lia,by lia⟩,_,_,rfl,rfl,?_⟩;refine⟨_,rfl,_,rfl,a,_,2,_,rfl,rfl, .of j5,Zo (j:=2),m,_,2,_,rfl,rfl, .of yk,Zo (j:=2),_,rfl,_,rfl,_,rfl,_,_,rfl,rfl,w,_,_,_,rfl,rfl, .of hw,vW,t2,_,1,_,rfl,rfl, .of FU,Zo (j:=1),_,_,rfl,rfl,_,_,rfl,rfl,_,_,rfl,rfl, .inl ⟨by lia,by lia⟩,_,_,rfl,rfl,⟨some (.int (0+((j+1:Nat):Int))),some (.int (pr ps (j+1)).1),some (.int (pr ps (j+1)).2),some (.int wo),?_⟩,rfl⟩;have:dI c ps (j+1)=dI c ps j+wo-c.out*((pr ps (j+1)).1-(pr ps j).1-1)-c.into*((pr ps (j+1)).2-(pr ps j).2-1):=by
     simp only[dI,QV,Case.gap,Option.getD_some]
     lia
    simp only[Nat.add_sub_cancel,Nat.succ_ne_zero,if_false,this];rfl
   ·have h2:i=0:=by
     have:¬(0:Int)<0+(i:Int):=by simpa using h2
     lia
    subst h2;refine⟨⟨some (.int (0+((0:Nat):Int))),some (.int (pr ps 0).1),some (.int (pr ps 0).2),some (.int wo),?_⟩,rfl⟩;have:dI c ps 0=0+wo:=by simp[dI,QV]
    simp only[Nat.zero_add,Nat.sub_self,Nat.one_ne_zero,if_false,this];rfl
  ·rintro σ H' ⟨⟨u1,u2,u3,u4,rfl⟩,rfl⟩;have e:((ws.length:Nat):Int).toNat=ps.length:=by lia
   rw[e,Z5 UQ];exact⟨_,rfl,q⟩
variable(bI:bM P w K mg base true 1 "_law_whole" ["_law_found"] s_)
theorem nc:aL ["_law_found","_law_pair_here"] ["_law_found"] (ar kQ):=⟨rfl,rfl,rfl,by decide+kernel,rfl,by decide+kernel,by decide+kernel⟩
include T bI in
theorem uR{f:Addr}{fd:FuncData}(F:jt K "_law_pairs" "_law_pairs" kQ f fd):a8 P w K mg base (c7 P w) true 2 f fd ["_law_found"] qt:=by
 refine F.gO nc Η (fun bU A outer s H vs Q E hr h hX=>?_)
 ·obtain⟨a,us,ps,rfl,_⟩:=h;rfl
 ·obtain⟨a,us,ps,rfl,ha,P1,q⟩:=h;refine⟨_,(ZV (Z2 (@cO _ _ _ _ (Χ (ZY (f6 K) T.de PyProof.Rows.Boot.«isinstance» (ZN Γ (ZJ τ))))) aQ) (ZV (ZU hX.own (Ψ K Γ) (ZI (1) nc.nd) (ZV (Z2 (@PW.pt _ _ _ (η (@cO _ _ _ _ (Χ (ZY (f6 K) T.de PyProof.Rows.Boot.«isinstance» (ZN Β (ZJ (@jq _ _ (.ty "tuple") _ _ (by exact rfl) T.Hk PyProof.Rows.Boot.«tuple» Ρ (ZD) (ZD))))))) (@pw_or1 _ _ _ _ (Z9 vm (ZM (aK K) T.c_ (ZJ Β)) af (aV _))))) aQ) (ZX (Z2 (@PW.pt _ _ _ (η (@cO _ _ _ _ (Χ (ZK bI aR (ZJ (δ (bV K) (pv 1) af))))) (@pw_or1 _ _ _ _ (@cO _ _ _ _ (Χ (ZK bI aR (ZJ (δ (bV K) (pv 1) af)))))))) aQ)))) (ZX (Θ dW)))),?_⟩;refine⟨_,rfl,_,_,_,true,_,rfl,rfl, .lst ha,rfl,_,rfl,?_⟩;refine f_ ?_;refine⟨_,rfl,a,rfl,⟨_, .of ha⟩,?_⟩;refine bW (xs:=us) (fun i σ H'=>(∃u,σ=[sR a,u])∧H'=H) ⟨⟨_,rfl⟩,rfl⟩ ?_ ?_ ?_
  ·rintro i σ H' _ ⟨_,rfl⟩;exact .of ha
  ·rintro i v σ H' hv ⟨⟨u,rfl⟩,rfl⟩;have hi:i<ps.length:=by rw[←P1.1];exact(ZO hv).1
   obtain⟨t,yh,uA⟩:=P1.K0 hi;rw[hv]at yh;cases yh;refine⟨_,rfl,_,_,_,true,_,rfl,rfl, .tup uA,rfl,_,rfl,?_⟩;refine f_ ?_;refine⟨_,rfl,t,_,rfl, .inr (.of uA),rfl,_,rfl,?_⟩;refine bg (fun hh=>absurd hh ZA) (fun _=>?_);refine⟨_,rfl,t,_,0,_,rfl,rfl, .of uA,Zo (j:=0),_,rfl,_,rfl,?_⟩;refine f_ ?_;refine⟨_,rfl,t,_,1,_,rfl,rfl, .of uA,Zo (j:=1),_,rfl,_,rfl,?_⟩;refine f_ ?_;exact⟨⟨_,rfl⟩,rfl⟩
  ·rintro σ H' ⟨⟨u,rfl⟩,rfl⟩;exact q
variable(px:m4 P w K mg base true 5 "Terms" aU ["self","same","out","into","least","part","near"] [] (su aU ed cX))
theorem nh:aL ["_law_case_here","_law_n"] ["_law_case_here"] (ar kR):=⟨rfl,rfl,rfl,by decide+kernel,rfl,by decide+kernel,by decide+kernel⟩
include T px in
theorem uS{f:Addr}{fd:FuncData}(F:jt K "_law_terms" "_law_terms" kR f fd):a8 P w K mg base (c7 P w) true 7 f fd ["_law_case_here"] (qr aU):=by
 refine F.gO nh Η (fun bU A outer s H vs Q E hr h hX=>?_)
 ·obtain⟨a,c,f,g,m,l,us,most,rfl,_⟩:=h;rfl
 ·obtain⟨a,c,x1,x2,m,l,us,most,rfl,C1,ok,q⟩:=h;refine⟨_,(ZV (ZH (1) nh.nd Ν) (ZX (Θ (@sr _ _ _ _ _ _ _ _ _ _ _ _ _ _ px (hr.mono (ZD)) hX.pass (ZN (ZL Β af) (ZN (ZL Β af) (ZN (ZL Β af) (ZN (ZL Β af) (ZN af (ZJ (ς (fJ K) (by exact rfl) T.jT PyProof.Rows.Boot.«list» (ZJ Ν)))))))) (Α) (ZD) (Α) (Α))))),?_⟩;have yk:=C1.nu;have j5:=C1.ca;refine⟨_,rfl,a,_,2,_,rfl,rfl, .of j5,Zo (j:=2),?_⟩;refine⟨_,rfl,m,_,0,_,rfl,rfl, .of yk,Zo (j:=0),_,rfl,m,_,1,_,rfl,rfl, .of yk,Zo (j:=1),_,rfl,m,_,2,_,rfl,rfl, .of yk,Zo (j:=2),_,rfl,m,_,3,_,rfl,rfl, .of yk,Zo (j:=3),_,rfl,a,_,3,_,rfl,rfl, .of j5,Zo (j:=3),l,us,rfl, .inl (.of C1.ne),fun h hh=>fun x dx hx EX eX=>?_⟩;have s5:ax (upd H h (.lst us)) (upd (upd (upd H h (.lst us)) dx (.own x)) x (.ins aU dx [])):=(ax.upd EX).dU hx;have s4:ax H (upd H h (.lst us)):=ax.upd hh;refine⟨x,dx,⟨c.same,c.out,c.into,c.least,50⟩, .ref h,us,c.fs,rfl,ae,by rw[aj eX];exact ae, .inr ⟨h,rfl,s5 _ _ ae,C1.tr.same (s4.trans s5)⟩,Ah ok.good,?_⟩;have YW:i7 ⟨c.same,c.out,c.into,c.least,50⟩=true:=by
   have:=ok.same;have:=ok.out;have:=ok.into;have:=ok.least;simp[i7,inR]
   lia
  rw[Z7 YW,Z7 ok.good];intro H6 l2 d sb T6 V8 ZE;exact⟨rfl,q H6 x (s4.trans (SameBut.Ai hx EX sb)) ⟨_,dx,l2,d,us,T6,rfl,rfl,rfl,rfl⟩⟩
theorem dD:aL ["_law_case_here","_law_many","_law_x","_law_y","_law_each","_law_same","_law_least"] ["_law_case_here"] (ar l0):=⟨rfl,rfl,rfl,by decide+kernel,rfl,by decide+kernel,by decide+kernel⟩
include T bL in
theorem xA{f:Addr}{fd:FuncData}(F:jt K "_law_calm" "_law_calm" l0 f fd):a8 P w K mg base (c7 P w) true 2 f fd ["_law_case_here"] xo:=by
 refine F.gO dD Η (fun bU A outer s H vs Q E hr h hX=>?_)
 ·obtain⟨a,c,f,g,m,l,us,rfl,_⟩:=h;rfl
 ·obtain⟨a,c,x1,x2,m,l,us,rfl,C1,ok,q⟩:=h;refine⟨_,(Z1 (ZH (1) dD.nd af) (Z1 (ZU hX.own (Ψ K Ν) (ZI (2) dD.nd) (ZX (ZU hX.own (Ψ K Ν) (ZI (3) dD.nd) (ZX (ZH (1) dD.nd (ZQ bp Β (ς qh Ρ T.Bt PyProof.Rows.Boot.«int» (ZJ (@zO _ _ _ _ _ _ (@ow _ _ _ _ _ (ZK bL aR (ZN (pv 2) (ZN (pv 3) (ZN (ZL Ν af) (ZJ Ν)))))) (by first|exact br _ (ZD) (ZD)|rfl)))))))))) (Z1 (ZH (4) dD.nd (ZQ bp (ZQ dZ Β af) af)) (Z1 (ZH (5) dD.nd (ZY (qg rfl) T.EF PyProof.Rows.Boot.«min» (ZN (ZL Ν af) (ZJ (ZQ dZ af (pv 4)))))) (Z1 (ZH (6) dD.nd (ZY (Ci rfl) T.Jh PyProof.Rows.Boot.«max» (ZN (ZL Ν af) (ZJ (ZQ bp (ZQ jR (ZQ cA (pv 4) af) (pv 5)) af))))) (ZX (Θ (@bN _ _ _ _ (ZN Ν (ZN Ν (ZN (@bN _ _ _ _ (ZN (pv 5) (ZN (ZL Ν af) (ZN (ZL Ν af) (ZJ (pv 6)))))) (ZJ Ν)))))))))))),?_⟩;have j5:=C1.ca;have yk:=C1.nu;have lx:(c.xs.map V.str).length=c.xs.length:=List.length_map ..;have ly:(c.ys.map V.str).length=c.ys.length:=List.length_map ..;refine⟨fun σ H1=>H1=H∧σ=[sR a,sI 0,none,none,none,none,none],⟨rfl,rfl⟩,?_⟩;rintro σ H1 ⟨rfl,rfl⟩;refine⟨fun σ H2=>H2=H1∧∃u v,σ=[sR a,sI (manyN c c.xs.length:Nat),u,v,none,none,none],?_,?_⟩
  ·refine⟨_,rfl,a,_,0,_,rfl,rfl, .of j5,Zo (j:=0),x1,rfl,⟨_, .of C1.fi⟩,?_⟩;refine bW (xs:=c.xs.map V.str) (fun i σ H2=>H2=H1∧∃u v,σ=[sR a,sI (manyN c i:Nat),u,v,none,none,none]) ⟨rfl,_,_,rfl⟩ ?_ ?_ ?_
   ·rintro i σ H2 _ ⟨rfl,_⟩;exact .of C1.fi
   ·rintro i v σ H2 hv ⟨rfl,u1,u2,rfl⟩;obtain⟨wx,QP,rfl⟩:=mz hv;refine⟨_,rfl,a,_,1,_,rfl,rfl, .of j5,Zo (j:=1),x2,rfl,⟨_, .of C1.se⟩,?_⟩;refine bW (xs:=c.ys.map V.str) (fun j σ H3=>H3=H2∧∃v,σ=[sR a,sI (manyN c i+F0 c i j:Nat),sS wx,v,none,none,none]) ⟨rfl,_,rfl⟩ ?_ ?_ ?_
    ·rintro j σ H3 _ ⟨rfl,_⟩;exact .of C1.se
    ·rintro j v σ H3 QT ⟨rfl,u3,rfl⟩;obtain⟨wy,DS,rfl⟩:=mz QT;have Tp:c.pw (aP (i,j))=cK c.same c.fs wx wy:=Case.pw_of (by rw[show(aP (i,j)).1=(i:Int)from rfl,tw];exact QP) (by rw[show(aP (i,j)).2=(j:Int)from rfl,tw];exact DS);refine⟨_,rfl,_,rfl,_,rfl,_,rfl,a,_,2,_,rfl,rfl, .of j5,Zo (j:=2),m,_,0,_,rfl,rfl, .of yk,Zo (j:=0),_,rfl,a,_,3,_,rfl,rfl, .of j5,Zo (j:=3),wx,wy,c.same,l,us,c.fs,rfl,C1.ne,C1.tr, .inr ⟨_,rfl,_,_,rfl,rfl,rfl,some (.str wy),?_⟩⟩;rw[Di,Tp];cases cK c.same c.fs wx wy<;>simp[bG,List.set]<;>lia
    ·rintro σ H3 ⟨rfl,u3,rfl⟩;rw[ly];exact⟨rfl,_,_,rfl⟩
   ·rintro σ H2 ⟨rfl,u1,u2,rfl⟩;rw[lx];exact⟨rfl,_,_,rfl⟩
  rintro σ H1 ⟨rfl,u,v,rfl⟩;have V_:manyN c c.xs.length≤3600:=by
   have:=xn c c.xs.length;have h2:=Nat.mul_le_mul ok.x ok.y
   lia
  have ee:((manyN c c.xs.length:Nat):Int)/21+1=(bo c:Int):=by unfold bo;lia
  have he:(1:Int)≤bo c∧(bo c:Int)≤172:=by unfold bo;lia
  refine⟨fun σ H2=>H2=H1∧σ=[sR a,sI (manyN c c.xs.length:Nat),u,v,sI (bo c),none,none],⟨_,rfl,_,_,rfl,rfl,⟨ZD,ZD⟩,_,_,rfl,rfl,rfl,by rw[ee];rfl⟩,?_⟩;rintro σ H1 ⟨rfl,rfl⟩;have es:(if 999999/(bo c:Int)<c.same then 999999/(bo c:Int)else c.same)=cL c:=by unfold cL;split<;>lia
  refine⟨fun σ H2=>H2=H1∧σ=[sR a,sI (manyN c c.xs.length:Nat),u,v,sI (bo c),sI (cL c),none],⟨_,rfl,a,_,2,_,rfl,rfl, .of j5,Zo (j:=2),m,_,0,_,rfl,rfl, .of yk,Zo (j:=0),_,rfl,_,_,rfl,rfl,⟨by lia,by lia⟩,_,_,rfl,rfl,by rw[es];rfl⟩,?_⟩;rintro σ H1 ⟨rfl,rfl⟩;have s1:1≤cL c∧cL c≤999999:=by
   have:=(B2 ok UQ).same;exact this
  have el:(if ((bo c:Int)-1)*cL c+1>c.least then((bo c:Int)-1)*cL c+1 else c.least)=(bF c).least:=by show _=max c.least _;split<;>lia
  refine⟨fun σ H2=>H2=H1∧σ=[sR a,sI (manyN c c.xs.length:Nat),u,v,sI (bo c),sI (cL c),sI ((bF c).least)],⟨_,rfl,a,_,2,_,rfl,rfl, .of j5,Zo (j:=2),m,_,3,_,rfl,rfl, .of yk,Zo (j:=3),_,rfl,_,_,rfl,rfl,_,rfl,_,_,rfl,rfl, .inl ⟨by lia,by lia⟩,_,_,rfl,rfl,_,_,rfl,rfl,by rw[el];rfl⟩,?_⟩;rintro σ H1 ⟨rfl,rfl⟩;refine⟨_,rfl,a,_,0,_,rfl,rfl, .of j5,Zo (j:=0),_,rfl,a,_,1,_,rfl,rfl, .of j5,Zo (j:=1),_,rfl,_,rfl,a,_,2,_,rfl,rfl, .of j5,Zo (j:=2),m,_,1,_,rfl,rfl, .of yk,Zo (j:=1),_,rfl,a,_,2,_,rfl,rfl, .of j5,Zo (j:=2),m,_,2,_,rfl,rfl, .of yk,Zo (j:=2),_,rfl,aF ZA,fun m' yF=>?_⟩;have sm:=ax.upd (o:= .lst [.int (cL c), .int c.out, .int c.into, .int (bF c).least]) yF;have Ud:=sm _ _ j5;refine⟨_,rfl,a,_,3,_,rfl,rfl, .of Ud,Zo (j:=3),aF ZA,fun b hb=>?_⟩;have sb:=ax.upd (o:= .lst [.ref x1, .ref x2, .ref m', .ref l]) hb;have sA:=sm.trans sb;exact q _ b m' sA (sm.free hb) ae ⟨ae,sA _ _ C1.fi,sA _ _ C1.se,sb _ _ ae,sA _ _ C1.ne,C1.tr.same sA⟩
variable(dE:bM P w K mg base true 2 "_law_pairs" ["_law_found"] qt)
theorem lp:aL ["_law_found","_law_told"] ["_law_found"] (ar gy):=⟨rfl,rfl,rfl,by decide+kernel,rfl,by decide+kernel,by decide+kernel⟩
include T Fc bI dE in
theorem r9{f:Addr}{fd:FuncData}(F:jt K "_law_finding" "_law_finding" gy f fd):a8 P w K mg base (c7 P w) true 3 f fd ["_law_found"] (tY ay):=by
 refine F.gO lp Η (fun bU A outer s H vs Q E hr h hX=>?_)
 ·obtain⟨y,P,d,dy,wy,rw,pr,lz,iy,rfl,_⟩:=h;rfl
 ·obtain⟨y,P,d,dy,wy,iE,pr,lz,iy,rfl,F,hl,eX,q⟩:=h;have hu:=hr.units;have L5:(A.deeper (PyProof.Rows.envOfC "_law_finding" (ar gy) s.heap.objs.size f bU)).units<cLine:=by lia
  refine⟨_,(ZV (Z2 (@PW.pt _ _ _ (η (@cO _ _ _ _ (Χ (ZK bI aR (ZJ (ZP K))))) (η (@cO _ _ _ _ (Χ (ZK dE aR (ZJ (ZP K))))) (@pw_or1 _ _ _ _ (@cO _ _ _ _ (Χ (ZK dE aR (ZJ (ZP K))))))))) aQ) (ZV (Z2 (@PW.pt _ _ _ (η (@cO _ _ _ _ (Χ (ZY (f6 K) T.de PyProof.Rows.Boot.«isinstance» (ZN (ZP K) (ZJ τ))))) (η (Z9 vm (ZM (aK K) T.c_ (ZJ (ZP K))) (ZM (aK K) T.c_ (ZJ (ZP K))) (aV _)) (@pw_or1 _ _ _ _ (Z9 (yJ K L5) (ZP K) (@bN _ _ _ _ ai) (aV _)))))) aQ) (ZV (ZU hX.own (Ψ K (ZP K)) (ZI (1) lp.nd) (ZX (Z2 (@cO _ _ _ _ (Χ (ZK bI aR (ZJ Β)))) aQ))) (ZX (Θ dW))))),?_⟩;have h1:lz≠[]:=fun z=>eX (List.length_eq_zero_iff.mp (by rw[←F.pw.1,z];rfl))
  refine⟨_,rfl,y,ay,dy,_,_,rfl,F.ob,Fc.cl,Fc.worth,ja d.worth wy iE pr,_,rfl,_,rfl,?_⟩;refine f_ ?_;refine⟨_,rfl,y,ay,dy,_,_,rfl,F.ob,Fc.cl,Fc.way,qC d.worth wy iE pr,wy,lz,d.way,rfl,F.hw,F.pw,_,rfl,?_⟩;refine f_ ?_;refine⟨_,rfl,y,ay,dy,_,_,rfl,F.ob,Fc.cl,Fc.pairs,ip d.worth wy iE pr,pr,iy,d.pairs,rfl,F.hp,F.pp,_,rfl,?_⟩;refine f_ ?_;refine⟨_,rfl,y,ay,dy,_,_,rfl,F.ob,Fc.cl,Fc.row,AD d.worth wy iE pr,_,_,_,true,_,rfl,rfl, .lst F.hr,rfl,_,rfl,?_⟩;refine f_ ?_;refine⟨_,rfl,y,ay,dy,_,_,rfl,F.ob,Fc.cl,Fc.row,AD d.worth wy iE pr,iE,_,rfl, .inl (.of F.hr),_,rfl,y,ay,dy,_,_,rfl,F.ob,Fc.cl,Fc.way,qC d.worth wy iE pr,wy,_,rfl, .inl (.of F.hw),rfl,_,rfl,?_⟩;have h2:(d.row.map V.int).length=lz.length:=by rw[List.length_map,hl,F.pw.1]
  rw[h2];refine bg (fun hh=>absurd hh ZA) (fun _=>?_);refine⟨_,rfl,y,ay,dy,_,_,rfl,F.ob,Fc.cl,Fc.way,qC d.worth wy iE pr,aF ZA,fun e he=>⟨wy,e,lz,[],fun _=>true,rfl,rfl, .of (ax.upd he _ _ F.hw), .of ae,(fun j x y _ h=>by simp at h),_,rfl,?_⟩⟩;refine bg (fun hh=>Zn hh (by simpa using h1)) (fun _=>?_);have s1:=ax.upd (o:= .lst []) he;generalize upd H e (.lst [])=H1 at s1;refine⟨_,rfl,y,ay,dy,_,_,rfl,s1 _ _ F.ob,Fc.cl,Fc.row,AD d.worth wy iE pr,iE,rfl,⟨_, .of (s1 _ _ F.hr)⟩,?_⟩;refine bW (xs:=d.row.map V.int) (fun i σ H'=>(∃u,σ=[sR y,u])∧H'=H1) ⟨⟨_,rfl⟩,rfl⟩ ?_ ?_ ?_
  ·rintro i σ H' _ ⟨_,rfl⟩;exact .of (s1 _ _ F.hr)
  ·rintro i v σ H' hv ⟨⟨u,rfl⟩,rfl⟩;rw[List.getElem?_map]at hv;obtain⟨z,_,rfl⟩:=Option.map_eq_some_iff.mp hv;refine⟨_,rfl,_,rfl,_,rfl,?_⟩;refine f_ ?_;exact⟨⟨_,rfl⟩,rfl⟩
  ·rintro σ H' ⟨⟨u,rfl⟩,rfl⟩;exact q _ s1
theorem gE:aL ["_law_case_here","_law_way","_law_k","_law_i","_law_j"] ["_law_case_here","_law_way"] (ar g_):=⟨rfl,rfl,rfl,by decide+kernel,rfl,by decide+kernel,by decide+kernel⟩
include T bL in
theorem ub{f:Addr}{fd:FuncData}(F:jt K "_law_is_way" "_law_is_way" g_ f fd):a8 P w K mg base (c7 P w) true 2 f fd ["_law_case_here","_law_way"] tE:=by
 refine F.gO gE Η (fun bU A outer s H vs Q E hr h hX=>?_)
 ·obtain⟨a,w,c,f,g,m,l,us,ws,ps,rfl,_⟩:=h;rfl
 ·obtain⟨a,w,c,x1,x2,m,l,us,ws,ps,rfl,C1,hw,P1,hlen,q⟩:=h;have hu:=hr.units;have L5:(A.deeper (PyProof.Rows.envOfC "_law_is_way" (ar g_) s.heap.objs.size f bU)).units<cLine:=by lia
  have Iu:=P1.1;have j5:=C1.ca;have yk:=C1.nu;have lx:(c.xs.map V.str).length=c.xs.length:=List.length_map ..;have ly:(c.ys.map V.str).length=c.ys.length:=List.length_map ..;refine⟨_,(ZV (χ hX.own (ZI (2) gE.nd) (ZV (@sM _ _ _ _ _ _ (ZL Β (pv 2)) (μ K (2) (by exact rfl) (Τ (ZI (3) gE.nd) (Τ (ZI (4) gE.nd) ft))) (Α) (Α) (Α)) (ZV (Z2 (@PW.pt _ _ _ (η (Z9 m3 (pv 3) af (aV _)) (η (Z9 m3 (pv 4) af (aV _)) (η (Z9 Bd (pv 3) (ZM (aK K) T.c_ (ZJ Ν)) (aV _)) (@pw_or1 _ _ _ _ (Z9 Bd (pv 4) (ZM (aK K) T.c_ (ZJ Ν)) (aV _))))))) aQ) (ZV (Z2 (ZW (@lG _ _ _ _ _ (ZK bL aR (ZN (ZL Ν (pv 3)) (ZN (ZL Ν (pv 4)) (ZN (ZL Ν af) (ZJ Ν))))))) aQ) (ZX (Z2 (@PW.pt _ _ _ (@pw_and _ _ _ _ _ _ _ (Z9 rm (pv 2) af (aV _)) (@pw_and1 _ _ _ _ (@PW.pt _ _ _ (η (Z9 Bc (pv 3) (δ (bV K) (ZL Β (ZQ cA (pv 2) af)) af) (aV _)) (@pw_or1 _ _ _ _ (Z9 Bc (pv 4) (δ (bV K) (ZL Β (ZQ cA (pv 2) af)) af) (aV _)))))))) aQ)))))) (ZX (Θ (@iG _ _ _ _ _ _ _ _ (tf K L5) (pv 1) (@bN _ _ _ _ ai) (aV _))))),?_⟩;refine⟨_,rfl,w,_,rfl, .inl (.of hw),(ws.length:Int),rfl,by lia,by lia,?_⟩;refine fu (fun i σ H'=>(∃(u1 u2 u3:Option V),σ=[sR a,sR w,u1,u2,u3])∧H'=H∧lN c ps i) ⟨⟨_,_,_,rfl⟩,rfl,fun k hk=>by lia⟩ ?_ ?_
  ·rintro i σ H' hi ⟨⟨u1,u2,u3,rfl⟩,e0,Hi⟩;subst e0;have hi:i<ps.length:=by lia
   obtain⟨tt,yh,uA⟩:=P1.K0 hi;have bad:dG c ps i=false→Q (.bl false) H':=fun e=>by
    have:=q H' (.refl _);rw[EZ hi e]at this;exact this
   have Gj:c.pw (pr ps i)=none→Q (.bl false) H':=fun e=>bad (by simp[dG,e])
   refine⟨_,rfl,_,rfl,w,_,_,_,rfl,rfl, .of hw,US yh,tt,_,rfl, .of uA,rfl,_,_,rfl,_,_,rfl,rfl,?_⟩;refine⟨_,rfl,_,_,rfl,rfl,_,rfl,?_⟩;refine bg (fun h1=>?_) (fun h1=>?_)
   ·have h1:(pr ps i).1<0:=by simpa using h1
    refine jS ?_;exact Gj (Case.pw_out UQ)
   have h1:¬(pr ps i).1<0:=by simpa using h1
   refine⟨_,rfl,_,_,rfl,rfl,_,rfl,?_⟩;refine bg (fun h2=>?_) (fun h2=>?_)
   ·have h2:(pr ps i).2<0:=by simpa using h2
    refine jS ?_;exact Gj (Case.pw_out UQ)
   have h2:¬(pr ps i).2<0:=by simpa using h2
   refine⟨_,rfl,_,rfl,a,_,0,_,rfl,rfl, .of j5,Zo (j:=0),x1,_,rfl, .inl (.of C1.fi),_,_,rfl,rfl,_,rfl,?_⟩;rw[lx];refine bg (fun h3=>?_) (fun h3=>?_)
   ·have h3:(c.xs.length:Int)≤(pr ps i).1:=by simpa using h3
    refine jS ?_;exact Gj (Case.pw_out UQ)
   have h3:¬(c.xs.length:Int)≤(pr ps i).1:=by simpa using h3
   refine⟨_,rfl,_,rfl,a,_,1,_,rfl,rfl, .of j5,Zo (j:=1),x2,_,rfl, .inl (.of C1.se),_,_,rfl,rfl,_,rfl,?_⟩;rw[ly];refine bg (fun h4=>?_) (fun h4=>?_)
   ·have h4:(c.ys.length:Int)≤(pr ps i).2:=by simpa using h4
    exact Gj (Case.pw_out UQ)
   have h4:¬(c.ys.length:Int)≤(pr ps i).2:=by simpa using h4
   obtain⟨x,lu,yj⟩:=vJ (xs:=c.xs) (i:=(pr ps i).1) (by lia) (by lia);obtain⟨y,GB,DQ⟩:=vJ (xs:=c.ys) (i:=(pr ps i).2) (by lia) (by lia);have ep:c.pw (pr ps i)=cK c.same c.fs x y:=Case.pw_of lu GB;refine⟨_,rfl,a,_,0,_,rfl,rfl, .of j5,Zo (j:=0),_,rfl,x1,_,_,_,rfl,rfl, .of C1.fi,yj,_,rfl,a,_,1,_,rfl,rfl, .of j5,Zo (j:=1),_,rfl,x2,_,_,_,rfl,rfl, .of C1.se,DQ,_,rfl,a,_,2,_,rfl,rfl, .of j5,Zo (j:=2),m,_,0,_,rfl,rfl, .of yk,Zo (j:=0),_,rfl,a,_,3,_,rfl,rfl, .of j5,Zo (j:=3),x,y,c.same,l,us,c.fs,rfl,C1.ne,C1.tr,_,rfl,?_⟩;rw[←ep];refine bg (fun h5=>?_) (fun h5=>?_)
   ·refine Gj ?_;cases e:c.pw (pr ps i)with
    |none=>rfl
    |some v=>rw[e]at h5;simp[bG]at h5
   have h5:(c.pw (pr ps i)).isSome=true:=by
    cases e:c.pw (pr ps i)with
    |none=>rw[e]at h5;simp[bG]at h5
    |some v=>rfl
   refine⟨_,rfl,_,_,rfl,rfl,_,rfl,?_⟩;refine bg (fun h6=>?_) (fun h6=>?_)
   rotate_left
   ·have h6:i=0:=by
     have:¬(0:Int)<0+(i:Int):=by simpa using h6
     lia
    refine f_ ?_;exact⟨⟨_,_,_,rfl⟩,rfl,Hi.next (by simp[dG,h5,h6]at h5⊢;exact h5)⟩
   have h6:0<i:=by
    have:(0:Int)<0+(i:Int):=by simpa using h6
    lia
   obtain⟨j,rfl⟩:∃j,i=j+1:=⟨i-1,by lia⟩
   have e1:((0+((j+1:Nat):Int))-1)=((j:Nat):Int):=by lia
   obtain⟨t2,OQ,FU⟩:=P1.K0 (show j<ps.length by lia);have vW:rO ws ((0+((j+1:Nat):Int))-1)=some (.ref t2):=by rw[e1];exact au OQ
   refine⟨_,rfl,_,rfl,_,rfl,_,_,rfl,rfl,w,_,_,_,rfl,rfl, .of hw,vW,t2,_,0,_,rfl,rfl, .of FU,Zo (j:=0),_,_,rfl,rfl,_,rfl,?_⟩;refine bg (fun h7=>?_) (fun h7=>?_)
   ·have h7:(pr ps (j+1)).1≤(pr ps j).1:=by simpa using h7
    refine jS ?_;refine bad ?_;have:stepOk (pr ps j) (pr ps (j+1))=false:=by simp[stepOk];lia
    simp[dG,this]
   have h7:¬(pr ps (j+1)).1≤(pr ps j).1:=by simpa using h7
   refine⟨_,rfl,_,rfl,_,rfl,_,_,rfl,rfl,w,_,_,_,rfl,rfl, .of hw,vW,t2,_,1,_,rfl,rfl, .of FU,Zo (j:=1),_,_,rfl,rfl,_,rfl,?_⟩;refine bg (fun h8=>?_) (fun h8=>?_)
   ·have h8:(pr ps (j+1)).2≤(pr ps j).2:=by simpa using h8
    refine bad ?_;have:stepOk (pr ps j) (pr ps (j+1))=false:=by simp[stepOk];lia
    simp[dG,this]
   have h8:¬(pr ps (j+1)).2≤(pr ps j).2:=by simpa using h8
   refine⟨⟨_,_,_,rfl⟩,rfl,Hi.next ?_⟩;have:stepOk (pr ps j) (pr ps (j+1))=true:=by simp[stepOk];lia
   simp[dG,h5,this]
  ·rintro σ H' ⟨⟨u1,u2,u3,rfl⟩,e0,Hi⟩;subst e0;have e:((ws.length:Nat):Int).toNat=ps.length:=by lia
   rw[e]at Hi;refine⟨_,rfl,aF ZA,fun pn MV=>⟨w,pn,_,rfl,rfl, .of (ax.upd MV _ _ hw), .of ae,?_⟩⟩;have hq:=q _ (ax.upd (o:= .lst []) MV);by_cases hz:ps=[]
   ·subst hz;have:ws=[]:=List.length_eq_zero_iff.mp Iu;subst this;exact hq
   ·rw[mB hz Hi]at hq;have:ws≠[]:=fun z=>hz (by subst z;exact List.length_eq_zero_iff.mp Iu.symm)
    have:(!ws.isEmpty)=true:=by simpa using this
    rw[this];exact hq
theorem fL:aL ["_law_case_here","_law_shut","_law_found","_law_i","_law_j","_law_gain"] ["_law_case_here","_law_shut"] (ar iM):=⟨rfl,rfl,rfl,by decide+kernel,rfl,by decide+kernel,by decide+kernel⟩
include T bL in
theorem uT{f:Addr}{fd:FuncData}(F:jt K "_law_spots" "_law_spots" iM f fd):a8 P w K mg base (c7 P w) true 2 f fd ["_law_case_here","_law_shut"] tX:=by
 refine F.gO fL Η (fun bU A outer s H vs Q E hr h hX=>?_)
 ·obtain⟨a,s0,c,f,g,m,l,us,ws,sh,rfl,_⟩:=h;rfl
 ·obtain⟨a,s0,c,x1,x2,m,l,us,ws,sh,rfl,C1,hs,P1,hx,hy,q⟩:=h;have hu:=hr.units;have hu:(A.deeper (PyProof.Rows.envOfC "_law_spots" (ar iM) s.heap.objs.size f bU)).units+1<cLine:=by lia
  have lx:(c.xs.map V.str).length=c.xs.length:=List.length_map ..;have ly:(c.ys.map V.str).length=c.ys.length:=List.length_map ..;refine⟨_,(ZV (ZH (2) fL.nd (@bN _ _ _ _ ai)) (ZV (ZU hX.own (@dN _ _ _ _ _ _ (by exact rfl) T.fC (ZJ (ZM (aK K) T.c_ (ZJ Ν))) (Α)) (ZI (3) fL.nd) (ZX (ZU hX.own (@dN _ _ _ _ _ _ (by exact rfl) T.fC (ZJ (ZM (aK K) T.c_ (ZJ Ν))) (Α)) (ZI (4) fL.nd) (ZV (ZH (5) fL.nd (ZK bL aR (ZN (ZL Ν (pv 3)) (ZN (ZL Ν (pv 4)) (ZN (ZL Ν af) (ZJ Ν)))))) (ZX (Ξ (@PW.pt _ _ _ (@pw_and _ _ _ _ _ _ _ (ZW (@ow _ _ _ _ _ (pv 5))) (@pw_and1 _ _ _ _ (Z9 (m_ K hu) (@d6 _ _ _ _ _ (ZN (pv 3) (ZJ (pv 4)))) (pv 1) (by with_unfolding_all rfl))))) (ZX (Ο (ZR K PySem.F.slot_list_append PySem.F.type_list_append bS (pv 2) (ZJ (@d6 _ _ _ _ _ (ZN (pv 3) (ZN (pv 4) (ZJ (pv 5))))))))) aQ)))))) (ZX (Θ (pv 2))))),?_⟩;refine⟨aF ZA,fun b hb=>?_⟩;have C2:=C1.keep (ax.upd (o:= .lst []) hb);refine⟨_,rfl,a,_,0,_,rfl,rfl, .of C2.ca,Zo (j:=0),x1,_,rfl, .inl (.of C2.fi),((c.xs.map V.str).length:Int),rfl,by lia,by lia,?_⟩;refine fu (fun i σ H'=>(∃u1 u2 u3,σ=[sR a,sR s0,sR b,u1,u2,u3])∧ax H H'∧∃xs,H' b=some (.lst xs)∧DL H' xs (ke c sh i)) ⟨⟨_,_,_,rfl⟩,ax.upd hb,[],ae, .nil⟩ ?_ ?_
  ·rintro i σ H' hi ⟨⟨u1,u2,u3,rfl⟩,s1,xs,jZ,S1⟩;have hi:i<c.xs.length:=by rw[lx]at hi;lia
   have C3:=C1.keep s1;refine⟨_,rfl,a,_,1,_,rfl,rfl, .of C3.ca,Zo (j:=1),x2,_,rfl, .inl (.of C3.se),((c.ys.map V.str).length:Int),rfl,by lia,by lia,?_⟩;refine fu (fun j σ H'=>(∃u2 u3,σ=[sR a,sR s0,sR b,sI ((0+(i:Int))),u2,u3])∧ax H H'∧∃xs,H' b=some (.lst xs)∧DL H' xs (ke c sh i++lS c sh i j)) ⟨⟨_,_,rfl⟩,s1,xs,jZ,by rw[lS,List.append_nil];exact S1⟩ ?_ ?_
   ·clear s1 jZ S1 xs u1 u2 u3 C3 H';rintro j σ H' hj ⟨⟨u2,u3,rfl⟩,s1,xs,jZ,S1⟩;have hj:j<c.ys.length:=by rw[ly]at hj;lia
    have C3:=C1.keep s1;obtain⟨x,lu,yj⟩:=vJ (xs:=c.xs) (i:=0+(i:Int)) (by lia) (by lia);obtain⟨y,GB,DQ⟩:=vJ (xs:=c.ys) (i:=0+(j:Int)) (by lia) (by lia);have ez:(0+(i:Int),0+(j:Int))=aP (i,j):=Prod.ext (by simp[aP]) (by simp[aP]);have ep:c.pw (aP (i,j))=cK c.same c.fs x y:=by rw[←ez];exact Case.pw_of lu GB
    have sl:=S1.1;have l1:=vT c sh i;have l2:=qG c sh i j;have l3:i*c.ys.length≤50*50:=Nat.mul_le_mul UQ hy;rw[List.length_append]at sl;refine⟨_,rfl,a,_,0,_,rfl,rfl, .of C3.ca,Zo (j:=0),_,rfl,x1,_,_,_,rfl,rfl, .of C3.fi,yj,_,rfl,a,_,1,_,rfl,rfl, .of C3.ca,Zo (j:=1),_,rfl,x2,_,_,_,rfl,rfl, .of C3.se,DQ,_,rfl,a,_,2,_,rfl,rfl, .of C3.ca,Zo (j:=2),m,_,0,_,rfl,rfl, .of C3.nu,Zo (j:=0),_,rfl,a,_,3,_,rfl,rfl, .of C3.ca,Zo (j:=3),x,y,c.same,l,us,c.fs,rfl,C3.ne,C3.tr,?_⟩;rw[←ep];refine⟨_,rfl,_,rfl,?_⟩;cases e:c.pw (aP (i,j))with
    |none=>
     refine bg (fun hh=>Zn hh (by simp[bG])) (fun _=>?_);refine f_ ?_;refine⟨⟨_,_,rfl⟩,s1,xs,jZ,?_⟩;have:mO c sh (aP (i,j))=none:=by unfold mO;split;rfl;exact e
     rw[lS,this,List.append_nil];exact S1
    |some w=>
     refine bg (fun _=>?_) (fun hh=>Zn (by simp[bG]) hh);refine⟨_,rfl,_,rfl,aF ZA,fun p hp=>?_⟩;have s2:=s1.trans (ax.upd (o:= .tup [.int (0+(i:Int)), .int (0+(j:Int))]) hp);have yg:=ax.upd (o:= .tup [.int (0+(i:Int)), .int (0+(j:Int))]) hp _ _ jZ;have S2:=S1.cz (cU.same (ax.upd (o:= .tup [.int (0+(i:Int)), .int (0+(j:Int))]) hp));refine⟨_,rfl,p,s0,(0+(i:Int),0+(j:Int)),ws,sh,rfl,rfl,ae, .of (s2 _ _ hs),P1.same s2,_,rfl,?_⟩;generalize upd H' p (.tup [.int (0+(i:Int)), .int (0+(j:Int))])=H2 at s2 yg S2;rw[ez];refine bg (fun h1=>?_) (fun h1=>?_)
     ·have h1:aP (i,j)∉sh:=by simpa using h1
      refine⟨_,rfl, .inl ⟨rfl,_, .of yg⟩,_,rfl,_,rfl,_,rfl,aF ZA,fun t ht=>⟨b,xs,_,rfl,rfl,ax.upd ht _ _ yg,aZ UQ,⟨_,_,rfl⟩,(s2.trans (ax.upd ht)).dU hb,_,ae,?_⟩⟩;have e2:mO c sh (aP (i,j))=some w:=by unfold mO;rw[Z5 h1];exact e
      rw[lS,e2,←List.append_assoc];have S3:DL (upd H2 t (.tup [.int (0+(i:Int)), .int (0+(j:Int)), .int w])) (xs++[.ref t]) ((ke c sh i++lS c sh i j)++[(aP (i,j),w)]):=(S2.cz (cU.same (ax.upd ht))).snoc (by rw[←ez];exact ae);exact S3.cz (cU.lst (ax.upd ht _ _ yg))
     ·have h1:aP (i,j)∈sh:=by simpa using h1
      refine⟨⟨_,_,rfl⟩,s2,xs,yg,?_⟩;have:mO c sh (aP (i,j))=none:=by unfold mO;rw[Z7 h1]
      rw[lS,this,List.append_nil];exact S2
   ·rintro σ H2 ⟨⟨u2,u3,rfl⟩,s2,Gi,yg,S2⟩;rw[ly,Int.toNat_natCast]at S2;exact⟨⟨_,_,_,rfl⟩,s2,Gi,yg,S2⟩
  ·rintro σ H2 ⟨⟨u1,u2,u3,rfl⟩,s2,Gi,yg,S2⟩;rw[lx,Int.toNat_natCast]at S2;exact⟨_,rfl,q _ b _ s2 hb yg S2⟩
variable(gF:bM P w K mg base true 3 "_law_finding" ["_law_found"] (tY ay))
variable(ie:bM P w K mg base true 2 "_law_is_way" ["_law_case_here","_law_way"] tE)
variable(iT:bM P w K mg base true 2 "_law_worth" ["_law_case_here","_law_way"] qu)
variable(iU:bM P w K mg base true 2 "_law_spots" ["_law_case_here","_law_shut"] tX)
theorem cD:aL ["_law_case_here","_law_told","_law_held","_law_one","_law_pair_here","_law_i","_law_j","_law_gain"] ["_law_case_here","_law_told"] (ar hG):=⟨rfl,rfl,rfl,by decide+kernel,rfl,by decide+kernel,by decide+kernel⟩
include T Fc gF ie iT iU in
theorem uc{f:Addr}{fd:FuncData}(F:jt K "_law_anchor" "_law_anchor" hG f fd):a8 P w K mg base (c7 P w) true 4 f fd ["_law_case_here","_law_told"] (qH ay):=by
 refine F.gO cD Η (fun bU A outer s H vs Q E hr h hX=>?_)
 ·obtain⟨a,t,c,f,g,m,l,us,ws,es,rfl,_⟩:=h;rfl
 ·obtain⟨b,t,c,x1,x2,m,l,us,vs,es,rfl,C3,ok,ht,FL,TD,q⟩:=h;have hu:=hr.units;have hu:(A.deeper (PyProof.Rows.envOfC "_law_anchor" (ar hG) s.heap.objs.size f bU)).units+1<cLine:=by lia
  have Ue:=ok.x;have Ug:=ok.y;have Po:=FL.1;refine⟨_,(Z1 (ZH (2) cD.nd j9) (Z1 (ZU hX.own (Ψ K Β) (ZI (3) cD.nd) (Z1 (Z2 (@PW.pt _ _ _ (η (@cO _ _ _ _ (Χ (ZK gF aR (ZJ (pv 3))))) (η (@cO _ _ _ _ (Χ (ZK ie aR (ZN Γ (ZJ (θ K (pv 3))))))) (@pw_or1 _ _ _ _ (Z9 m3 (θ K (pv 3)) (ZL Ν af) (aV _)))))) aQ) (Z1 (Z2 (Z9 vm (ZK iT aR (ZN Γ (ZJ (θ K (pv 3))))) (θ K (pv 3)) (aV _)) aQ) (Z1 (ZU hX.own (Ψ K (θ K (pv 3))) (ZI (4) cD.nd) (Z1 (Z2 (ZW (@qk _ _ _ _ _ hu (pv 4) (pv 2))) aQ) (ZX (@ky _ _ _ _ _ _ _ _ _ hu (pv 2) (pv 4) dW Ρ)))) (ZX (ZU hX.own (Ψ K (θ K (pv 3))) (ZI (4) cD.nd) (ZX (Z2 (Z9 (m_ K hu) (pv 4) (θ K (pv 3)) (by with_unfolding_all rfl)) aQ)))))))) (Z1 (ZU hX.own (Ψ K (ZK iU aR (ZN Γ (ZJ (@bN _ _ _ _ ai))))) (μ K (3) (by exact rfl) (Τ (ZI (5) cD.nd) (Τ (ZI (6) cD.nd) (Τ (ZI (7) cD.nd) ft)))) (ZX (Z2 (@PW.pt _ _ _ (@pw_and _ _ _ _ _ _ _ (Z9 Bd (pv 7) (ZL Ν af) (aV _)) (@pw_and1 _ _ _ _ (ZW (@vA _ _ _ _ _ hu (@d6 _ _ _ _ _ (ZN (pv 5) (ZJ (pv 6)))) (pv 2)))))) aQ))) (ZX (Θ dW))))),?_⟩;refine⟨fun σ H4=>∃d,σ=[sR b,sR t,sR d,none,none,none,none,none]∧ax H H4∧H d=none∧H4 d=some (.dT []),fun d hd=>⟨d,rfl,ax.upd hd,hd,ae⟩,?_⟩;rintro σ H4 ⟨D,rfl,s4,MI,hD⟩;refine⟨fun σ H5=>(∃u1 u2,σ=[sR b,sR t,sR D,u1,u2,none,none,none])∧ax H H5∧∃kvs,H5 D=some (.dT kvs)∧m8 kvs (lT es es.length),?_,?_⟩
  ·refine⟨_,rfl,t,rfl,⟨_, .of (s4 _ _ ht)⟩,?_⟩;refine bW (xs:=vs) (fun k σ H5=>(∃u1 u2,σ=[sR b,sR t,sR D,u1,u2,none,none,none])∧ax H H5∧∃kvs,H5 D=some (.dT kvs)∧kvs.length≤(lT es k).length∧m8 kvs (lT es k)) ⟨⟨_,_,rfl⟩,s4,[],hD,Nat.zero_le _,fun p=>by simp[sP,lT]⟩ ?_ ?_ ?_
   ·rintro k σ H5 _ ⟨_,s5,_⟩;exact .of (s5 _ _ ht)
   ·rintro k v σ H5 hv ⟨⟨u1,u2,rfl⟩,s5,kvs,GF,SI,MW⟩;have hk:k<es.length:=by rw[←Po];exact(ZO hv).1
    have ek:es[k]?=some es[k]:=by simp[hk]
    generalize es[k]=d at ek;obtain⟨y,dy,wy,iE,pr,lz,iy,e1,F3⟩:=FL.2 k d ek;rw[hv]at e1;cases e1;have jX:=TD.jX d (Z0 ek);have FF:∀{H'},ax H H'→vR (fun _=>True) H' ay y d dy wy iE pr lz iy:=fun{H'} s'=>F3.keep (fun b o _ e=>s' b o e) (cU.same s') fun _ h=>h
    have iw:=F6 jX.way;have nd:=mG jX.qc;have pl:=TD.LX ok (k+1);rw[zc ek,List.length_append]at pl;have wl:d.way.length≤2500:=by
     have h6:=len_sub d.way d.pairs (jX.way.up.imp fun{a b} h e=>by
      rw[e]at h;have:=h.1
      lia) jX.sub
     lia
    refine⟨fun σ H6=>σ=[sR b,sR t,sR D,sR y,u2,none,none,none]∧ax H5 H6,?_,?_⟩
    ·have F:=FF s5;refine⟨_,rfl,y,_,d,dy,wy,iE,pr,lz,iy,rfl,F,by rw[jX.row,HZ],jX.way.ne,fun H6 s6=>⟨_,rfl,?_⟩⟩;refine f_ ?_;have F:=FF (s5.trans s6);refine⟨_,rfl,_,rfl,y,ay,dy,_,_,rfl,F.ob,Fc.cl,Fc.way,qC d.worth wy iE pr,b,wy,c,x1,x2,m,l,us,lz,d.way,rfl,C3.keep (s5.trans s6),F.hw,F.pw,by lia,fun H7 s7=>⟨_,rfl,?_⟩⟩;rw[iw];refine f_ ?_;have Uh:=s6.trans s7;have F:=FF (s5.trans Uh);have C7:=C3.keep (s5.trans Uh);have j5:=C7.ca;refine⟨_,rfl,y,ay,dy,_,_,rfl,F.ob,Fc.cl,Fc.worth,ja d.worth wy iE pr,_,rfl,b,_,2,_,rfl,rfl, .of j5,Zo (j:=2),m,_,3,_,rfl,rfl, .of C7.nu,Zo (j:=3),_,_,rfl,rfl,_,rfl,?_⟩;have:=jX.least;exact bg (fun hh=>Zn hh (by simp;lia)) (fun _=>⟨rfl,Uh⟩)
    rintro σ H6 ⟨rfl,s6⟩;have s7:=s5.trans s6;have Gh:=s6 _ _ GF;have F:=FF s7;refine⟨fun σ H7=>σ=[sR b,sR t,sR D,sR y,u2,none,none,none]∧H7=H6,?_,?_⟩
    ·refine⟨_,rfl,_,rfl,y,ay,dy,_,_,rfl,F.ob,Fc.cl,Fc.way,qC d.worth wy iE pr,b,wy,c,x1,x2,m,l,us,lz,d.way,rfl,C3.keep s7,ok.num,F.hw,F.pw,by lia,iw,_,rfl,y,ay,dy,_,_,rfl,F.ob,Fc.cl,Fc.worth,ja d.worth wy iE pr,rfl,_,rfl,?_⟩;rw[(HY iw).2,jX.worth];exact bg (fun hh=>absurd hh ZA) (fun _=>⟨rfl,rfl⟩)
    rintro σ H7 ⟨rfl,rfl⟩;refine⟨fun σ H8=>(∃u3,σ=[sR b,sR t,sR D,sR y,u3,none,none,none])∧ax H H8∧∃kvs,H8 D=some (.dT kvs)∧kvs.length≤(lT es (k+1)).length∧m8 kvs (lT es (k+1)),?_,?_⟩
    ·refine⟨_,rfl,y,ay,dy,_,_,rfl,F.ob,Fc.cl,Fc.pairs,ip d.worth wy iE pr,pr,rfl,⟨_, .of F.hp⟩,?_⟩;refine bW (xs:=iy) (fun i σ H8=>(∃u3,σ=[sR b,sR t,sR D,sR y,u3,none,none,none])∧ax H H8∧∃kvs,H8 D=some (.dT kvs)∧kvs.length≤(lT es k).length+i∧m8 kvs (lT es k++d.pairs.take i)) ⟨⟨_,rfl⟩,s7,kvs,Gh,by lia,by simpa using MW⟩ ?_ ?_ ?_
     ·rintro i σ H8 _ ⟨_,s8,_⟩;exact .of (FF s8).hp
     ·rintro i v σ H8 hv ⟨⟨u,rfl⟩,s8,IH,MY,Pp,Mc⟩;have hi:i<d.pairs.length:=by rw[←F3.pp.1];exact(ZO hv).1
      have ei:d.pairs[i]?=some d.pairs[i]:=by simp[hi]
      generalize d.pairs[i]=g at ei;obtain⟨tt,g1,g2⟩:=F3.pp.2 i g ei;rw[hv]at g1;cases g1;have hn:g∉lT es k++d.pairs.take i:=fun z=>(List.mem_append.mp z).elim (TD.Ia ek (Z0 ei)) (Ib nd ei)
      refine⟨fun σ H9=>σ=[sR b,sR t,sR D,sR y,sR tt,none,none,none]∧H9=H8,?_,?_⟩
      ·refine⟨_,rfl,_,rfl,D,_,rfl, .t (k:=bf g) MY (s8 _ _ g2),_,rfl,?_⟩;rw[Mc];exact bg (fun hh=>Zn (by simpa using hh) hn) (fun _=>⟨rfl,rfl⟩)
      rintro σ H9 ⟨rfl,rfl⟩;refine⟨_,rfl,_,rfl,D,_,rfl, .t (k:=bf g) MY (s8 _ _ g2) (aZ UQ),⟨_,rfl⟩,s8.dU MI,_,ae,Nat.le_trans (eZ _ _ _) (by lia),?_⟩;have:=F9 Mc g (.bl true);rw[List.append_assoc]at this;rw[List.take_succ,ei];exact this
     ·rintro σ H8 ⟨Ui,s8,IH,MY,Pp,Mc⟩;rw[F3.pp.1]at Pp;rw[F3.pp.1,List.take_length]at Mc;rw[zc ek];exact⟨Ui,s8,IH,MY,by rw[List.length_append];exact Pp,Mc⟩
    rintro σ H8 ⟨⟨u4,rfl⟩,s8,IH,MY,Pp,Mc⟩;have F:=FF s8;refine⟨_,rfl,y,ay,dy,_,_,rfl,F.ob,Fc.cl,Fc.way,qC d.worth wy iE pr,wy,rfl,⟨_, .of F.hw⟩,?_⟩;refine bW (xs:=lz) (fun i σ H9=>(∃u3,σ=[sR b,sR t,sR D,sR y,u3,none,none,none])∧H9=H8) ⟨⟨_,rfl⟩,rfl⟩ ?_ ?_ ?_
    ·rintro i σ H9 _ ⟨_,rfl⟩;exact .of F.hw
    ·rintro i v σ H9 hv ⟨⟨u,rfl⟩,rfl⟩;have hi:i<d.way.length:=by rw[←F.pw.1];exact(ZO hv).1
     have ei:d.way[i]?=some d.way[i]:=by simp[hi]
     generalize d.way[i]=g at ei;obtain⟨tt,g1,g2⟩:=F.pw.2 i g ei;rw[hv]at g1;cases g1;refine⟨_,rfl,_,rfl,y,ay,dy,_,_,rfl,F.ob,Fc.cl,Fc.pairs,ip d.worth wy iE pr,tt,pr,g,iy,d.pairs,rfl,rfl,g2, .of F.hp,F.pp,_,rfl,?_⟩;have:=jX.sub g (Z0 ei);exact bg (fun hh=>Zn hh (by simp[this])) (fun _=>⟨⟨_,rfl⟩,rfl⟩)
    ·rintro σ H9 ⟨⟨u,rfl⟩,rfl⟩;exact⟨⟨_,_,rfl⟩,s8,IH,MY,Pp,Mc⟩
   ·rintro σ H5 ⟨Ui,s5,kvs,GF,_,MW⟩;rw[Po]at MW;exact⟨Ui,s5,kvs,GF,MW⟩
  rintro σ H5 ⟨⟨u1,u2,rfl⟩,s5,kvs,GF,MW⟩;refine⟨fun σ H4=>ax H H4,?_,fun σ H4 s4=>q _ s4⟩;refine⟨_,rfl,aF ZA,fun e he=>?_⟩;have s6:=s5.trans (ax.upd (o:= .lst []) he);refine⟨b,e,c,x1,x2,m,l,us,[],[],rfl,C3.keep s6,ae, .nil,by lia,by lia,fun H7 r ws s7 rE h7 S7=>⟨r,rfl,⟨_, .of h7⟩,?_⟩⟩;have V':=s6.trans s7;have Gh:=s7 _ _ (ax.upd (o:= .lst []) he _ _ GF);refine bW (xs:=ws) (fun k σ H8=>(∃v1 v2 v3,σ=[sR b,sR t,sR D,u1,u2,v1,v2,v3])∧ax H7 H8) ⟨⟨_,_,_,rfl⟩, .refl _⟩ ?_ ?_ (fun _ _ ⟨_,s8⟩=>V'.trans s8)
  ·rintro k σ H8 _ ⟨_,s8⟩;exact .of (s8 _ _ h7)
  ·rintro k v σ H8 hv ⟨⟨v1,v2,v3,rfl⟩,s8⟩;have hk:k<(ke c [] c.xs.length).length:=by rw[←S7.1];exact(ZO hv).1
   have ek:(ke c [] c.xs.length)[k]?=some (ke c [] c.xs.length)[k]:=by simp[hk]
   generalize (ke c [] c.xs.length)[k]=x at ek;obtain⟨tt,k1,k2⟩:=S7.2 k x ek;rw[hv]at k1;cases k1;have YX:=vV (Z0 ek);have C8:=C3.keep (V'.trans s8);have j5:=C8.ca;refine⟨tt,_,rfl, .of (s8 _ _ k2),rfl,_,_,rfl,_,_,rfl,_,_,rfl,rfl,?_⟩;refine⟨_,rfl,_,rfl,b,_,2,_,rfl,rfl, .of j5,Zo (j:=2),m,_,3,_,rfl,rfl, .of C8.nu,Zo (j:=3),_,_,rfl,rfl,_,rfl,?_⟩;refine bg (fun h1=>?_) (fun _=>?_)
   ·have h1:c.least≤x.2:=by simpa using h1
    refine⟨_,rfl,_,rfl,aF ZA,fun p hp=>⟨_,rfl,D,_,rfl, .t (k:=bf x.1) (ax.upd hp _ _ (s8 _ _ Gh)) ae,_,rfl,?_⟩⟩;rw[MW];obtain⟨d,hd,hq⟩:=TD.pair YX h1;refine bg (fun hh=>Zn hh (by simp;exact LW hd hq)) (fun _=>?_);exact⟨⟨_,_,_,rfl⟩,s8.trans (ax.upd hp)⟩
   ·refine f_ ?_;exact⟨⟨_,_,_,rfl⟩,s8⟩
variable(mM:bM P w K mg base true 8 "compare" ["first","second","terms"] (xm aU ay kf))
variable(iV:bM P w K mg base true 7 "_law_terms" ["_law_case_here"] (qr aU))
theorem uU:aL ["_law_case_here"] ["_law_case_here"] (ar kT):=⟨rfl,rfl,rfl,by decide+kernel,rfl,by decide+kernel,by decide+kernel⟩
include T mM iV in
theorem uV{f:Addr}{fd:FuncData}(F:jt K "_law_asked" "_law_asked" kT f fd):a8 P w K mg base (c7 P w) true 9 f fd ["_law_case_here"] (xr ay):=by
 refine F.gO uU Η (fun bU A outer s H vs Q E hr h hX=>?_)
 ·obtain⟨a,c,f,g,m,l,us,most,rfl,_⟩:=h;rfl
 ·obtain⟨a,c,x1,x2,m,l,us,most,rfl,C1,ok,hm,vB,q⟩:=h;refine⟨_,(ZX (Θ (ZK mM aR (ZN (ς (fJ K) (by exact rfl) T.jT PyProof.Rows.Boot.«list» (ZJ Ν)) (ZN (ς (fJ K) (by exact rfl) T.jT PyProof.Rows.Boot.«list» (ZJ Ν)) (ZJ (ZK iV aR (ZJ Γ)))))))),?_⟩;have j5:=C1.ca;refine⟨_,rfl,a,_,0,_,rfl,rfl, .of j5,Zo (j:=0),x1,_,rfl, .inl (.of C1.fi),fun y1 GB=>?_⟩;have s1:=ax.upd (o:= .lst (c.xs.map V.str)) GB;have Uj:=s1 _ _ j5;refine⟨_,rfl,a,_,1,_,rfl,rfl, .of Uj,Zo (j:=1),x2,_,rfl, .inl (.of (s1 _ _ C1.se)),fun y2 DQ=>?_⟩;have s2:=s1.trans (ax.upd (o:= .lst (c.ys.map V.str)) DQ);refine⟨_,rfl,a,c,x1,x2,m,l,us,most,rfl,C1.keep s2,ok,fun H3 t s3 TF=>?_⟩;have MT:=s2.trans s3;have Ue:=ok.x;have Ug:=ok.y;refine⟨y1,y2,t,c,rfl,s3 _ _ (ax.upd DQ _ _ ae),s3 _ _ ae,TF,by lia,by lia,fun es TD H4 r vs s4 hr h4 FL=>?_,fun ds f2 RC hl H4 s4=>?_⟩
  ·exact q es TD H4 r vs (MT.trans s4) (MT.free hr) h4 (FL.keep (fun _ _ _ h=>h) (fun _ _ h=>h) fun b hb=>trivial)
  ·have:=vB _ _ RC
   lia
theorem jG:aL ["_law_told","_law_due","_law_k"] ["_law_told","_law_due"] (ar fF):=⟨rfl,rfl,rfl,by decide+kernel,rfl,by decide+kernel,by decide+kernel⟩
include T Fc bI dE in
theorem pz{f:Addr}{fd:FuncData}(F:jt K "_law_same_list" "_law_same_list" fF f fd):a8 P w K mg base (c7 P w) true 3 f fd ["_law_told","_law_due"] (tZ ay):=by
 refine F.gO jG Η (fun bU A outer s H vs Q E hr h hX=>?_)
 ·obtain⟨t,d,us,ws,es,P,rfl,_⟩:=h;rfl
 ·obtain⟨t,d0,us,ws,es,P,rfl,ht,FL,hd,D,hl,q⟩:=h;have hu:=hr.units;have hu:(A.deeper (PyProof.Rows.envOfC "_law_same_list" (ar fF) s.heap.objs.size f bU)).units+1<cLine:=by lia
  have e1:=FL.1;have e2:=D.1;rw[List.length_map]at e2;refine⟨_,(ZV (Z2 (@PW.pt _ _ _ (η (@cO _ _ _ _ (Χ (ZY (f6 K) T.de PyProof.Rows.Boot.«isinstance» (ZN Γ (ZJ τ))))) (@pw_or1 _ _ _ _ (Z9 vm (ZM (aK K) T.c_ (ZJ Γ)) (ZM (aK K) T.c_ (ZJ Β)) (aV _))))) aQ) (ZV (χ hX.own (ZI (2) jG.nd) (ZV (Z2 (@PW.pt _ _ _ (η (@cO _ _ _ _ (Χ (ZK bI aR (ZJ (θ K (ZL Γ (pv 2))))))) (@pw_or1 _ _ _ _ (Z9 vm (θ K (ZL Γ (pv 2))) (δ (bV K) (ZL Β (pv 2)) af) (aV _))))) aQ) (ZX (Z2 (@PW.pt _ _ _ (η (@cO _ _ _ _ (Χ (ZK dE aR (ZJ (θ K (ZL Γ (pv 2))))))) (@pw_or1 _ _ _ _ (Z9 (AL K hu) (θ K (ZL Γ (pv 2))) (δ (bV K) (ZL Β (pv 2)) af) (aV _))))) aQ)))) (ZX (Θ dW)))),?_⟩;refine⟨_,rfl,_,_,_,true,_,rfl,rfl, .lst ht,rfl,_,rfl,?_⟩;refine f_ ?_;refine⟨_,rfl,t,_,rfl, .inl (.of ht),_,rfl,d0,_,rfl, .inl (.of hd),rfl,_,rfl,?_⟩;refine bg (fun hh=>Zn hh (by simp;lia)) (fun _=>?_);refine⟨_,rfl,d0,_,rfl, .inl (.of hd),_,rfl,by lia,by lia,?_⟩;refine fu (fun i σ H'=>(∃u,σ=[sR t,sR d0,u])∧H'=H) ⟨⟨_,rfl⟩,rfl⟩ ?_ ?_
  ·rintro i σ H' hi ⟨⟨u,rfl⟩,rfl⟩;have hi:i<es.length:=by have:i<((ws.length:Nat):Int).toNat:=hi;lia
   have ei:es[i]?=some es[i]:=by simp[hi]
   generalize es[i]=d at ei;obtain⟨y,dy,wy,iE,pr,lz,iy,k1,F⟩:=FL.2 i d ei;obtain⟨tt,ll,YY,k2,k3,k4,P4⟩:=D.2 i (kK d) (by rw[List.getElem?_map,ei];rfl);have vW:∀{vs:List V}{v},vs[i]?=some v→rO vs (0+(i:Int))=some v:=fun{vs v} h=>by rw[Int.zero_add];exact au h
   refine⟨_,rfl,_,rfl,t,_,_,_,rfl,rfl, .of ht,vW k1,y,ay,dy,_,_,rfl,F.ob,Fc.cl,Fc.worth,ja d.worth wy iE pr,_,rfl,_,rfl,?_⟩;refine f_ ?_;refine⟨_,rfl,_,rfl,t,_,_,_,rfl,rfl, .of ht,vW k1,y,ay,dy,_,_,rfl,F.ob,Fc.cl,Fc.worth,ja d.worth wy iE pr,_,rfl,_,rfl,d0,_,_,_,rfl,rfl, .of hd,vW k2,tt,_,0,_,rfl,rfl, .of k3,Zo (j:=0),rfl,_,rfl,?_⟩;refine bg (fun hh=>Zn hh (by simp[kK])) (fun _=>?_);refine⟨_,rfl,_,rfl,t,_,_,_,rfl,rfl, .of ht,vW k1,y,ay,dy,_,_,rfl,F.ob,Fc.cl,Fc.pairs,ip d.worth wy iE pr,pr,iy,d.pairs,rfl,F.hp,F.pp,_,rfl,?_⟩;refine f_ ?_;refine⟨_,rfl,_,rfl,t,_,_,_,rfl,rfl, .of ht,vW k1,y,ay,dy,_,_,rfl,F.ob,Fc.cl,Fc.pairs,ip d.worth wy iE pr,_,rfl,_,rfl,d0,_,_,_,rfl,rfl, .of hd,vW k2,tt,_,1,_,rfl,rfl, .of k3,Zo (j:=1),pr,ll,iy,YY,d.pairs,rfl,rfl, .of F.hp, .of k4,F.pp,P4,_,rfl,?_⟩;refine f_ ?_;exact⟨⟨_,rfl⟩,rfl⟩
  ·rintro σ H' ⟨⟨u,rfl⟩,rfl⟩;exact q
variable(jH:bM P w K mg base true 3 "_law_case" ["_law_script","_law_most"] (wV K))
variable(jI:bM P w K mg base true 2 "_law_calm" ["_law_case_here"] xo)
variable(gG:bM P w K mg base true 9 "_law_asked" ["_law_case_here"] (xr ay))
variable(fM:bM P w K mg base true 4 "_law_anchor" ["_law_case_here","_law_told"] (qH ay))
variable(fG:bM P w K mg base true 3 "_law_same_list" ["_law_told","_law_due"] (tZ ay))
theorem jh:aL ["_law_script","_law_case_here","_law_pick","_law_same","_law_times","_law_near_here","_law_other","_law_told","_law_found","_law_due"] ["_law_script"] (ar lg):=⟨rfl,rfl,rfl,by decide+kernel,rfl,by decide+kernel,by decide+kernel⟩
include T Fc a7 jH jI gG fM fG in
theorem Md{f:Addr}{fd:FuncData}(F:jt K "law" "law" lg f fd):a8 P w K mg base (c7 P w) true 10 f fd ["_law_script"] (Bu K):=by
 refine F.gO jh Η (fun bU A outer s H vs Q E hr h hX=>?_)
 ·obtain⟨a,ns,rfl,_⟩:=h;rfl
 ·obtain⟨a,ns,rfl,hS,hlen,q⟩:=h;refine⟨_,(Z1 (ZH (1) jh.nd (ZS jH aR)) (Z1 (@ju _ _ _ _ _ _ _ _ _ _ _ _ _ _ _ (2) _ _ (by exact rfl) jh.nd Ρ (by exact rfl) (show bh ["_law_script","_law_case_here","_law_pick","_law_same","_law_times","_law_near_here","_law_other","_law_told","_law_found","_law_due"] (ar lg) _ ["_law_k"] [0] ["_law_script"]from⟨rfl,by decide+kernel,by decide+kernel,by decide+kernel,rfl,rfl,by decide+kernel,by decide+kernel,by decide+kernel⟩) (@dN _ _ _ _ _ _ (by exact rfl) T.fC (ZJ af) (Α)) (fun _ _ _ _ _=>(ZI (0) (show(["_law_k","_law_script"]:List Str).Nodup by decide+kernel))) (fun _ _ _ _ _=>fz) (fun _ _ _ _ _=>(ZK a7 aR (ZN Β (ZJ (ZQ bp af Γ))))) (Α) (by intro _;rfl)) (Z1 (@aH _ _ (3) _ _ _ _ jh.nd Ρ (Or.inr rfl) (ZQ bp af (ZZ bD af)) (Α) (by exact .inl rfl)) (Z1 (@sM _ _ _ _ _ _ (@bN _ _ _ _ (ZN (pv 3) (ZN (ZZ bD af) (ZN (ZZ bD af) (ZJ (ZQ bp af (ZZ bD af))))))) (@zP _ _ _ _ _ _ _ (pv 1) af set_list (by intro _;rfl)) (Α) (Α) (Α)) (Z1 (@sM _ _ _ _ _ _ (@kC _ _ _ _ _ _ _ _ _ _ _ _ _ _ (by exact rfl) (show bh ["_law_script","_law_case_here","_law_pick","_law_same","_law_times","_law_near_here","_law_other","_law_told","_law_found","_law_due"] (ar lg) _ ["_law_x","_law_y","_law_price"] [3] ["_law_same"]from⟨rfl,by decide+kernel,by decide+kernel,by decide+kernel,rfl,rfl,by decide+kernel,by decide+kernel,by decide+kernel⟩) (Ψ K (ZL Β af)) (fun _ _ _ _ _=>(μ K (3) (by exact rfl) (Τ (ZI (0) (show(["_law_x","_law_y","_law_price","_law_same"]:List Str).Nodup by decide+kernel)) (Τ (ZI (1) (show(["_law_x","_law_y","_law_price","_law_same"]:List Str).Nodup by decide+kernel)) (Τ (ZI (2) (show(["_law_x","_law_y","_law_price","_law_same"]:List Str).Nodup by decide+kernel)) ft))))) (fun _ _ _ _ _=>fz) (fun _ _ _ _ _=>(@d6 _ _ _ _ _ (ZN Γ (ZN Β (ZJ (ZQ bD (pv 2) (ZQ bp (pv 3) af))))))) (by intro _;rfl)) (@zP _ _ _ _ _ _ _ (pv 1) af set_list (by intro _;rfl)) (Α) (Α) (Α)) (Z1 (ZH (1) jh.nd (ZK jI aR (ZJ Β))) (Z1 (@aH _ _ (4) _ _ _ _ jh.nd Ρ (Or.inr rfl) (ZQ bp af (ZQ bD (ZS a7 aR) af)) (Α) (by exact .inl rfl)) (Z1 (@ju _ _ _ _ _ _ _ _ _ _ _ _ _ _ _ (5) _ _ (by exact rfl) jh.nd Ρ (by exact rfl) (show bh ["_law_script","_law_case_here","_law_pick","_law_same","_law_times","_law_near_here","_law_other","_law_told","_law_found","_law_due"] (ar lg) _ ["_law_x","_law_y","_law_price"] [4] ["_law_times"]from⟨rfl,by decide+kernel,by decide+kernel,by decide+kernel,rfl,rfl,by decide+kernel,by decide+kernel,by decide+kernel⟩) (Ψ K (ZL Β af)) (fun _ _ _ _ _=>(μ K (3) (by exact rfl) (Τ (ZI (0) (show(["_law_x","_law_y","_law_price","_law_times"]:List Str).Nodup by decide+kernel)) (Τ (ZI (1) (show(["_law_x","_law_y","_law_price","_law_times"]:List Str).Nodup by decide+kernel)) (Τ (ZI (2) (show(["_law_x","_law_y","_law_price","_law_times"]:List Str).Nodup by decide+kernel)) ft))))) (fun _ _ _ _ _=>fz) (fun _ _ _ _ _=>(@d6 _ _ _ _ _ (ZN Γ (ZN Β (ZJ (ZQ jR (pv 2) (pv 3))))))) (Α) (by intro _;rfl)) (Z1 (ZH (6) jh.nd (@bN _ _ _ _ (ZN (ZL Β af) (ZN (ZL Β af) (ZN (@kC _ _ _ _ _ _ _ _ _ _ _ _ _ _ (by exact rfl) (show bh ["_law_script","_law_case_here","_law_pick","_law_same","_law_times","_law_near_here","_law_other","_law_told","_law_found","_law_due"] (ar lg) _ ["_law_number"] [4] ["_law_times"]from⟨rfl,by decide+kernel,by decide+kernel,by decide+kernel,rfl,rfl,by decide+kernel,by decide+kernel,by decide+kernel⟩) (Ψ K (ZL Β af)) (fun _ _ _ _ _=>(ZI (0) (show(["_law_number","_law_times"]:List Str).Nodup by decide+kernel))) (fun _ _ _ _ _=>fz) (fun _ _ _ _ _=>(ZQ jR Γ (pv 1))) (by intro _;rfl)) (ZJ (pv 5))))))) (Z1 (ZH (7) jh.nd (ZK gG aR (ZJ Β))) (Z1 (ZH (8) jh.nd (ZK gG aR (ZJ (pv 6)))) (Z1 (Z2 (@PW.pt _ _ _ (η (@cO _ _ _ _ (Χ (ZY (f6 K) T.de PyProof.Rows.Boot.«isinstance» (ZN (pv 7) (ZJ τ))))) (@pw_or1 _ _ _ _ (@cO _ _ _ _ (Χ (ZY (f6 K) T.de PyProof.Rows.Boot.«isinstance» (ZN (pv 8) (ZJ τ)))))))) aQ) (Z1 (Z2 (@PW.pt _ _ _ (η (@cO _ _ _ _ (Χ (ZK fM aR (ZN Β (ZJ (pv 7)))))) (@pw_or1 _ _ _ _ (@cO _ _ _ _ (Χ (ZK fM aR (ZN (pv 6) (ZJ (pv 8))))))))) aQ) (Z1 (@ju _ _ _ _ _ _ _ _ _ _ _ _ _ _ _ (9) _ _ (by exact rfl) jh.nd Ρ (by exact rfl) (show bh ["_law_script","_law_case_here","_law_pick","_law_same","_law_times","_law_near_here","_law_other","_law_told","_law_found","_law_due"] (ar lg) _ ["_law_one"] [4] ["_law_times"]from⟨rfl,by decide+kernel,by decide+kernel,by decide+kernel,rfl,rfl,by decide+kernel,by decide+kernel,by decide+kernel⟩) (Ψ K (pv 7)) (fun _ _ _ _ _=>(ZI (0) (show(["_law_one","_law_times"]:List Str).Nodup by decide+kernel))) (fun _ _ _ _ _=>fz) (fun _ _ _ _ _=>(@d6 _ _ _ _ _ (ZN (ZQ jR (ZP K) (pv 1)) (ZJ (ς (fJ K) (by exact rfl) T.jT PyProof.Rows.Boot.«list» (ZJ (ZP K))))))) (Α) (by intro _;rfl)) (ZX (Θ (ZK fG aR (ZN (pv 8) (ZJ (pv 9)))))))))))))))))))),?_⟩;refine⟨fun σ H1=>∃b c x1 x2 m l us,σ=[sR a,sR b,none,none,none,none,none,none,none,none]∧ax H H1∧H b=none∧dX H1 b c x1 x2 m l us∧d7 12 c,⟨_,rfl,a,ns,12,rfl,hS,ZD,ZD,fun H1 b c x1 x2 m l us s1 hb C1 ok=>⟨b,c,x1,x2,m,l,us,rfl,s1,hb,C1,ok⟩⟩,?_⟩;rintro σ H1 ⟨b,c,x1,x2,m,l,us,rfl,s1,OZ,C1,ok⟩;refine⟨fun σ H2=>∃P p0 p1 p2 p3,σ=[sR a,sR b,sR P,none,none,none,none,none,none,none]∧ax H1 H2∧H2 P=some (.lst [.int p0, .int p1, .int p2, .int p3]),?_,?_⟩
  ·refine⟨4,rfl,ZD,ZD,fun D hD=>?_⟩;refine sX (fun i ys bq H'=>(∃u,bq=[u,sR a])∧∃is:List Int,ys=is.map V.int∧is.length=i∧H' D=some (.lst ys)∧ax H1 H') ⟨⟨_,rfl⟩,[],rfl,rfl,ae,ax.upd hD⟩ ?_ ?_
   ·rintro i ys bq H' hi ⟨⟨u,rfl⟩,is,rfl,hl,Ub,s2⟩;have hi:i<4:=hi;refine lK ?_;exact⟨_,rfl,_,rfl,_,_,rfl,rfl,a,ns,_,rfl,(s1.trans s2).seq hS,by lia,Ub,aZ (by rw[List.length_map];lia),⟨_,rfl⟩,is++[cell ns (5+(0+(i:Int)))],ZF,by simp[hl],ae,s2.dU hD⟩
   ·rintro ys bq H2 ⟨_,is,rfl,hl,lA,s2⟩;obtain⟨p0,p1,p2,p3,rfl⟩:=By hl;exact⟨D,p0,p1,p2,p3,rfl,s2,lA⟩
  rintro σ H2 ⟨P,p0,p1,p2,p3,rfl,s2,hP⟩;have c4:(0:Int)<4:=ZD;obtain⟨sm,YZ⟩:∃sm,sm=1+p0%6:=⟨_,rfl⟩
  obtain⟨ou,Y0⟩:∃x,x=p1%4:=⟨_,rfl⟩
  obtain⟨it,hit⟩:∃x,x=p2%4:=⟨_,rfl⟩
  obtain⟨le,hle⟩:∃x,x=1+p3%12:=⟨_,rfl⟩
  refine⟨fun σ H3=>σ=[sR a,sR b,sR P,sI sm,none,none,none,none,none,none]∧H3=H2,⟨_,rfl,P,_,0,_,rfl,rfl, .of hP,Zo (j:=0),_,_,rfl,rfl,(show(0:Int)<6 by decide),_,_,rfl,rfl,by rw[YZ];rfl,rfl⟩,?_⟩;rintro σ H2 ⟨rfl,rfl⟩;have C2:=C1.keep s2;refine⟨fun σ H3=>σ=[sR a,sR b,sR P,sI sm,none,none,none,none,none,none]∧ax H H3∧∃m',dX H3 b {c with same:=sm,out:=ou,into:=it,least:=le} x1 x2 m' l us,?_,?_⟩
  ·refine⟨_,rfl,_,rfl,P,_,1,_,rfl,rfl, .of hP,Zo (j:=1),_,_,rfl,rfl,c4,_,rfl,P,_,2,_,rfl,rfl, .of hP,Zo (j:=2),_,_,rfl,rfl,c4,_,rfl,P,_,3,_,rfl,rfl, .of hP,Zo (j:=3),_,_,rfl,rfl,(show(0:Int)<12 by decide),_,_,rfl,rfl,aF ZA,fun m' yF=>?_⟩;have Wa:=ax.upd (o:= .lst [.int sm, .int (p1%4), .int (p2%4), .int (1+p3%12)]) yF;have C3:=C2.keep Wa;have nb:m'≠b:=fun e=>by rw[e,C2.ca]at yF;cases yF
   refine⟨_,rfl,b,_,_,2,rfl,rfl,C3.ca,wN ZA,rfl,((s1.trans s2).trans Wa).dU OZ,m',?_⟩;exact C3.put (c':={c with same:=sm,out:=ou,into:=it,least:=le}) rfl rfl (by rw[Y0,hit,hle];exact ae) C3.ne C3.tr nb C3.XM
  rintro σ H3 ⟨rfl,s3,m',C3⟩;have Y1:1≤sm∧sm≤6:=by lia
  obtain⟨B9,Me⟩:∃B9,B9=qI (sm+3) c.fs:=⟨_,rfl⟩
  have gd:=Ij (k:=sm+3) (by lia) (by lia) ok.good;rw[←Me]at gd;have nl:=zg ok.good;refine⟨fun σ H4=>σ=[sR a,sR b,sR P,sI sm,none,none,none,none,none,none]∧ax H H4∧∃l' DP,dX H4 b {c with same:=sm,out:=ou,into:=it,least:=le,fs:=B9} x1 x2 m' l' DP,?_,?_⟩
  ·have j5:=C3.ca;refine⟨_,rfl,b,_,3,_,rfl,rfl, .of j5,Zo (j:=3),l,rfl,⟨_, .of C3.ne⟩,fun D hD=>?_⟩;have ul:=C3.tr.1;refine fA (xs:=us) (fun i ys bq H4=>(∃u1 u2 u3,bq=[u1,u2,u3,sI sm])∧H4 D=some (.lst ys)∧ax H3 H4∧cT H4 ys (qI (sm+3) (c.fs.take i))) ⟨⟨_,_,_,rfl⟩,ae,ax.upd hD, .nil⟩ ?_ ?_ ?_
   ·rintro i ys bq H4 _ ⟨_,_,s4,_⟩;exact .of (s4 _ _ C3.ne)
   ·rintro i v ys bq H4 hv ⟨⟨u1,u2,u3,rfl⟩,Dq,s4,TR⟩;have hi:i<c.fs.length:=by have:i<us.length:=(ZO hv).1;have:us.length=c.fs.length:=ul;lia
    have ei:c.fs[i]?=some c.fs[i]:=by simp[hi]
    generalize c.fs[i]=f at ei;obtain⟨tt,k1,k2⟩:=C3.tr.2 i f ei;rw[hv]at k1;cases k1;have tl:=TR.1;have Y2:(qI (sm+3) (c.fs.take i)).length≤60:=by unfold qI;rw[List.length_map,List.length_take];lia
    refine⟨tt,_,rfl, .of (s4 _ _ k2),rfl,_,_,rfl,_,_,rfl,_,_,rfl,rfl,?_⟩;refine oM ?_;refine⟨_,rfl,_,rfl,_,rfl,_,rfl,_,_,rfl,rfl,_,_,rfl,rfl,UQ,aF ZA,fun p hp=>?_⟩;have sp:=ax.upd (o:= .tup (EH (f.1,f.2.1,f.2.2%(sm+3)))) hp;refine⟨sp _ _ Dq,aZ UQ,⟨_,_,_,rfl⟩,ae,(s4.trans sp).dU hD,?_⟩;have e9:qI (sm+3) (c.fs.take (i+1))=qI (sm+3) (c.fs.take i)++[(f.1,f.2.1,f.2.2%(sm+3))]:=by unfold qI;rw[List.take_succ,ei];simp
    rw[e9];have T2:=(TR.same sp).snoc (t:=p) (f:=(f.1,f.2.1,f.2.2%(sm+3))) ae;exact T2.cz (cU.lst (sp _ _ Dq))
   ·rintro ys bq H4 ⟨_,Dq,s4,TR⟩;rw[ul,List.take_length,←Me]at TR;have C4:=C3.keep s4;have nb:D≠b:=fun e=>by rw[e,C3.ca]at hD;cases hD
    refine⟨_,rfl,b,_,_,3,rfl,rfl,C4.ca,wN ZA,rfl,(s3.trans s4).dU OZ,D,ys,?_⟩;exact C4.put (c':={c with same:=sm,out:=ou,into:=it,least:=le,fs:=B9}) rfl rfl C4.nu Dq TR C4.XN nb
  rintro σ H4 ⟨rfl,s4,l',DP,C4⟩;have Ue:=ok.x;have Ug:=ok.y;obtain⟨c2,qm⟩:∃c2,c2=({c with same:=sm,out:=ou,into:=it,least:=le,fs:=B9}:Case):=⟨_,rfl⟩
  rw[←qm]at C4;have DV:d7 12 c2:=by rw[qm];exact⟨Ue,Ug,gd.1,⟨Y1.1,by show sm≤999999;lia⟩,by show 0≤ou∧ou≤999999;lia,by show 0≤it∧it≤999999;lia,by show 1≤le∧le≤999999;lia⟩
  have small:c2.same≤6∧c2.out≤3∧c2.into≤3∧c2.least≤12∧∀f∈c2.fs,0≤f.2.2∧f.2.2≤8:=by
   rw[qm];exact⟨by show sm≤6;lia,by show ou≤3;lia,by show it≤3;lia,by show le≤12;lia,fun f hf=>by have:=gd.2 f hf;lia⟩
  clear qm gd C3 nl Me;have Uk:d7 60 c2:=⟨Nat.le_trans DV.x UQ,Nat.le_trans DV.y UQ,DV.good,DV.same,DV.out,DV.into,DV.least⟩
  refine⟨fun σ H5=>∃b2 m2,σ=[sR a,sR b2,sR P,sI sm,none,none,none,none,none,none]∧ax H H5∧dX H5 b2 (bF c2) x1 x2 m2 l' DP,⟨_,rfl,b,c2,x1,x2,m',l',DP,rfl,C4,Uk,fun H5 b2 m2 s5 _ _ C5=>⟨b2,m2,rfl,s4.trans s5,C5⟩⟩,?_⟩;rintro σ H5 ⟨b2,m2,rfl,s5,C5⟩;have zN:=B2 DV UQ;have Mf:d7 50 (bF c2):=⟨Nat.le_trans zN.x UQ,Nat.le_trans zN.y UQ,zN.good,zN.same,zN.out,zN.into,zN.least⟩
  have many:manyN c2 c2.xs.length≤144:=Nat.le_trans (xn c2 c2.xs.length) (Nat.mul_le_mul DV.x DV.y);have he:(1:Int)≤bo c2∧(bo c2:Int)≤7:=by unfold bo;lia
  have Je:1≤cL c2∧cL c2≤6:=⟨zN.same.1,by have:=small.1;unfold cL;lia⟩
  have Y3:((bo c2:Int)-1)*cL c2+1≤(bF c2).least:=by show _≤max c2.least _;lia
  have Y4:(bF c2).least≤37:=by
   have h1:((bo c2:Int)-1)*cL c2≤6*6:=Int.mul_le_mul UQ (by lia) (by lia) (by lia);have:=small.2.2.2.1;show max c2.least _≤37
   lia
  refine⟨fun σ H6=>∃tm,(1≤tm∧tm≤27000)∧σ=[sR a,sR b2,sR P,sI sm,sI tm,none,none,none,none,none]∧H6=H5,⟨_,rfl,a,ns,12,rfl,s5.seq hS,ZD,_,_,rfl,rfl,(show(0:Int)<27000 by decide),_,_,rfl,rfl,1+cell ns 12%27000,by lia,rfl,rfl⟩,?_⟩;rintro σ H5 ⟨tm,Wb,rfl,rfl⟩;have Ul:d7 50 (DO tm (bF c2)):=by
   have m1:∀{x k:Int},0≤x→x≤k→x*tm≤k*27000:=fun{x k} h1 h2=>Int.mul_le_mul h2 Wb.2 UQ (by lia)
   have m0:∀{x:Int},0≤x→0≤x*tm:=fun h=>Int.mul_nonneg h UQ
   have m2:∀{x:Int},1≤x→1≤x*tm:=fun{x} h=>by
    have:=Int.mul_le_mul h Wb.1 UQ (by lia)
    lia
   refine⟨Mf.x,Mf.y,Ii UQ DV.good fun f hf=>?_,⟨m2 Je.1,?_⟩,⟨m0 zN.out.1,?_⟩,⟨m0 zN.into.1,?_⟩,⟨m2 zN.least.1,?_⟩⟩
   ·have:=small.2.2.2.2 f hf;have:=m1 this.1 this.2
    lia
   ·have:=m1 (x:=cL c2) (k:=6) (by lia) Je.2;show cL c2*tm≤999999
    lia
   ·have:=m1 (x:=c2.out) (k:=3) zN.out.1 small.2.1;show c2.out*tm≤999999
    lia
   ·have:=m1 (x:=c2.into) (k:=3) zN.into.1 small.2.2.1;show c2.into*tm≤999999
    lia
   ·have:=m1 (x:=(bF c2).least) (k:=37) (by have:=zN.least.1;lia) Y4;show(bF c2).least*tm≤999999
    lia
  have Um:Qv (DO tm (bF c2)):=Ie (c0:=c2) Ul rfl rfl (fun q=>by rw[JE,Option.isSome_map,vS]) (by
   show((bo c2:Int)-1)*(cL c2*tm)+1≤(bF c2).least*tm;have h1:=Int.mul_le_mul_of_nonneg_right Y3 (show 0≤tm by lia);rw[Int.add_mul,Int.mul_assoc]at h1
   lia)
  have nl:=zg DV.good;refine⟨fun σ H6=>∃N vn,σ=[sR a,sR b2,sR P,sI sm,sI tm,sR N,none,none,none,none]∧ax H5 H6∧H6 N=some (.lst vn)∧cT H6 vn (mP tm c2.fs),?_,?_⟩
  ·have j5:=C5.ca;refine⟨_,rfl,b2,_,3,_,rfl,rfl, .of j5,Zo (j:=3),l',rfl,⟨_, .of C5.ne⟩,fun D hD=>?_⟩;have ul:DP.length=c2.fs.length:=C5.tr.1;refine fA (xs:=DP) (fun i ys bq H6=>(∃u1 u2 u3,bq=[u1,u2,u3,sI tm])∧H6 D=some (.lst ys)∧ax H5 H6∧cT H6 ys (mP tm (c2.fs.take i))) ⟨⟨_,_,_,rfl⟩,ae,ax.upd hD, .nil⟩ ?_ ?_ ?_
   ·rintro i ys bq H6 _ ⟨_,_,s6,_⟩;exact .of (s6 _ _ C5.ne)
   ·rintro i v ys bq H6 hv ⟨⟨u1,u2,u3,rfl⟩,GG,s6,TR⟩;have hi:i<c2.fs.length:=by have:=(ZO hv).1;lia
    have ei:c2.fs[i]?=some c2.fs[i]:=by simp[hi]
    generalize c2.fs[i]=f at ei;obtain⟨tt,k1,k2⟩:=C5.tr.2 i f ei;rw[hv]at k1;cases k1;have tl:=TR.1;have Y2:(mP tm (c2.fs.take i)).length≤60:=by unfold mP;rw[List.length_map,List.length_take];lia
    refine⟨tt,_,rfl, .of (s6 _ _ k2),rfl,_,_,rfl,_,_,rfl,_,_,rfl,rfl,?_⟩;refine oM ?_;refine⟨_,rfl,_,rfl,_,rfl,_,rfl,_,_,rfl,rfl, .inr ⟨by lia,by lia⟩,aF ZA,fun p hp=>?_⟩;have sp:=ax.upd (o:= .tup (EH (f.1,f.2.1,f.2.2*tm))) hp;refine⟨sp _ _ GG,aZ UQ,⟨_,_,_,rfl⟩,ae,(s6.trans sp).dU hD,?_⟩;have e9:mP tm (c2.fs.take (i+1))=mP tm (c2.fs.take i)++[(f.1,f.2.1,f.2.2*tm)]:=by unfold mP;rw[List.take_succ,ei];simp
    rw[e9];have T2:=(TR.same sp).snoc (t:=p) (f:=(f.1,f.2.1,f.2.2*tm)) ae;exact T2.cz (cU.lst (sp _ _ GG))
   ·rintro ys bq H6 ⟨_,GG,s6,TR⟩;rw[ul,List.take_length]at TR;exact⟨D,ys,rfl,s6,GG,TR⟩
  rintro σ H6 ⟨N,vn,rfl,s6,hN,TN⟩;have C6:=C5.keep s6;refine⟨fun σ H7=>∃g D,σ=[sR a,sR b2,sR P,sI sm,sI tm,sR N,sR g,none,none,none]∧ax H6 H7∧dX H7 g (DO tm (bF c2)) x1 x2 D N vn,?_,?_⟩
  ·have j5:=C6.ca;refine⟨_,rfl,b2,_,0,_,rfl,rfl, .of j5,Zo (j:=0),_,rfl,b2,_,1,_,rfl,rfl, .of j5,Zo (j:=1),_,rfl,b2,_,2,_,rfl,rfl, .of j5,Zo (j:=2),m2,rfl,⟨_, .of C6.nu⟩,fun D hD=>?_⟩;obtain⟨is,K7⟩:∃is:List Int,is=[(bF c2).same,(bF c2).out,(bF c2).into,(bF c2).least]:=⟨_,rfl⟩
   have yk:H6 m2=some (.lst (is.map V.int)):=by rw[K7];exact C6.nu
   have Qb:is.length=4:=by rw[K7];rfl
   refine fA (xs:=is.map V.int) (fun i ys bq H7=>(∃u,bq=[u,sI tm])∧ys=((is.take i).map (·*tm)).map V.int∧H7 D=some (.lst ys)∧ax H6 H7) ⟨⟨_,rfl⟩,rfl,ae,ax.upd hD⟩ ?_ ?_ ?_
   ·rintro i ys bq H7 _ ⟨_,_,_,s7⟩;exact .of (s7 _ _ yk)
   ·rintro i v ys bq H7 hv ⟨⟨u,rfl⟩,rfl,Gh,s7⟩;rw[List.getElem?_map]at hv;obtain⟨z,hz,rfl⟩:=Option.map_eq_some_iff.mp hv;have hi:i<is.length:=(ZO hz).1;refine lK ?_;refine⟨_,rfl,_,rfl,_,_,rfl,rfl, .inr ⟨by lia,by lia⟩,Gh,aZ (by simp;lia),⟨_,rfl⟩,?_,ae,s7.dU hD⟩;rw[List.take_succ,hz];simp
   ·rintro ys bq H7 ⟨_,rfl,Gh,s7⟩;rw[List.length_map,List.take_length,K7]at Gh;refine⟨_,rfl,aF ZA,fun g hg=>?_⟩;have sg:=ax.upd (o:= .lst [.ref x1, .ref x2, .ref D, .ref N]) hg;have sA:=s7.trans sg;exact⟨g,D,rfl,sA,ae,sA _ _ C6.fi,sA _ _ C6.se,sg _ _ Gh,sA _ _ hN,TN.same sA⟩
  rintro σ H7 ⟨g,D,rfl,s7,CG⟩;have C7:=C6.keep s7;refine⟨fun σ H8=>∃(t:Addr)(vs:List V)(es:List Fd),σ=[sR a,sR b2,sR P,sI sm,sI tm,sR N,sR g,sR t,none,none]∧ax H7 H8∧H8 t=some (.lst vs)∧cb (fun _=>True) H8 ay vs es∧bQ (i8 (bF c2) []) (bF c2).out (bF c2).into (bF c2).least es,?_,?_⟩
  ·exact⟨_,rfl,b2,bF c2,x1,x2,m2,l',DP,12,rfl,C7,zN,by lia,F' zN,fun es TD H8 t vs s8 _ h8 FL=>⟨t,vs,es,rfl,s8,h8,FL,TD⟩⟩
  rintro σ H8 ⟨t,vs,es,rfl,s8,ht,FL,TD⟩;refine⟨fun σ H9=>∃(r:Addr)(ws:List V)(yn:List Fd),σ=[sR a,sR b2,sR P,sI sm,sI tm,sR N,sR g,sR t,sR r,none]∧ax H8 H9∧H9 r=some (.lst ws)∧cb (fun _=>True) H9 ay ws yn∧bQ (i8 (DO tm (bF c2)) []) (DO tm (bF c2)).out (DO tm (bF c2)).into (DO tm (bF c2)).least yn,?_,?_⟩
  ·exact⟨_,rfl,g,DO tm (bF c2),x1,x2,D,N,vn,50,rfl,CG.keep s8,Ul,by lia,Um,fun es TD H8 t vs s8 _ h8 FL=>⟨t,vs,es,rfl,s8,h8,FL,TD⟩⟩
  rintro σ H9 ⟨r,ws,yn,rfl,s9,Uo,FR,TR⟩;have Up:=s9 _ _ ht;have Wc:=FL.keep (P':=fun _=>True) (fun b o _ e=>s9 b o e) (cU.same s9) fun _ h=>h
  refine⟨fun σ Hh=>σ=[sR a,sR b2,sR P,sI sm,sI tm,sR N,sR g,sR t,sR r,none]∧Hh=H9,?_,?_⟩
  ·refine⟨_,rfl,_,_,_,true,_,rfl,rfl, .lst Up,rfl,_,rfl,?_⟩;refine f_ ?_;refine⟨_,rfl,_,_,_,true,_,rfl,rfl, .lst Uo,rfl,_,rfl,?_⟩;refine f_ ?_;exact⟨rfl,rfl⟩
  rintro σ H9 ⟨rfl,rfl⟩;have Wd:=s8.trans s9;refine⟨fun σ Hh=>σ=[sR a,sR b2,sR P,sI sm,sI tm,sR N,sR g,sR t,sR r,none]∧ax H9 Hh,?_,?_⟩
  ·refine⟨_,rfl,_,rfl,b2,t,bF c2,x1,x2,m2,l',DP,vs,es,rfl,C7.keep Wd,Mf,Up,Wc,TD,fun Hh Bo=>⟨_,rfl,?_⟩⟩;refine f_ ?_;refine⟨_,rfl,_,rfl,g,r,DO tm (bF c2),x1,x2,D,N,vn,ws,yn,rfl,CG.keep (Wd.trans Bo),Ul,Bo _ _ Uo,FR.keep (fun b o _ e=>Bo b o e) (cU.same Bo) (fun _ h=>h),TR,fun Cy Bp=>⟨_,rfl,?_⟩⟩;refine f_ ?_;exact⟨rfl,Bo.trans Bp⟩
  rintro σ Hh ⟨rfl,Bo⟩;have Pq:=Bo _ _ Up;have Uq:=Bo _ _ Uo;have Ur:=Wc.keep (P':=fun _=>True) (fun b o _ e=>Bo b o e) (cU.same Bo) fun _ h=>h
  have Us:=FR.keep (P':=fun _=>True) (fun b o _ e=>Bo b o e) (cU.same Bo) fun _ h=>h
  have Po:=FL.1;have aaG:=TD.vB;refine⟨fun σ Cy=>∃U ys,σ=[sR a,sR b2,sR P,sI sm,sI tm,sR N,sR g,sR t,sR r,sR U]∧ax Hh Cy∧Cy U=some (.lst ys)∧LZ Cy ys ((es.map (Gz tm)).map kK),?_,?_⟩
  ·refine⟨_,rfl,t,rfl,⟨_, .of Pq⟩,fun U hU=>?_⟩;refine fA (xs:=vs) (fun i ys bq Cy=>(∃u,bq=[u,sI tm])∧Cy U=some (.lst ys)∧ax Hh Cy∧lU Cy U ys (((es.take i).map (Gz tm)).map kK)) ⟨⟨_,rfl⟩,ae,ax.upd hU, .nil⟩ ?_ ?_ ?_
   ·rintro i ys bq Cy _ ⟨_,_,Bp,_⟩;exact .of (Bp _ _ Pq)
   ·rintro i v ys bq Cy hv ⟨⟨u,rfl⟩,Gk,Bp,DN⟩;have hi:i<es.length:=by rw[←Po];exact(ZO hv).1
    have ei:es[i]?=some es[i]:=by simp[hi]
    generalize es[i]=d at ei;obtain⟨y,dy,wy,iE,pr,lz,iy,e1,F7⟩:=Ur.2 i d ei;rw[hv]at e1;cases e1;have F:=F7.keep (P':=fun _=>True) (fun b o _ e=>Bp b o e) (cU.same Bp) fun _ h=>h
    have et:es.take (i+1)=es.take i++[d]:=by rw[List.take_succ,ei];rfl
    have dl:=DN.1;rw[List.length_map,List.length_map,List.length_take]at dl;refine lK ?_;refine⟨_,rfl,y,ay,dy,_,_,rfl,F.ob,Fc.cl,Fc.worth,ja d.worth wy iE pr,_,rfl,_,_,rfl,rfl, .inr ⟨by lia,by lia⟩,_,rfl,y,ay,dy,_,_,rfl,F.ob,Fc.cl,Fc.pairs,ip d.worth wy iE pr,pr,_,rfl, .inl (.of F.hp),fun z hz=>⟨aF ZA,fun p hp=>?_⟩⟩;have sz:=ax.upd (o:= .lst iy) hz;have sp:=ax.upd (o:= .tup [.int (d.worth*tm), .ref z]) hp;have nz:z≠U:=fun e=>by rw[e,Gk]at hz;cases hz
    have sA:=sz.trans sp;refine⟨sA _ _ Gk,aZ UQ,⟨_,rfl⟩,ae,(Bp.trans sA).dU hU,?_⟩;rw[et,List.map_append,List.map_append];have D2:=(DN.keep (fun b o _ e=>sA b o e) (cU.same sA)).snoc (x:=kK (Gz tm d)) (t:=p) (l:=z) (us:=iy) ae (sp _ _ ae) (F.pp.same sA) nz;exact D2.keep (fun b o hb e=>by rw[aj hb];exact e) (cU.lst (sA _ _ Gk))
   ·rintro ys bq Cy ⟨_,Gk,Bp,DN⟩;rw[Po,List.take_length]at DN;exact⟨U,ys,rfl,Bp,Gk,DN.SQ⟩
  rintro σ Cy ⟨U,ys,rfl,Bp,hU,DU⟩;have ZG:=TR.vB;rw[L1]at TR;rw[←TD.times (t:=tm) (by lia) TR]at DU;exact⟨_,rfl,_,rfl,r,U,ws,ys,yn,_,rfl,Bp _ _ Uq,Us.keep (P':=fun _=>True) (fun b o _ e=>Bp b o e) (cU.same Bp) (fun _ h=>h),hU,DU,by lia,q _⟩
end
theorem all_mk{l:W.OpenLaw}{w:World}{K:W.Frag}{h:Heap}{mg:Str→Option Value}{fa:Addr}(X:K.In h)(G:h.Ns mainGlobals mg)(Y5:mg "law"=some (.ref fa))
  {pA jJ:Option Addr} {pB:Array (Option Value)} {pC jK jL jM gH jN:Value}
  {gI:Addr} {pD:Value} {pE:Option Addr} {pF:Nat} {pG:Array (Option Value)} {pH:Tok}
  {aU:Addr} (xB:OW K "Terms" aU)
  {aA:Addr} (ud:OW K "Trails" aA)
  {ay:Addr} (qM:OW K "Finding" ay)
  {aI:Addr} (ue:OW K "Groups" aI)
  {az:Addr} (l6:OW K "Gathering" az)
  {jO:Addr} (pI:W.nsIn K mainGlobals "is_small_letter"=some (some (.ref jO)))
  (pJ:fQ K "is_small_letter" "is_small_letter" gm jO)
  {vX:Addr} (Dr:W.nsIn K mainGlobals "is_word"=some (some (.ref vX)))
  (Ds:fQ K "is_word" "is_word" mH vX)
  {pK:Addr} (xC:W.nsIn K mainGlobals "is_between"=some (some (.ref pK)))
  (xD:fQ K "is_between" "is_between" kL pK)
  {l7:Addr} (uf:W.nsIn K mainGlobals "check_number"=some (some (.ref l7)))
  (ug:fQ K "check_number" "check_number" jc l7)
  {jP:Addr} (pL:W.nsIn K mainGlobals "check_near_form"=some (some (.ref jP)))
  (pM:fQ K "check_near_form" "check_near_form" gq jP)
  {ni:Addr} (uW:W.nsIn K mainGlobals "near_prices"=some (some (.ref ni)))
  (uX:fQ K "near_prices" "near_prices" g8 ni)
  {fH:Addr} (qN:W.findIn K (.ref aU) "__init__"=some (some (.ref fH))) (qO:W.isFn K (.ref fH)=true)
  (qQ:K.lookup fH=some ⟨pC,pA, .func (W.fnOf "__init__" "Terms.__init__" (fN bB) (eM bB) (ar bB) (.ref gI) jK jL jM jJ gH jN),pB⟩)
  (qR:W.codeIn K gH "Terms.__init__"=true) (qS:W.keepIn K (.ref fH)=true)
  (pN:K.lookup gI=some ⟨pD,pE, .seq #[.int 50 pH, .none] pF,pG⟩)
  {fX:Addr} (nZ:W.findIn K (.ref aU) "pair_worth"=some (some (.ref fX))) (n5:W.isFn K (.ref fX)=true)
  (n6:fQ K "pair_worth" "Terms.pair_worth" d8 fX)
  {uh:Addr} (AX:W.nsIn K mainGlobals "greatest"=some (some (.ref uh)))
  (AY:fQ K "greatest" "greatest" kM uh)
  {Gm:Addr} (Mg:W.nsIn K mainGlobals "less"=some (some (.ref Gm)))
  (Mh:fQ K "less" "less" AM Gm)
  {ji:Addr} (n8:W.nsIn K mainGlobals "begun_or_gone_on"=some (some (.ref ji)))
  (n9:fQ K "begun_or_gone_on" "begun_or_gone_on" fU ji)
  {dR:Addr} (ko:W.findIn K (.ref aA) "brought_behind"=some (some (.ref dR))) (kq:W.isFn K (.ref dR)=true)
  (kr:fQ K "brought_behind" "Trails.brought_behind" dP dR)
  {gJ:Addr} (pO:W.findIn K (.ref aA) "__init__"=some (some (.ref gJ))) (pQ:W.isFn K (.ref gJ)=true)
  (pR:fQ K "__init__" "Trails.__init__" eO gJ)
  {gW:Addr} (qT:W.findIn K (.ref aA) "goes_on"=some (some (.ref gW))) (qU:W.isFn K (.ref gW)=true)
  (qV:fQ K "goes_on" "Trails.goes_on" gU gW)
  {eD:Addr} (kY:W.findIn K (.ref aA) "is_brought_by"=some (some (.ref eD))) (kZ:W.isFn K (.ref eD)=true)
  (k8:fQ K "is_brought_by" "Trails.is_brought_by" d_ eD)
  {cW:Addr} (jm:W.findIn K (.ref aA) "crossings_before"=some (some (.ref cW))) (jn:W.isFn K (.ref cW)=true)
  (jo:fQ K "crossings_before" "Trails.crossings_before" cV cW)
  {fo:Addr} (l8:W.findIn K (.ref aA) "pair_before"=some (some (.ref fo))) (l_:W.isFn K (.ref fo)=true)
  (ma:fQ K "pair_before" "Trails.pair_before" e_ fo)
  {iC:Addr} (r_:W.findIn K (.ref aA) "way_to"=some (some (.ref iC))) (sf:W.isFn K (.ref iC)=true)
  (si:fQ K "way_to" "Trails.way_to" iB iC)
  {fY:Addr} (n_:W.findIn K (.ref ay) "__init__"=some (some (.ref fY))) (oa:W.isFn K (.ref fY)=true)
  (oe:fQ K "__init__" "Finding.__init__" fV fY)
  {ui:Addr} (AZ:W.nsIn K mainGlobals "order_of"=some (some (.ref ui)))
  (A0:fQ K "order_of" "order_of" nM ui)
  {me:Addr} (uj:W.nsIn K mainGlobals "make_finding"=some (some (.ref me)))
  (uk:fQ K "make_finding" "make_finding" fe me)
  {gK:Addr} (pS:W.findIn K (.ref aI) "__init__"=some (some (.ref gK))) (pT:W.isFn K (.ref gK)=true)
  (pU:fQ K "__init__" "Groups.__init__" gu gK)
  {k_:Addr} (xE:W.findIn K (.ref aI) "has"=some (some (.ref k_))) (xF:W.isFn K (.ref k_)=true)
  (xG:fQ K "has" "Groups.has" iK k_)
  {gX:Addr} (qW:W.findIn K (.ref aI) "take_in"=some (some (.ref gX))) (qX:W.isFn K (.ref gX)=true)
  (qY:fQ K "take_in" "Groups.take_in" fD gX)
  {jj:Addr} (um:W.findIn K (.ref aI) "unite"=some (some (.ref jj))) (uo:W.isFn K (.ref jj)=true)
  (uq:fQ K "unite" "Groups.unite" ff jj)
  {j6:Addr} (uY:W.findIn K (.ref aI) "told"=some (some (.ref j6))) (uZ:W.isFn K (.ref j6)=true)
  (u0:fQ K "told" "Groups.told" g9 j6)
  {fq:Addr} (mf:W.findIn K (.ref az) "__init__"=some (some (.ref fq))) (mh:W.isFn K (.ref fq)=true)
  (mi:fQ K "__init__" "Gathering.__init__" fg fq)
  {gY:Addr} (qZ:W.findIn K (.ref az) "mark"=some (some (.ref gY))) (q_:W.isFn K (.ref gY)=true)
  (rf:fQ K "mark" "Gathering.mark" fE gY)
  {fI:Addr} (mV:W.findIn K (.ref az) "go_over"=some (some (.ref fI))) (mW:W.isFn K (.ref fI)=true)
  (mY:fQ K "go_over" "Gathering.go_over" dJ fI)
  {gL:Addr} (pV:W.findIn K (.ref az) "visit"=some (some (.ref gL))) (pW:W.isFn K (.ref gL)=true)
  (pX:fQ K "visit" "Gathering.visit" eP gL)
  {nj:Addr} (u7:W.nsIn K mainGlobals "best_groups"=some (some (.ref nj)))
  (u9:fQ K "best_groups" "best_groups" jY nj)
  {vY:Addr} (Dt:W.nsIn K mainGlobals "shut_by"=some (some (.ref vY)))
  (Du:fQ K "shut_by" "shut_by" mI vY)
  {nk:Addr} (u_:W.nsIn K mainGlobals "open_worths"=some (some (.ref nk)))
  (va:fQ K "open_worths" "open_worths" fK nk)
  {pY:Addr} (xH:W.nsIn K mainGlobals "make_round"=some (some (.ref pY)))
  (xI:fQ K "make_round" "make_round" gv pY)
  {pZ:Addr} (xJ:W.nsIn K mainGlobals "shut_pairs"=some (some (.ref pZ)))
  (xK:fQ K "shut_pairs" "shut_pairs" kN pZ)
  {vZ:Addr} (Dv:W.nsIn K mainGlobals "compare"=some (some (.ref vZ)))
  (Dx:fQ K "compare" "compare" qJ vZ)
  {v5:Addr} (Dy:W.nsIn K mainGlobals "_law_at"=some (some (.ref v5)))
  (Dz:fQ K "_law_at" "_law_at" qK v5)
  {p4:Addr} (xM:W.nsIn K mainGlobals "_law_whole"=some (some (.ref p4)))
  (xN:fQ K "_law_whole" "_law_whole" kO p4)
  {rF:Addr} (zl:W.nsIn K mainGlobals "_law_bank"=some (some (.ref rF)))
  (zm:fQ K "_law_bank" "_law_bank" lV rF)
  {rG:Addr} (zo:W.nsIn K mainGlobals "_law_book"=some (some (.ref rG)))
  (zp:fQ K "_law_book" "_law_book" lW rG)
  {p5:Addr} (xO:W.nsIn K mainGlobals "_law_quote"=some (some (.ref p5)))
  (xP:fQ K "_law_quote" "_law_quote" iL p5)
  {mj:Addr} (ur:W.nsIn K mainGlobals "_law_numbers"=some (some (.ref mj)))
  (uv:fQ K "_law_numbers" "_law_numbers" gw mj)
  {rH:Addr} (zq:W.nsIn K mainGlobals "_law_near"=some (some (.ref rH)))
  (zr:fQ K "_law_near" "_law_near" lX rH)
  {rJ:Addr} (zt:W.nsIn K mainGlobals "_law_case"=some (some (.ref rJ)))
  (zu:fQ K "_law_case" "_law_case" lY rJ)
  {rK:Addr} (zv:W.nsIn K mainGlobals "_law_pair"=some (some (.ref rK)))
  (zw:fQ K "_law_pair" "_law_pair" lZ rK)
  {p6:Addr} (xQ:W.nsIn K mainGlobals "_law_worth"=some (some (.ref p6)))
  (xR:fQ K "_law_worth" "_law_worth" kP p6)
  {p7:Addr} (xS:W.nsIn K mainGlobals "_law_pairs"=some (some (.ref p7)))
  (xT:fQ K "_law_pairs" "_law_pairs" kQ p7)
  {p8:Addr} (xU:W.nsIn K mainGlobals "_law_terms"=some (some (.ref p8)))
  (xV:fQ K "_law_terms" "_law_terms" kR p8)
  {rL:Addr} (zx:W.nsIn K mainGlobals "_law_calm"=some (some (.ref rL)))
  (zy:fQ K "_law_calm" "_law_calm" l0 rL)
  {mn:Addr} (uw:W.nsIn K mainGlobals "_law_finding"=some (some (.ref mn)))
  (ux:fQ K "_law_finding" "_law_finding" gy mn)
  {nq:Addr} (vc:W.nsIn K mainGlobals "_law_is_way"=some (some (.ref nq)))
  (ve:fQ K "_law_is_way" "_law_is_way" g_ nq)
  {p9:Addr} (xW:W.nsIn K mainGlobals "_law_spots"=some (some (.ref p9)))
  (xX:fQ K "_law_spots" "_law_spots" iM p9)
  {nr:Addr} (vf:W.nsIn K mainGlobals "_law_anchor"=some (some (.ref nr)))
  (vh:fQ K "_law_anchor" "_law_anchor" hG nr)
  {p_:Addr} (xY:W.nsIn K mainGlobals "_law_asked"=some (some (.ref p_)))
  (xZ:fQ K "_law_asked" "_law_asked" kT p_)
  {ku:Addr} (rg:W.nsIn K mainGlobals "_law_same_list"=some (some (.ref ku)))
  (rh:fQ K "_law_same_list" "_law_same_list" fF ku)
  {JP:Addr} (Pt:W.nsIn K mainGlobals "law"=some (some (.ref JP)))
  (Pu:fQ K "law" "law" lg JP)
  (Tc:EJ K aU)
  (Rc:BC K aA)
  (Fc:Jy K ay)
  (Gc:OG K aI)
  (Hc:JC K az)
  (zz:TZ K)
  {zA:Tok} (zB:W.nsIn K mainGlobals "WORD_MOST"=some (some (.int 12 zA)))
  {x_:Tok} (ya:W.nsIn K mainGlobals "WORTH_MOST"=some (some (.int 999999 x_)))
  {zC:Tok} (zD:W.nsIn K mainGlobals "NEAR_MOST"=some (some (.int 60 zC)))
  {zE:Tok} (zF:W.nsIn K mainGlobals "PART_MOST"=some (some (.int 100 zE)))
  {sj:Tok} (sk:W.nsIn K mainGlobals "FINDINGS_MOST"=some (some (.int 20 sj)))
  {ed:Addr} (A3:OU K "BadTerms" ed)
  {cX:Addr} (DA:OU K "BadNear" cX)
  {kf:Addr} (DB:OU K "TooMany" kf)
  (A4:W.nsIn K mainGlobals "reversed"=some none)
  (Gp:W.nsIn K mainGlobals "sorted"=some none)
  :∃fd:FuncData,(∀(s:Shared)(v:Value),BindsTo s fd ⟨[v],[]⟩ [("_law_script",v)])∧∀base:Heap,K.In base→base.Ns mainGlobals mg→a8 l.prog w K mg base (c7 l.prog w) true 10 fa fd ["_law_script"] (Bu K):=by
 have e:=Y5.symm.trans (W.mg_of X G Pt);cases e;have T:=zz.tb X G;have jA:D_ mg "WORD_MOST" (.int 12):=⟨_,W.mg_of X G zB,_,rfl⟩
 have bR:D_ mg "WORTH_MOST" (.int 999999):=⟨_,W.mg_of X G ya,_,rfl⟩
 have iu:D_ mg "NEAR_MOST" (.int 60):=⟨_,W.mg_of X G zD,_,rfl⟩
 have jB:D_ mg "PART_MOST" (.int 100):=⟨_,W.mg_of X G zF,_,rfl⟩
 have eE:D_ mg "FINDINGS_MOST" (.int 20):=⟨_,W.mg_of X G sk,_,rfl⟩
 have jd:=A3.er X G;have cc:=DA.er X G;have kn:=DB.er X G;have Mi:mg "reversed"=none:=W.mg_none_of X G A4;have jf:mg "sorted"=none:=W.mg_none_of X G Gp;obtain @⟨_,k1,k2,k3,k4,k5,_,k6,_,l9,c9,k9⟩:=Pu;refine⟨W.fnOf "law" "law" (fN lg) (eM lg) (ar lg) .none k1 k2 k3 k6 k4 k5,fun s v=> .of_eq rfl,fun base _ _=>?_⟩;have eQ:=pJ.df X G pI (fun _ F=>nP (P:=l.prog) (w:=w) (base:=base) T F) (B4 fun _ _ _ _ _ _ _=>rfl);have kg:=Ds.df X G Dr (fun _ F=>AO (P:=l.prog) (w:=w) (base:=base) T jA eQ F) (B4 fun _ _ _ _ _ _ _=>rfl);have eh:=xD.df X G xC (fun _ F=>uI (P:=l.prog) (w:=w) (base:=base) T F) (AK fun _ _ _ _ _ _ _ _ _=>rfl);have cC:=ug.df X G uf (fun _ F=>rV (P:=l.prog) (w:=w) (base:=base) T eh jd F) (SN fun _ _ _ _ _ _ _ _ _ _=>rfl);have eR:=pM.df X G pL (fun _ F=>nS (P:=l.prog) (w:=w) (base:=base) T eh bR kg cc F) (AK fun _ _ _ _ _ _ _ _ _=>rfl);have hJ:=uX.df X G uW (fun _ F=>t5 (P:=l.prog) (w:=w) (base:=base) T cc iu eR F) (B4 fun _ _ _ _ _ _ _=>rfl);have rj:=Br (st:=bB) qQ qR qS;have rk:=o8 (P:=l.prog) (w:=w) (base:=base) T bR jB cC hJ Tc rj;have A5:Binds K (W.fnOf "__init__" "Terms.__init__" (fN bB) (eM bB) (ar bB) (.ref gI) jK jL jM jJ gH jN) ["self","same","out","into","least","part","near"] []:=fun s us hK hl=>by
  obtain⟨_,_,_,_,_,_,_,rfl⟩:=QF.RY us (by simpa using hl);exact BindsTo.of_defaults rfl (hK _ _ pN) rfl rfl rfl
 have px:m4 l.prog w K mg base true 5 "Terms" aU ["self","same","out","into","least","part","near"] [] (su aU ed cX):=yG rk ⟨xB.b,qN,qO,xB.c⟩ (W.mg_of X G xB.a) A5 (.nil);have eC:=n6.mt Tc.cl nZ n5 (fun _ F=>mQ (P:=l.prog) (w:=w) (base:=base) T Tc F) (AK fun _ _ _ _ _ _ _ _ _=>rfl);have fj:=AY.df X G AX (fun _ F=>zi (P:=l.prog) (w:=w) (base:=base) T F) (B4 fun _ _ _ _ _ _ _=>rfl);have kU:=Mh.df X G Mg (fun _ F=>Il (P:=l.prog) (w:=w) (base:=base) T F) (xp fun _ _ _ _ _ _ _ _=>rfl);have eA:=n9.df X G n8 (fun _ F=>mS (P:=l.prog) (w:=w) (base:=base) T F) (xp fun _ _ _ _ _ _ _ _=>rfl);have cF:=kr.mt Rc.cl ko kq (fun _ F=>j1 (P:=l.prog) (w:=w) (base:=base) T fj kU Rc F) (AK fun _ _ _ _ _ _ _ _ _=>rfl);have mL:=pR.nw (W.mg_of X G ud.a) ud.b ud.c pO pQ (fun _ F=>nU (P:=l.prog) (w:=w) (base:=base) T Tc Rc eA cF F) (AK fun _ _ _ _ _ _ _ _ _=>rfl);have cf:=qV.mt Rc.cl qT qU (fun _ F=>o_ (P:=l.prog) (w:=w) (base:=base) T Rc F) (xp fun _ _ _ _ _ _ _ _=>rfl);have bj:=k8.mt Rc.cl kY kZ (fun _ F=>ki (P:=l.prog) (w:=w) (base:=base) T Rc F) (AK fun _ _ _ _ _ _ _ _ _=>rfl);have aY:=jo.mt Rc.cl jm jn (fun _ F=>je (P:=l.prog) (w:=w) (base:=base) T kU Rc F) (xp fun _ _ _ _ _ _ _ _=>rfl);have dA:=ma.mt Rc.cl l8 l_ (fun _ F=>lB (P:=l.prog) (w:=w) (base:=base) T Rc bj aY F) (xp fun _ _ _ _ _ _ _ _=>rfl);have fR:=si.mt Rc.cl r_ sf (fun _ F=>qL (P:=l.prog) (w:=w) (base:=base) T Rc cf dA F) (xp fun _ _ _ _ _ _ _ _=>rfl);have kW:=oe.nw (W.mg_of X G qM.a) qM.b qM.c n_ oa (fun _ F=>mU (P:=l.prog) (w:=w) (base:=base) T Fc F) (Ve fun _ _ _ _ _ _ _ _ _ _ _=>rfl);have kX:=A0.df X G AZ (fun _ F=>zk (P:=l.prog) (w:=w) (base:=base) T Fc F) (B4 fun _ _ _ _ _ _ _=>rfl);have gA:=uk.df X G uj (fun _ F=>rY (P:=l.prog) (w:=w) (base:=base) T Rc fR kW F) (AK fun _ _ _ _ _ _ _ _ _=>rfl);have mJ:=pU.nw (W.mg_of X G ue.a) ue.b ue.c pS pT (fun _ F=>nW (P:=l.prog) (w:=w) (base:=base) T Gc F) (B4 fun _ _ _ _ _ _ _=>rfl);have iO:=xG.mt Gc.cl xE xF (fun _ F=>uK (P:=l.prog) (w:=w) (base:=base) T Gc F) (xp fun _ _ _ _ _ _ _ _=>rfl);have cj:=qY.mt Gc.cl qW qX (fun _ F=>pe (P:=l.prog) (w:=w) (base:=base) T Gc F) (xp fun _ _ _ _ _ _ _ _=>rfl);have cQ:=uq.mt Gc.cl um uo (fun _ F=>rZ (P:=l.prog) (w:=w) (base:=base) T Gc F) (AK fun _ _ _ _ _ _ _ _ _=>rfl);have hV:=u0.mt Gc.cl uY uZ (fun _ F=>t8 (P:=l.prog) (w:=w) (base:=base) T Gc jf F) (B4 fun _ _ _ _ _ _ _=>rfl);have iP:=mi.nw (W.mg_of X G l6.a) l6.b l6.c mf mh (fun _ F=>lD (P:=l.prog) (w:=w) (base:=base) T mJ Hc F) (AK fun _ _ _ _ _ _ _ _ _=>rfl);have ck:=rf.mt Hc.cl qZ q_ (fun _ F=>pj (P:=l.prog) (w:=w) (base:=base) T Hc cQ F) (AK fun _ _ _ _ _ _ _ _ _=>rfl);have dM:=mY.mt Hc.cl mV mW (fun _ F=>l5 (P:=l.prog) (w:=w) (base:=base) T bj aY Hc cQ cj ck F) (AK fun _ _ _ _ _ _ _ _ _=>rfl);have eU:=pX.mt Hc.cl pV pW (fun _ F=>nX (P:=l.prog) (w:=w) (base:=base) T Rc cf Hc cj ck iO dM F) (AK fun _ _ _ _ _ _ _ _ _=>rfl);have hZ:=u9.df X G u7 (fun _ F=>t9 (P:=l.prog) (w:=w) (base:=base) T Rc Hc iP eU hV F) (xp fun _ _ _ _ _ _ _ _=>rfl);have mK:=Du.df X G Dt (fun _ F=>AS (P:=l.prog) (w:=w) (base:=base) T F) (B4 fun _ _ _ _ _ _ _=>rfl);have ic:=va.df X G u_ (fun _ F=>t_ (P:=l.prog) (w:=w) (base:=base) T Tc mK eC F) (SN fun _ _ _ _ _ _ _ _ _ _=>rfl);have gB:=xI.df X G xH (fun _ F=>uL (P:=l.prog) (w:=w) (base:=base) T Tc fj Rc mL hZ gA F) (xp fun _ _ _ _ _ _ _ _=>rfl);have iQ:=xK.df X G xJ (fun _ F=>uM (P:=l.prog) (w:=w) (base:=base) T Fc F) (xp fun _ _ _ _ _ _ _ _=>rfl);have mM:=Dx.df X G Dv (fun _ F=>AU (P:=l.prog) (w:=w) (base:=base) T jf eE ic gB iQ kX kn F) (AK fun _ _ _ _ _ _ _ _ _=>rfl);have a7:=Dz.df X G Dy (fun _ F=>AW (P:=l.prog) (w:=w) (base:=base) T F) (xp fun _ _ _ _ _ _ _ _=>rfl);have bI:=xN.df X G xM (fun _ F=>uO (P:=l.prog) (w:=w) (base:=base) T F) (B4 fun _ _ _ _ _ _ _=>rfl);have jD:=zm.df X G zl (fun _ F=>xu (P:=l.prog) (w:=w) (base:=base) T F) (AK fun _ _ _ _ _ _ _ _ _=>rfl);have jE:=zp.df X G zo (fun _ F=>xv (P:=l.prog) (w:=w) (base:=base) T a7 F) (Ve fun _ _ _ _ _ _ _ _ _ _ _=>rfl);have iR:=xP.df X G xO (fun _ F=>uP (P:=l.prog) (w:=w) (base:=base) T a7 F) (XB fun _ _ _ _ _ _ _ _ _ _ _ _=>rfl);have gD:=uv.df X G ur (fun _ F=>r6 (P:=l.prog) (w:=w) (base:=base) T a7 F) (xp fun _ _ _ _ _ _ _ _=>rfl);have jF:=zr.df X G zq (fun _ F=>xw (P:=l.prog) (w:=w) (base:=base) T F) (AK fun _ _ _ _ _ _ _ _ _=>rfl);have jH:=zu.df X G zt (fun _ F=>xx (P:=l.prog) (w:=w) (base:=base) T a7 jD jE iR gD jF F) (xp fun _ _ _ _ _ _ _ _=>rfl);have bL:=zw.df X G zv (fun _ F=>xy (P:=l.prog) (w:=w) (base:=base) T F) (SN fun _ _ _ _ _ _ _ _ _ _=>rfl);have iT:=xR.df X G xQ (fun _ F=>uQ (P:=l.prog) (w:=w) (base:=base) T bL F) (xp fun _ _ _ _ _ _ _ _=>rfl);have dE:=xT.df X G xS (fun _ F=>uR (P:=l.prog) (w:=w) (base:=base) T bI F) (B4 fun _ _ _ _ _ _ _=>rfl);have iV:=xV.df X G xU (fun _ F=>uS (P:=l.prog) (w:=w) (base:=base) T px F) (B4 fun _ _ _ _ _ _ _=>rfl);have jI:=zy.df X G zx (fun _ F=>xA (P:=l.prog) (w:=w) (base:=base) T bL F) (B4 fun _ _ _ _ _ _ _=>rfl);have gF:=ux.df X G uw (fun _ F=>r9 (P:=l.prog) (w:=w) (base:=base) T Fc bI dE F) (B4 fun _ _ _ _ _ _ _=>rfl);have ie:=ve.df X G vc (fun _ F=>ub (P:=l.prog) (w:=w) (base:=base) T bL F) (xp fun _ _ _ _ _ _ _ _=>rfl);have iU:=xX.df X G xW (fun _ F=>uT (P:=l.prog) (w:=w) (base:=base) T bL F) (xp fun _ _ _ _ _ _ _ _=>rfl);have fM:=vh.df X G vf (fun _ F=>uc (P:=l.prog) (w:=w) (base:=base) T Fc gF ie iT iU F) (xp fun _ _ _ _ _ _ _ _=>rfl);have gG:=xZ.df X G xY (fun _ F=>uV (P:=l.prog) (w:=w) (base:=base) T mM iV F) (B4 fun _ _ _ _ _ _ _=>rfl);have fG:=rh.df X G rg (fun _ F=>pz (P:=l.prog) (w:=w) (base:=base) T Fc bI dE F) (xp fun _ _ _ _ _ _ _ _=>rfl);exact Md T Fc a7 jH jI gG fM fG (Ew (st:=lg) l9 c9 k9)
theorem walk{l:W.OpenLaw}{q:Program}{loose:List Str}{XP:(Str→Option Value)→Heap→Prop}{YP:World→Heap→Prop}{d:DefRec}{K:Params→W.Frag}(hn:l.most=some 63)(NU:d.params.defaults=[])
  (hY:∀(w:World)(h:Heap),YP w h→(K w.params).In h)
  (F:∀(w:World)(mg:Str→Option Value)(fa:Addr)(h:Heap),(K w.params).In h→h.Ns mainGlobals mg→mg d.name=some (.ref fa)→
   ∃fd:FuncData,(∀(s:Shared)(u:Value),BindsTo s fd ⟨[u],[]⟩ [("_law_script",u)])∧∀base:Heap,(K w.params).In base→base.Ns mainGlobals mg→a8 l.prog w (K w.params) mg base (c7 l.prog w) true 10 fa fd ["_law_script"] (Bu (K w.params))):
  W.WalkO q loose XP YP l.row.toRowW d [] (fun f vs=>PySem.call f vs):=
 L2.Hd (n:=63) (k:=10) (x:="_law_script") (CX:=fun w=>c7 l.prog w) (sp:=fun w=>Bu (K w.params)) hn (ZD) NU ⟨(fun _=>rfl),ZD,ZD⟩ hY F (fun _ _ a ns hl _ hS=>⟨a,ns,rfl,hS,hl,fun _=>rfl⟩) fun _ _ _ _ _ z=>by obtain⟨_,_,_,_,_,_,_,_,_,_,_,_,_,z⟩:=z;exact z
end SR
open PySem PySem.W PyProof.Rows
set_option maxRecDepth 100000 in
set_option maxHeartbeats 0 in
theorem PySem.Challenge.cw_quotefind_k26_many_times_holds : PySem.Challenge.rw_quotefind_k26_many_times.Holds := by
 w_on;refine holds_law HD.ws fun said=>?_;k_head
 (case hw=>w_witness2)
 refine SR.walk (l:=PySem.Challenge.rw_quotefind_k26_many_times) rfl rfl (fun w h Y=>PySem.W.kIn_of Y) ?F
 case F=>
  intro w mg fa h KX G NV
  refine' SR.all_mk KX G NV ?_ ?_ ?_ ?_ ?_ ?_ ?_ ?_ ?_ ?_ ?_ ?_ ?_ ?_ ?_ ?_ ?_ ?_ ?_ ?_ ?_ ?_ ?_ ?_ ?_ ?_ ?_ ?_ ?_ ?_ ?_ ?_ ?_ ?_ ?_ ?_ ?_ ?_ ?_ ?_ ?_ ?_ ?_ ?_ ?_ ?_ ?_ ?_ ?_ ?_ ?_ ?_ ?_ ?_ ?_ ?_ ?_ ?_ ?_ ?_ ?_ ?_ ?_ ?_ ?_ ?_ ?_ ?_ ?_ ?_ ?_ ?_ ?_ ?_ ?_ ?_ ?_ ?_ ?_ ?_ ?_ ?_ ?_ ?_ ?_ ?_ ?_ ?_ ?_ ?_ ?_ ?_ ?_ ?_ ?_ ?_ ?_ ?_ ?_ ?_ ?_ ?_ ?_ ?_ ?_ ?_ ?_ ?_ ?_ ?_ ?_ ?_ ?_ ?_ ?_ ?_ ?_ ?_ ?_ ?_ ?_ ?_ ?_ ?_ ?_ ?_ ?_ ?_ ?_ ?_ ?_ ?_ ?_ ?_ ?_ ?_ ?_ ?_ ?_ ?_ ?_ ?_ ?_ ?_ ?_ ?_ ?_ ?_ ?_ ?_ ?_ ?_ ?_ ?_ ?_
  all_goals first|k_is|(show(_:Prop);constructor<;>first|(show _=_;k_is)|k_exc|(constructor<;>(show _=_;k_is)))|skip
#print axioms PySem.Challenge.cw_quotefind_k26_many_times_holds
