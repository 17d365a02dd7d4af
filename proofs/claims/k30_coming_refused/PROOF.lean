import PyProof.Rows.All
import Open.Pieces
import Wide.FinOn
import KE.KDictOf
import KE.KFromBytes
import KE.KIsAll
import KE.KListMore
import KE.KRevIter
import KE.KSortTup
import KE.KTurns
import KE.KWords
import Lean
import PyProof.EqAt
import PyProof.EqKinds
import PyProof.TupleCall
import PySem.Challenge.RW_quotefind_k30_coming_refused
set_option Elab.async false
set_option linter.all false
set_option maxRecDepth 100000
set_option hygiene false in
local macro_rules
|`(tactic|o_head $H)=>`(tactic|refine holds_open (q:=HD.q HD.pw) (loose:=HD.loose) (Xt:=HD.Xt HD.pw []) (XP:=XL (HD.q HD.pw) []) (Yf:=Hook.obs $H) (Ya:=Hook.val $H) (YP:=Hook.says $H) (d:=HD.d) (kwd:=[]) (N:=HD.OA) (HD.left HD.pw HD.pwq $H fun w os=>HD.hk_of (by kernel_rfl) (by kernel_rfl)) (Hook.of $H) (Hook.keeps $H) (fun s e=>xl_of s (Bool.and_eq_true_iff.mp e).1) XL.keeps (by kernel_rfl) (by kernel_rfl) (by kernel_rfl) (fun s e=>recFacts_of (Bool.and_eq_true_iff.mp e).2) (by rfl) (by assumption) (by decide+kernel) ⟨rfl,rfl,rfl,rfl,rfl,by decide+kernel⟩ ?hw ?hc)
|`(Zr $a $b $c)=>`(@aK _ _ $a _ _ _ _ $b (by exact rfl) (Or.inl rfl) $c (by rfl) (by exact .inl rfl))
|`(Ic $a)=>`(@aq _ _ _ _ _ $a ai (by rfl))
|`(Κ $a $b $c)=>`(@aY _ _ _ _ _ _ _ _ _ _ _ _ $a (hr.mono (by decide)) $b $c (by rfl) (by decide) (by rfl) (by rfl))
|`(Μ $a $b)=>`(@bj _ _ $a _ $b (by exact rfl) (Or.inl rfl) (by first|exact .inl rfl|exact .inr rfl|assumption))
|`(R7 $a $b)=>`(@aq _ _ _ _ _ $a $b (by rfl))
|`(γ $a $b $c)=>`(@aR _ _ _ _ _ _ _ _ _ $a (by exact rfl) $b PyProof.Rows.Boot.«len» $c (by decide) (by decide) (by rfl) (by rfl))
|`(χ $a $b)=>`(@aY _ _ _ _ _ _ _ _ _ _ _ _ $a (hr.mono (by decide)) $b (@aq _ _ _ _ _ (pv 0) (@aq _ _ _ _ _ ar ai (by rfl)) (by rfl)) (by rfl) (by decide) (by rfl) (by rfl))
|`(ς $a $b)=>`(@aX _ _ _ _ _ _ _ _ $a (@aY _ _ _ _ _ _ _ _ _ _ _ _ bN (hr.mono (by decide)) a9 (@aq _ _ _ _ _ (pv 0) (@aq _ _ _ _ _ ar ai (by rfl)) (by rfl)) (by rfl) (by decide) (by rfl) (by rfl)) $b)
|`(Β $a)=>`(@aF _ $a _ _ _ _ (pv 0) (by rfl) (by rfl))
|`(zU $a $b $c)=>`(@bo _ _ _ _ _ _ _ $a $b $c (fun _ _=>rfl))
|`(ι $a $b $c)=>`(@aR _ _ _ _ _ _ _ _ _ $a (by exact rfl) $b PyProof.Rows.Boot.«isinstance» $c (by decide) (by decide) (by rfl) (by rfl))
|`(η $a $b $c $d)=>`(@cb _ _ _ _ _ _ _ _ _ _ _ _ _ _ _ _ $a $b (hr.mono (by decide)) $c $d (by rfl) (by rfl) (by rfl))
|`(Η $a)=>`(List.getElem?_eq_some_iff.mp $a)
|`(yt $a $b $c)=>`(@aX _ _ _ _ _ _ _ _ $a $b $c)
|`(Υ $a $b $c)=>`(@bD _ $a _ _ _ _ _ _ _ $b $c (by rfl) (by rfl))
|`(τ $a)=>`(@aq _ _ _ _ _ $a (@aq _ _ _ _ _ ar ai (by rfl)) (by rfl))
|`(ν $a $b $c $d $e $f $g)=>`(@f' _ $a _ _ _ _ _ _ _ _ _ _ _ $b $c $d $e $f $g (by rfl) (by rfl) (by rfl) (by rfl) (by rfl) (by rfl))
|`(Zq $a $b)=>`(@az _ _ _ _ _ $a $b)
|`(Xm $a)=>`(@au _ _ _ $a)
|`(xX $a $b)=>`(@aA _ _ _ _ _ $a $b)
|`(υ $a $b)=>`(@bo _ _ _ _ _ _ _ $a $b (@aX _ _ _ _ _ _ _ _ cI (@aY _ _ _ _ _ _ _ _ _ _ _ _ bN (hr.mono (by decide)) a9 (@aq _ _ _ _ _ (pv 0) (@aq _ _ _ _ _ ar ai (by rfl)) (by rfl)) (by rfl) (by decide) (by rfl) (by rfl)) ar) (fun _ _=>rfl))
|`(Ο $a)=>`(Heap.get?_push_of_some _ $a)
|`(M9 $a)=>`(if_neg $a)
|`(Ι $a $b $c)=>`(@bU _ _ _ _ _ _ _ _ $a $b $c)
|`(ρ $a)=>`(@ip _ _ _ _ _ _ $a (by first|exact cP _ (by decide) (by decide)|rfl))
|`(ω $a $b)=>`(@bU _ _ _ _ _ _ _ _ (@PW.pt _ _ _ (@pw_or _ _ _ _ _ _ _ (@eO _ _ _ _ (@cZ _ _ _ (@aR _ _ _ _ _ _ _ _ _ (lA K) (by exact rfl) T.bw PyProof.Rows.Boot.«isinstance» (@aq _ _ _ _ _ (pv 0) (@aq _ _ _ _ _ (@nV _ _ (.ty "list") _ _ (by exact rfl) T.ni PyProof.Rows.Boot.«list» (by exact rfl) (by decide) (by decide)) ai (by rfl)) (by rfl)) (by decide) (by decide) (by rfl) (by rfl)) (by intro _;rfl))) (@pw_or1 _ _ _ _ (@bu _ _ _ _ _ _ _ _ vD (@aR _ _ _ _ _ _ _ _ _ (aV K) (by exact rfl) T.dA PyProof.Rows.Boot.«len» (@aq _ _ _ _ _ (pv 0) ai (by rfl)) (by decide) (by decide) (by rfl) (by rfl)) (@aR _ _ _ _ _ _ _ _ _ (aV K) (by exact rfl) T.dA PyProof.Rows.Boot.«len» (@aq _ _ _ _ _ (pv 1) ai (by rfl)) (by decide) (by decide) (by rfl) (by rfl)) (br _))))) $a $b)
|`(Ν $a $b $c $d)=>`(@bu _ _ _ _ _ _ _ _ $a $b $c $d)
|`(ε $a)=>`(@cz _ _ _ _ $a (by rfl) (by decide))
|`(VH $a)=>`(if_pos $a)
|`(ξ $a)=>`(s.heap.update $a (Obj.mapSeq fun _=>(#[]:Array Value)))
|`(Γ $a)=>`(@a8 _ _ _ _ $a)
|`(ο $a $b $c $d $e $f)=>`(@d7 _ _ _ _ _ _ _ _ _ _ $a $b $c $d $e $f (by decide) (by rfl) (by rfl))
|`(Χ $a)=>`(@bO _ _ _ _ $a (by rfl))
|`(Ω $a)=>`(List.getElem?_eq_getElem $a)
|`(ζ $a)=>`(List.getElem?_append_left $a)
|`(Δ $a)=>`(wpAny_pure $a)
|`(δ $a)=>`(List.mem_append_right _ $a)
|`(Ρ $a)=>`(Option.some.inj $a)
|`(θ $a)=>`(List.getElem?_append_right $a)
|`(μ $a $b)=>`(@aF _ $a _ _ _ _ $b (by rfl) (by rfl))
|`(Λ $a)=>`(Heap.lt_size $a)
|`(Ψ $a)=>`(List.mem_of_getElem? $a)
|`(Θ $a)=>`(wpAny_bind $a)
set_option hygiene false in
local macro_rules
|`(gL)=>`(⟨rfl,rfl,rfl,by decide+kernel,rfl,by decide+kernel,by decide+kernel⟩)
|`(DY)=>`(⟨rfl,by decide+kernel,by decide+kernel,by decide+kernel,rfl,rfl,by decide+kernel,by decide+kernel,by decide+kernel⟩)
|`(gM)=>`((fun iy A outer s H vs Q E hr h hX=>?_))
|`(Ζ)=>`((fun vs H Q E h=>?_))
|`(XD)=>`((by simp))
|`(Nz)=>`((by lia))
|`(Α)=>`((by exact rfl))
|`(Ε)=>`((by decide))
|`(Ξ)=>`((Nat.le_refl _))
|`(Τ)=>`(by omega)
|`(QY)=>`(by decide)
|`(OB)=>`(by rfl)
|`(Xx)=>`(by simp)
set_option maxHeartbeats 4000000
namespace HD
open PySem PySem.W PyProof.Rows
noncomputable section
noncomputable abbrev pw:Program:=PySem.Challenge.pw_quotefind_k30_coming_refused
noncomputable abbrev pq:Program:=pw
theorem pwq:pw=pq:=rfl
def z0:Str:=⟨⟨[60,109,111,100,117,108,101,62]⟩⟩
def z1:Str:=⟨⟨[95,95,109,97,105,110,95,95]⟩⟩
def Y3:Str:=⟨⟨[47,99,108,97,105,109,47,99,117,116,46,112,121]⟩⟩
noncomputable abbrev y0:String:=PySem.W.SL.s658472552662922059x5
noncomputable abbrev y7:String:=PySem.W.SL.s5856160107412720595x4
noncomputable abbrev R(a:Addr):Value:= .ref a
noncomputable abbrev I(i:Int):Value:= .int i 0
noncomputable abbrev N:Value:= .none
noncomputable abbrev U(v:Value):Option Value:=some v
noncomputable abbrev B:=BT.node
noncomputable abbrev L:=BT.nil
noncomputable abbrev tu(l:List Value):Obj:=⟨.type "tuple",none, .seq ⟨l⟩ 0,⟨[]⟩⟩
noncomputable abbrev fi(l:List Value):Obj:=⟨.none,none, .fields ⟨l⟩,⟨[]⟩⟩
noncomputable abbrev cd(n:Str)(t:Nat)(l a f:Int)(r8:Addr)(b:Bool)(r11:Addr)(v13 v14 v15:Value)(t3:Int)(t4:Nat):Obj:=⟨.type y7,none, .fields ⟨[.str n t, .str n (t+1), .str Y3 (t+2),I l,I a,I 0,I 0,I f,R r8, .bool b,I 181,R r11,N,v13,v14,v15,I t3,I l, .str Y3 t4]⟩,⟨[]⟩⟩
noncomputable def tp(p:Program)(i:Nat):Stmt:=p.main.body.getD i (.Pass ⟨0,0,0,0⟩)
noncomputable def b0(_:Program)(P:Params):Obj:=PySem.W.boot_o_0 P
noncomputable def b1(_:Program)(P:Params):Obj:=PySem.W.boot_o_1 P
noncomputable def b2(_:Program)(P:Params):Obj:=PySem.W.boot_o_2 P
noncomputable def b3(_:Program)(P:Params):Obj:=PySem.W.boot_o_3 P
noncomputable def b4(_:Program)(P:Params):Obj:=PySem.W.boot_o_4 P
noncomputable def b5(_:Program)(P:Params):Obj:=PySem.W.boot_o_5 P
noncomputable def b6(_:Program)(P:Params):Obj:=PySem.W.boot_o_6 P
noncomputable def b7(_:Program)(P:Params):Obj:=PySem.W.boot_o_7 P
noncomputable def b8(_:Program)(P:Params):Obj:=PySem.W.boot_o_8 P
noncomputable def b9(_:Program)(P:Params):Obj:=PySem.W.boot_o_9 P
noncomputable def Y4(_:Program)(P:Params):Obj:=PySem.W.boot_o_10 P
noncomputable def Y5(p:Program)(P:Params):Obj:=tu []
noncomputable def Y6(p:Program)(P:Params):Obj:=fi []
noncomputable def Y7(p:Program)(P:Params):Obj:=cd z0 182 1 0 0 11 false 12 N N N 185 186
noncomputable def Y8(p:Program)(P:Params):Obj:=⟨(.type y0),none,.plain,⟨[U (R 13),U (R 3),U (R 3),none,U (.str z1 164),none,U (R 0)]⟩⟩
noncomputable def La(p:Program)(P:Params):List Obj:=[b0 p P,b1 p P,b2 p P,b3 p P,b4 p P,b5 p P,b6 p P,b7 p P,b8 p P,b9 p P,Y4 p P,Y5 p P,Y6 p P,Y7 p P,Y8 p P]
noncomputable def Ta(p:Program)(P:Params):BT:=(B (b0 p P) (B (b1 p P) (B (b3 p P) (B (b7 p P) L L) (B (Y5 p P) L L)) (B (b5 p P) (B (b9 p P) L L) (B (Y7 p P) L L))) (B (b2 p P) (B (b4 p P) (B (b8 p P) L L) (B (Y6 p P) L L)) (B (b6 p P) (B (Y4 p P) L L) (B (Y8 p P) L L))))
noncomputable def keep:List Nat:=[0,2,3,4,6,7,8,9,10,11,12,13,14,15,16,17,18,19,20,22,23,24,26,27,28,29,31,32,34,35,36,37,38,39,40,42,43,44,45,46,48,49,50,51,52,54,55,56,57,58,59,60,62,63,64,65,66,67,68,69,71,72,73,74,75,76,77,78,79,80,81,82]
noncomputable def loose:List Str:=[]
noncomputable def env(p:Program):Env:={scope:=p.main.scope,locals:=mainNs,globals:=mainNs,cells:=[],code:=(R 13),frame:=some 14}
noncomputable def cE(p:Program):Code:= .body (behindTheImports p) (env p)
noncomputable def qP:Pos:=⟨0,0,0,0⟩
noncomputable def pP:Pos:=⟨0,0,0,0⟩
noncomputable def bP:Pos:=⟨0,0,0,0⟩
noncomputable def fP:Pos:=⟨520,0,545,120⟩
noncomputable def an:Option Value:=(some (R 6))
noncomputable abbrev RN:Nat:=82
noncomputable abbrev m0:Nat:=11
noncomputable abbrev RO:Nat:=12
noncomputable abbrev RP:Nat:=1
noncomputable abbrev Oy:Nat:=7297
noncomputable abbrev Oz:Nat:=2
noncomputable abbrev OA:Nat:=15318
noncomputable abbrev nA:Nat:=15
noncomputable abbrev tkA:Nat:=187
noncomputable abbrev tkB:Nat:=187
end
end HD
namespace HD
open PySem PySem.W PyProof.Rows
noncomputable section
abbrev S0(w:World)(os:OsState):Shared:=⟨boot_heap w.params,⟨[]⟩,boot_drawn,boot_toks,os⟩
abbrev Sa(p:Program)(w:World)(os:OsState):Shared:=⟨⟨⟨La p w.params⟩,{}⟩,⟨[]⟩,{},tkA,os⟩
abbrev Sb(p:Program)(w:World)(os:OsState):SharedT:=⟨Ta p w.params,nA,{},⟨[]⟩,{},tkB,os⟩
abbrev q(p:Program):Program:=view p keep
abbrev Xt(p:Program)(R:WRecords):Shared→Bool:=fun s=>xlAt (q p) [] s&&recOk R s
theorem RQ(w:World)(os:OsState):topGo treeTable pq w m0 an RO (S0 w os) (topStub pq)=some (Sa pq w os,⟨denote treeTable (cE pq),cE pq,pP,[topFrame qP]⟩):=by
 rewrite[Fast.te15667345088766844465,Fast.te14364793385576792824,Fast.te11892475500146522536];kernel_rfl
theorem RR(w:World)(os:OsState):segRun treeTable pq w m0 an 1 RP (Sa pq w os) (blockOf (behindTheImports pq) (env pq) (cE pq) pP [topFrame qP])=some (.next,(Sb pq w os).abs,cE pq,bP):=by
 rewrite[Fast.te14374325043358763698,Fast.te14364793385576792824];kernel_rfl
def Rm(w:World)(os:OsState):=Fast.tw10110043849684766642 Fast.tw14364793385576792824 pq w m0 an 1 Oy (Sb pq w os) (piecesOf (behindTheImports pq) (env pq) (cE pq) bP [topFrame qP])
def Sm(w:World)(os:OsState):SharedT:=match Rm w os with|some (_,s,_,_)=>s|none=>Sb pq w os
theorem RS(w:World)(os:OsState):segRunT treeTable pq w m0 an 1 Oy (Sb pq w os) (piecesOf (behindTheImports pq) (env pq) (cE pq) bP [topFrame qP])=some (.next,Sm w os,cE pq,fP):=by
 rewrite[Fast.te10110043849684766642,Fast.te14364793385576792824];kernel_rfl
def Rf(w:World)(os:OsState):=Fast.tw14082659384304107361 Fast.tw14364793385576792824 pq w m0 an Oz (Sm w os).abs ⟨doneF .next,cE pq,fP,[topFrame qP]⟩
def Sf(w:World)(os:OsState):Shared:=match Rf w os with|some s=>s|none=>S0 w os
theorem RT(w:World)(os:OsState):topRun treeTable pq w m0 an Oz (Sm w os).abs ⟨doneF .next,cE pq,fP,[topFrame qP]⟩=some (Sf w os):=by
 rewrite[Fast.te14082659384304107361,Fast.te14364793385576792824];kernel_rfl
theorem aaD(w:World):((boot_heap w.params).isNs mainGlobals&&(⟨[]⟩:Array GenState).size==0,(boot_heap w.params).objs.size,(boot_heap w.params).nsMap mainGlobals "__annotations__")=(true,m0,an):=by
 rewrite[Fast.te8920871248978507458];kernel_rfl
theorem OC:∀w:World,(fencedOpening treeTable pq w OA).map (fun s=>(s.heap,s.gens,s.drawn,s.toks))=some (boot_heap w.params,⟨[]⟩,boot_drawn,boot_toks):=
 boot_open (by kernel_rfl) (by kernel_rfl) (fun s=>by kernel_rfl)
theorem RU(w:World)(os:OsState):topRun treeTable pq w m0 an (RO+(RP+(Oy+Oz))) (S0 w os) (topStub pq)=some (Sf w os):=by
 refine go_top (RQ w os) (piece_block (RR w os) ?_);have h:=piece_app (rest:=[]) (segRun_of (RS w os)) (piece_nil (env:=env pq) (RT w os));rw[List.append_nil]at h;exact h
theorem Jo0(w:World)(os:OsState):(staticsOk (importedModules pq.main.body) (boot_heap w.params) (Sf w os).heap&&namesBound pq (Sf w os).heap&&gensDone (Sf w os)&&laidKept (boot_heap w.params) (Sf w os).heap)=true:=by rewrite[Fast.te5923862056798008813];kernel_rfl
theorem Jo1(w:World)(os:OsState):seen ((recsOf (q pq)).map (·.name)) (ownsOf (q pq)) [] {Sf w os with gens:=#[]}=expectedOf (q pq):=by rewrite[Fast.te5160383126252970620,Fast.te3399658132070893891,Fast.te5991557255702980513];kernel_rfl
theorem Jo2(w:World)(os:OsState):(Sf w os).heap.bltView=bltViewBooted:=by kernel_rfl
theorem Jo(w:World)(os:OsState):((staticsOk (importedModules pq.main.body) (boot_heap w.params) (Sf w os).heap&&namesBound pq (Sf w os).heap&&gensDone (Sf w os)&&laidKept (boot_heap w.params) (Sf w os).heap)=true)∧(seen ((recsOf (q pq)).map (·.name)) (ownsOf (q pq)) [] {Sf w os with gens:=#[]}=expectedOf (q pq))∧((Sf w os).heap.bltView=bltViewBooted):=⟨Jo0 w os,Jo1 w os,Jo2 w os⟩
theorem OD(w:World)(os:OsState):
 ((Sf w os).heap.keysOk (looseW (q pq) loose) ((recsOf (q pq)).map (·.name)) ((litsOf (q pq)).map (·.1)) ((clssOf (q pq) (looseW (q pq) loose)).map (·.name))&&(Sf w os).heap.accountedOkI (importedModules pq.main.body)&&(Sf w os).heap.isNs mainGlobals&&(Sf w os).heap.isNs builtinsNs&&tablesOk (q pq) (Sf w os).heap&&Xt pq [] (Sf w os)&&(if true then(Sf w os).gens.size==0 else !leftWithCleanup (Sf w os).gens))=true:=by
 rewrite[Fast.te10880121769531294198,Fast.te821141287760084731,Fast.te3399658132070893891,Fast.te7409074990110511671,Fast.te13664370479719496447,Fast.te14722251495701143533,Fast.te5923862056798008813,Fast.te10994771534591457954];kernel_rfl
theorem OE0(w:World)(os:OsState):tabsOk (q pq) (Sf w os)=true:=by rewrite[Fast.te479339242167458305];kernel_rfl
theorem OE1(w:World)(os:OsState):pinSeenD (q pq) (drecsOf (q pq)) (Sf w os)=pinGoodD (drecsOf (q pq)):=by rewrite[Fast.te16090120013241838585,Fast.te3247288618530077131];kernel_rfl
theorem OE2(w:World)(os:OsState):plainSeenE (q pq) (looseW (q pq) loose) (Sf w os)=plainGoodE (q pq) (looseW (q pq) loose):=by rewrite[Fast.te2386780881361962483,Fast.te821141287760084731];kernel_rfl
theorem OE3(w:World)(os:OsState):plainSeenD (q pq) loose (Sf w os)=plainGoodD (q pq) loose:=by rewrite[Fast.te11698064438423848299];kernel_rfl
theorem OE4(w:World)(os:OsState):wideSeen (q pq) (Sf w os)=wideGood (q pq):=by rewrite[Fast.te7317090234206586261];kernel_rfl
theorem OE5(w:World)(os:OsState):clsSeenW (q pq) loose (Sf w os)=clsGoodW (q pq) loose:=by rewrite[Fast.te7369524293546568484];kernel_rfl
theorem OE(w:World)(os:OsState):(tabsOk (q pq) (Sf w os)=true)∧(pinSeenD (q pq) (drecsOf (q pq)) (Sf w os)=pinGoodD (drecsOf (q pq)))∧(plainSeenE (q pq) (looseW (q pq) loose) (Sf w os)=plainGoodE (q pq) (looseW (q pq) loose))∧(plainSeenD (q pq) loose (Sf w os)=plainGoodD (q pq) loose)∧(wideSeen (q pq) (Sf w os)=wideGood (q pq))∧(clsSeenW (q pq) loose (Sf w os)=clsGoodW (q pq) loose):=⟨OE0 w os,OE1 w os,OE2 w os,OE3 w os,OE4 w os,OE5 w os⟩
theorem lx{p q:Program}{lo:List Str}{Xt:Shared→Bool}{α:Type}{Yf:Shared→α}{a:α}{w:World}{N M n:Nat}{h:Heap}{gs:Array GenState}{dr:Drawn}{k:Nat}{an:Option Value}{g:OsState→Shared}
  (o:(fencedOpening treeTable p w N).map (fun s=>(s.heap,s.gens,s.drawn,s.toks))=some (h,gs,dr,k)) (z:(h.isNs mainGlobals&&gs.size==0,h.objs.size,h.nsMap mainGlobals "__annotations__")=(true,n,an))
  (r:∀os,topRun treeTable p w n an M ⟨h,gs,dr,k,os⟩ (topStub p)=some (g os)) (le:M≤N) (x1:∀os,(staticsOk (importedModules p.main.body) h (g os).heap&&namesBound p (g os).heap&&gensDone (g os)&&laidKept h (g os).heap)=true)
  (x2:∀os,openSeen q lo (importedModules p.main.body) Xt true (g os)=openGood q lo) (x3:∀os,Yf (g os)=a):(openEnds treeTable p w N).map (fun s=>(openSeen q lo (importedModules p.main.body) Xt true s,Yf s))=some (openGood q lo,a):=by
 obtain⟨⟨h,gs,dr,k,os⟩,e1,e2⟩:=Option.map_eq_some_iff.mp o;cases e2;obtain⟨y1,y2⟩:=Prod.mk.inj z;obtain⟨y2,y3⟩:=Prod.mk.inj y2;have t:=topRun_mono (N-M) _ _ _ _ (r os);rw[Nat.add_sub_cancel' le]at t;have f:topFrom treeTable p w N ⟨h,gs,dr,k,os⟩=some (g os):=by
  unfold topFrom;dsimp only;rw[y1,y2,y3,t];show(match staticsOk _ h (g os).heap&&namesBound p (g os).heap&&gensDone (g os)&&laidKept h (g os).heap with|true=>_|false=>_)=_;rw[x1 os]
 unfold openEnds;rw[e1,Option.bind_some,f];exact congrArg some (Prod.ext (x2 os) (x3 os))
theorem left(p:Program)(e:p=pq)(H:Hook)(hk:∀w os,H.obs (Sf w os)=H.val w):LeftO p (q p) loose (Xt p []) H.obs H.val OA:=by
 subst e;intro w;exact lx (g:=Sf w) (OC w) (aaD w) (RU w) (QY) (fun os=>(Jo w os).1) (fun os=>let ⟨_,x2,x3⟩:=Jo w os;let ⟨x5,x6,x7,x8,x9,x0⟩:=OE w os;looks_pair x2 (looks_pair x3 (looks_pair (OD w os) (looks_pair x5 (looks_pair x6 (looks_pair x7 (looks_pair x8 (looks_pair x9 x0)))))))) (hk w)
def d:DefRec:=match tp pw RN with
 | .FunctionDef n a b _ _ _ sc _ _ ps=>⟨n,a,b,sc,ps⟩
 | _=>⟨Str.empty,default,[],default,default⟩
end
end HD
namespace HD
open PySem
def pk:Nat→List Nat→List Obj→List (Option Obj)
 |_,[],_=>[]
 |_,_::as,[]=>none::as.map fun _=>none
 |i,a::as,x::xs=>match Nat.beq a i with
  |true=>some x::pk (i+1) as xs
  |false=>pk (i+1) (a::as) xs
def up:Nat→List Nat→Bool
 |_,[]=>true
 |i,a::as=>Nat.ble i a&&up (a+1) as
theorem up_le:∀{as:List Nat}{i:Nat},up i as=true→∀a∈as,i≤a
 |[],_,_,_,h=>by cases h
 |a::as,i,h,b,hb=>by
  obtain⟨h1,h2⟩:=Bool.and_eq_true_iff.mp h
  have h1:=Nat.le_of_ble_eq_true h1
  rcases List.mem_cons.mp hb with e|hb
  ·omega
  ·have:=up_le h2 b hb;omega
theorem pk_eq:∀(xs:List Obj)(i:Nat)(as:List Nat),up i as=true→pk i as xs=as.map fun a=>xs[a-i]?
 |xs,i,[],_=>by unfold pk;rfl
 |[],i,a::as,_=>by unfold pk;simp
 |x::xs,i,a::as,h=>by
  obtain⟨h1,h2⟩:=Bool.and_eq_true_iff.mp h
  have h1:=Nat.le_of_ble_eq_true h1
  unfold pk
  split
  ·rename_i e
   have e:=Nat.eq_of_beq_eq_true e;subst e
   have u:=up_le h2
   rw[pk_eq xs (a+1) as h2,List.map_cons,Nat.sub_self]
   refine congrArg (some x::·) (List.map_congr_left fun b hb=>?_)
   have:=u b hb
   rw[show b-a=(b-(a+1))+1 by omega];rfl
  ·rename_i e
   have e:=Nat.ne_of_beq_eq_false e
   have h3:up (i+1) (a::as)=true:=Bool.and_eq_true_iff.mpr ⟨Nat.ble_eq_true_of_le (by omega),h2⟩
   have u:=up_le h3
   rw[pk_eq xs (i+1) (a::as) h3]
   refine List.map_congr_left fun b hb=>?_
   have:=u b hb
   rw[show b-i=(b-(i+1))+1 by omega];rfl
def fz:Option Obj→Option Obj
 |some ⟨_,_,.freed,_⟩=>none
 |o=>o
theorem hk_of{h:Heap}{as:List Nat}{r:List (Option Obj)}(u:up 0 as=true)(e:(pk 0 as h.objs.toList).map fz=r):as.map h.get?=r:=by
 rw[← e,pk_eq _ _ _ u,List.map_map]
 refine List.map_congr_left fun a _=>?_
 show Heap.get? h a=fz (h.objs.toList[a-0]?)
 rw[Nat.sub_zero,Array.getElem?_toList]
 rfl
end HD
namespace HD
theorem ws:PySem.W.OpenLaw.wellSaid PySem.Challenge.rw_quotefind_k30_coming_refused=true:=by
 rewrite[PySem.W.Fast.te9446332074065402090];kernel_rfl
end HD
namespace L2
open PySem PySem.Spec PyProof.Rows
abbrev Key:=Sum Int Str
def yP:Key→Value→Bool
 | .inl k,v=>Value.isInt k v
 | .inr x,v=>Value.isStrOf x v
def Wt(w:World):Key→Int
 | .inl k=>hashInt k
 | .inr x=>hashStr w x
theorem dH:∀{k:Key}{v:Value},yP k v=true→(∃i t,k=Sum.inl i∧v=Value.int i t)∨(∃x t,k=Sum.inr x∧v=Value.str x t)
 | .inl i,v,h=>by
  obtain⟨t,e⟩:=Value.isInt_shape (k:=i) (v:=v) h;exact .inl ⟨i,t,rfl,e⟩
 | .inr x,v,h=>by
  obtain⟨t,e⟩:=Value.isStrOf_shape (x:=x) (v:=v) h;exact .inr ⟨x,t,rfl,e⟩
theorem Ha(i:Int)(t:Tok):yP (.inl i) (.int i t)=true:=by simp[yP,Value.isInt]
theorem Hb(x:Str)(t:Tok):yP (.inr x) (.str x t)=true:=by simp[yP,Value.isStrOf]
theorem OF(a b:Int):decide ((Sum.inl a:Key)=Sum.inl b)=(a==b):=by
 by_cases e:a=b
 ·subst e;simp
 ·have h:¬(Sum.inl a:Key)=Sum.inl b:=fun q=>e (Sum.inl.inj q)
  rw[decide_eq_false h];exact(beq_eq_false_iff_ne.mpr e).symm
theorem OG(a b:Str):decide ((Sum.inr a:Key)=Sum.inr b)=decide (a=b):=by
 by_cases e:a=b
 ·subst e;simp
 ·have h:¬(Sum.inr a:Key)=Sum.inr b:=fun q=>e (Sum.inr.inj q)
  rw[decide_eq_false h,decide_eq_false e]
theorem OH(a:Int)(b:Str):decide ((Sum.inl a:Key)=Sum.inr b)=false:=decide_eq_false (fun q=>nomatch q)
theorem OI(a:Str)(b:Int):decide ((Sum.inr a:Key)=Sum.inl b)=false:=decide_eq_false (fun q=>nomatch q)
def dI(prog:Program)(w:World):PySem.KeyKind prog w Key where
 is:=yP
 hash:=Wt w
 inj:=fun v a b ha hb=>by
  rcases dH ha with⟨i,t,rfl,rfl⟩|⟨x,t,rfl,rfl⟩
  ·rcases dH hb with⟨j,u,rfl,e⟩|⟨y,u,rfl,e⟩
   ·injection e with e1 _;rw[e1]
   ·exact nomatch e
  ·rcases dH hb with⟨j,u,rfl,e⟩|⟨y,u,rfl,e⟩
   ·exact nomatch e
   ·injection e with e1 _;rw[e1]
 byValue:=fun k v h=>by
  rcases dH h with⟨i,t,rfl,rfl⟩|⟨x,t,rfl,rfl⟩<;>rfl
 pyHash:=fun hv h=>by
  rcases dH hv with⟨i,t,rfl,rfl⟩|⟨x,t,rfl,rfl⟩
  ·exact wpAny_pyHash_int h
  ·exact wpAny_pyHash_str h
 eqBool:=fun hu hv h=>by
  rcases dH hu with⟨i,t,rfl,rfl⟩|⟨x,t,rfl,rfl⟩
  ·rcases dH hv with⟨j,u,rfl,rfl⟩|⟨y,u,rfl,rfl⟩
   ·rw[OF]at h;exact wpAny_eqBool_int h
   ·rw[OH]at h;exact SeqAt.EqAt.int_str i t y u _ _ _ _ h
  ·rcases dH hv with⟨j,u,rfl,rfl⟩|⟨y,u,rfl,rfl⟩
   ·rw[OI]at h;exact SeqAt.EqAt.str_int x t j u _ _ _ _ h
   ·rw[OG]at h;exact wpAny_eqBool_str h
 «strs»:=fun k x t v h=>by
  rcases dH h with⟨i,u,rfl,e⟩|⟨y,u,rfl,e⟩
  ·exact nomatch e
  ·injection e with e1 _;subst e1;cases v<;>rfl
theorem Cm(prog:Program)(w:World)(i:Int)(t:Tok):(dI prog w).is (.inl i) (.int i t)=true:=Ha i t
theorem Cn(prog:Program)(w:World)(x:Str)(t:Tok):(dI prog w).is (.inr x) (.str x t)=true:=Hb x t
inductive V where
 |cF|bl (b:Bool)|int (i:Int)|str (x:Str)|Hd (b:Array UInt8)|Nt (b:UInt64)|ref (a:Addr)|ty (n:String)
 deriving DecidableEq
def RelV:V→Value→Prop
 | .cF,u=>u=Value.none
 | .bl b,u=>u=Value.bool b
 | .int i,u=>∃t,u=Value.int i t
 | .str x,u=>∃t,u=Value.str x t
 | .Hd b,u=>∃t,u=Value.bytes b t
 | .Nt b,u=>∃t,u=Value.float b t
 | .ref a,u=>u=Value.ref a
 | .ty n,u=>u=Value.type n
abbrev Vals:List V→List Value→Prop:=Paired RelV
theorem Vals.length{xs:List V}{us:List Value}(r:Vals xs us):xs.length=us.length:=Paired.length r
theorem Vals.get:∀{xs:List V}{us:List Value}{i:Nat}{x:V},Vals xs us→xs[i]?=some x→∃u,us[i]?=some u∧RelV x u
 | _,_,_,_, .nil,e=>by simp at e
 | _,_,0,_, .cons r _,e=>by simp at e;subst e;exact⟨_,rfl,r⟩
 | _,_,i+1,x, .cons _ t,e=>by
  obtain⟨u,h1,h2⟩:=Vals.get (i:=i) (x:=x) t (by simpa using e);exact⟨u,by simpa using h1,h2⟩
theorem Vals.set{x:V}{u:Value}(r:RelV x u):∀{xs:List V}{us:List Value}(i:Nat),Vals xs us→Vals (xs.set i x) (us.set i u)
 | _,_,_, .nil=> .nil
 | _,_,0, .cons _ t=> .cons r t
 | _,_,i+1, .cons q t=> .cons q (Vals.set r i t)
theorem Vals.append:∀{xs ys:List V}{us ws:List Value},Vals xs us→Vals ys ws→Vals (xs++ys) (us++ws)
 | _,_,_,_, .nil,s=>s
 | _,_,_,_, .cons r t,s=> .cons r (Vals.append t s)
theorem Vals.take:∀{xs:List V}{us:List Value}(n:Nat),Vals xs us→Vals (xs.take n) (us.take n)
 | _,_,0,_=> .nil
 | _,_,_+1, .nil=> .nil
 | _,_,n+1, .cons r t=> .cons r (Vals.take n t)
theorem Vals.drop:∀{xs:List V}{us:List Value}(n:Nat),Vals xs us→Vals (xs.drop n) (us.drop n)
 | _,_,0,r=>r
 | _,_,_+1, .nil=> .nil
 | _,_,n+1, .cons _ t=>Vals.drop n t
def lL:Option V→Option Value→Prop
 |some v,some u=>RelV v u
 |none,none=>True
 | _,_=>False
def KV{κ:Type}:List (κ×V)→List (κ×Value)→Prop:=Paired fun(p:κ×V)(q:κ×Value)=>p.1=q.1∧RelV p.2 q.2
def kV:Key→V
 | .inl i=> .int i
 | .inr x=> .str x
inductive HO where
 |lst (xs:List V)
 |tup (xs:List V)
 |dK (kvs:List (Key×V))|dT (kvs:List (List Key×V))
 |set (S:Int→Bool) (n:Nat)
 |ins (C dx:Addr) (fs:List (Str×V))
 |own (x:Addr)
 |xd (fs:List (Str×V))
 |met (f x:Addr)
 |Vm (lo hi:Int)
 |ve (o:Obj) (u:HO)
 |LB (ps:Array Value)
 |ext (φ:Heap→Prop)
abbrev Hp:=Addr→Option HO
def upd(H:Hp)(a:Addr)(o:HO):Hp:=fun b=>if b=a then some o else H b
theorem af{H:Hp}{a:Addr}{o:HO}:upd H a o a=some o:=by unfold upd;rw[if_pos rfl]
theorem aj{H:Hp}{a b:Addr}{o:HO}(h:b≠a):upd H a o b=H b:=by unfold upd;rw[M9 h]
theorem d0{H:Hp}{a:Addr}{o u:HO}:upd (upd H a o) a u=upd H a u:=by
 funext b;unfold upd;split<;>rfl
theorem jA{H:Hp}{a b:Addr}{o u:HO}(h:H a=some o)(h':H b=some u)(d:o≠u):a≠b:=by
 intro e;subst e;rw[h]at h';exact d (Ρ h')
theorem aG{H:Hp}{a b:Addr}{o:HO}(h:H a=some o)(h':H b=none):a≠b:=by
 intro e;subst e;rw[h]at h';cases h'
section
variable(P:Program)(w:World)
def dn(H:Hp)(h:Heap)(a:Addr):HO→Prop
 | .lst xs=>xs.length≤sizeLine∧∃(its:List Value)(n:Nat),Vals xs its∧h.get? a=some {cls:= .type "list",data:= .seq its.toArray n}
 | .tup xs=>xs.length≤sizeLine∧∃its:List Value,Vals xs its∧IsTup h a its.toArray
 | .dK kvs=>kvs.length≤sizeLine∧(a==sysModules)=false∧∃vs,KV kvs vs∧h.DictOf (dI P w) a vs
 | .dT kvs=>kvs.length≤sizeLine∧(a==sysModules)=false∧∃xs:List (List Key×Addr×Value),
   Paired (fun(p:List Key×V)(q:List Key×Addr×Value)=>p.1=q.1∧H q.2.1=some (.tup (p.1.map kV))∧RelV p.2 q.2.2) kvs xs∧
   ∃o es ep,h.get? a=some o∧o.ExactDict∧o.data= .dict es ep∧es.toList=xs.map (entryOfKey (tupleKind (dI P w)))∧(xs.map (·.1)).Nodup
 | .set S n=>h.SetOf (intKind P w) a S n
 | .ins C dx fs=>H dx=some (.own a)∧fs.length≤1000∧dx≠a∧h.get? a=some (PySem.W.instObj C dx)∧
   ∃mA,h.Ns1 dx mA∧(∀f,lL (fs.lookup f) (mA f))∧PySem.Within mA (fs.map (·.1))
 | .own _=>∃o,h.get? a=some o
 | .xd fs=>∃mA,h.Ns1 a mA∧∀f,lL (fs.lookup f) (mA f)
 | .Vm lo hi=>∃t u v,h.get? a=some {cls:= .type "range",data:= .fields #[.int lo t, .int hi u, .int 1 v]}
 | .ve o u=>h.get? a=some o∧dn H h a u
 | .LB ps=>h.get? a=some {cls:= .none,data:= .fields ps}
 | .met f x=>h.get? a=some (PySem.W.methodObj (.ref f) (.ref x))
 | .ext φ=>φ h∧(∃o,h.get? a=some o)∧∀h1 h2:Heap,φ h1→(∀o,h1.get? a=some o→h2.get? a=some o)→φ h2
def mM(H:Hp)(h:Heap):Prop:=∀a o,H a=some o→dn P w H h a o
end
section
variable{P:Program}{w:World}{H H':Hp}{h h':Heap}{a:Addr}{o:HO}
theorem dn.lt(x:dn P w H h a o):a<h.objs.size:=by
 cases o with
 |lst xs=>obtain⟨_,_,_,_,e⟩:=x;exact Λ e
 |tup xs=>obtain⟨_,_,_,p⟩:=x;exact p.lt
 |dK kvs=>obtain⟨_,_,_,_,o,_,_,e,_⟩:=x;exact Λ e
 |dT kvs=>obtain⟨_,_,_,_,o,_,_,e,_⟩:=x;exact Λ e
 |set S n=>obtain⟨o,_,_,_,e,_⟩:=x;exact Λ e
 |ins C dx fs=>obtain⟨_,_,_,e,_⟩:=x;exact Λ e
 |own y=>obtain⟨_,e⟩:=x;exact Λ e
 |xd fs=>obtain⟨_,⟨_,_,_,e,_⟩,_⟩:=x;exact Λ e
 |Vm lo hi=>obtain⟨_,_,_,e⟩:=x;exact Λ e
 |ve ob u=>obtain⟨e,_⟩:=x;exact Λ e
 |LB ps=>exact Λ (show h.get? a=some _ from x)
 |met f y=>exact Λ (show h.get? a=some _ from x)
 |ext φ=>obtain⟨_,⟨_,e⟩,_⟩:=x;exact Λ e
theorem Paired.OJ{α β:Type}{F G:α→β→Prop}:∀{RV:List α}{RW:List β},Paired F RV RW→(∀a b,F a b→G a b)→Paired G RV RW
 | _,_, .nil,_=> .nil
 | _,_, .cons r t,f=> .cons (f _ _ r) (Paired.OJ t f)
theorem dn.pY(x:dn P w H h a o)(k:∀b u,(b=a∨H b=some (.own a))→h.get? b=some u→h'.get? b=some u)
  (ho:∀b,H b=some (.own a)→H' b=some (.own a)) (ht:∀b xs,H b=some (.tup xs)→H' b=some (.tup xs)):dn P w H' h' a o:=by
 induction o with
 |lst xs=>obtain⟨z,its,n,r,e⟩:=x;exact⟨z,its,n,r,k _ _ (.inl rfl) e⟩
 |tup xs=>obtain⟨z,its,r,ob,e,c⟩:=x;exact⟨z,its,r,ob,k _ _ (.inl rfl) e,c⟩
 |dK kvs=>obtain⟨z,y,vs,r,ob,es,ep,e,c⟩:=x;exact⟨z,y,vs,r,ob,es,ep,k _ _ (.inl rfl) e,c⟩
 |dT kvs=>
  obtain⟨z,y,xs,r,ob,es,ep,e,c⟩:=x;exact⟨z,y,xs,Paired.OJ r fun p q z=>⟨z.1,ht _ _ z.2.1,z.2.2⟩,ob,es,ep,k _ _ (.inl rfl) e,c⟩
 |set S n=>obtain⟨ob,es,ep,t,e,c⟩:=x;exact⟨ob,es,ep,t,k _ _ (.inl rfl) e,c⟩
 |ins C dx fs=>
  obtain⟨d,z,ne,e,mA,⟨od,es,ep,e2,c⟩,r⟩:=x;exact⟨ho _ d,z,ne,k _ _ (.inl rfl) e,mA,⟨od,es,ep,k _ _ (.inr d) e2,c⟩,r⟩
 |own y=>obtain⟨ob,e⟩:=x;exact⟨ob,k _ _ (.inl rfl) e⟩
 |xd fs=>obtain⟨mA,⟨od,es,ep,e,c⟩,r⟩:=x;exact⟨mA,⟨od,es,ep,k _ _ (.inl rfl) e,c⟩,r⟩
 |Vm lo hi=>obtain⟨t,u,v,e⟩:=x;exact⟨t,u,v,k _ _ (.inl rfl) e⟩
 |ve ob u ih=>obtain⟨e,q⟩:=x;exact⟨k _ _ (.inl rfl) e,ih q⟩
 |LB ps=>
  have e:h.get? a=some {cls:= .none,data:= .fields ps}:=x;show h'.get? a=some {cls:= .none,data:= .fields ps};exact k a _ (.inl rfl) e
 |met f y=>
  have e:h.get? a=some (PySem.W.methodObj (.ref f) (.ref y)):=x;show h'.get? a=some (PySem.W.methodObj (.ref f) (.ref y));exact k a _ (.inl rfl) e
 |ext φ=>obtain⟨p,⟨o,e⟩,st⟩:=x;exact⟨st _ _ p fun o q=>k _ _ (.inl rfl) q,⟨o,k _ _ (.inl rfl) e⟩,st⟩
theorem mM.lt(x:mM P w H h)(e:H a=some o):a<h.objs.size:=(x a o e).lt
theorem mM.fresh(x:mM P w H h)(e:h.objs.size≤a):H a=none:=by
 cases q:H a with
 |none=>rfl
 |some u=>exact absurd (Nat.lt_of_lt_of_le (x.lt q) e) (Nat.lt_irrefl _)
theorem mM.kept(x:mM P w H h)(k:∀b u,h.get? b=some u→h'.get? b=some u):mM P w H h':=fun a o e=>
 (x a o e).pY (fun b u _ q=>k b u q) (fun _ q=>q) fun _ _ q=>q
theorem mM.laid(x:mM P w H h)(k:∀b u,h.get? b=some u→h'.get? b=some u)(hp:h.objs.size≤a)(new:dn P w (upd H a o) h' a o):mM P w (upd H a o) h':=fun b u e=>by
 have hn:=x.fresh hp;by_cases hb:b=a
 ·subst hb;rw[af]at e;cases e;exact new
 ·rw[aj hb]at e;exact(x b u e).pY (fun c v _ q=>k c v q) (fun c q=>by rw[aj (aG q hn)];exact q) fun c xs q=>by rw[aj (aG q hn)];exact q
end
def Rd(H:Hp)(a:Addr)(u:HO):Prop:=H a=some u∨∃o,H a=some (.ve o u)
theorem Rd.of{H:Hp}{a:Addr}{u:HO}(h:H a=some u):Rd H a u:= .inl h
theorem Rd.ok{P:Program}{w:World}{H:Hp}{h:Heap}{a:Addr}{u:HO}(r:Rd H a u)(x:mM P w H h):dn P w H h a u:=by
 rcases r with r|⟨o,r⟩
 ·exact x a u r
 ·obtain⟨_,q⟩:=x a _ r;exact q
def RX:Option HO→Prop
 |some (.lst _)=>True
 |some (.dK _)=>True
 |some (.dT _)=>True
 |some (.set _ _)=>True
 |some (.ins _ _ _)=>True
 |some (.ext _)=>True
 | _=>False
section
variable{P:Program}{w:World}{H:Hp}{h h':Heap}{x e:Addr}{o':HO}
theorem mM.write(ok:mM P w H h)(mu:RX (H x))(he:e=x∨H e=some (.own x))(k:∀b u,b≠e→h.get? b=some u→h'.get? b=some u)(QZ:∃u,h'.get? e=some u)
  (new:dn P w (upd H x o') h' x o'):mM P w (upd H x o') h':=fun b u q=>by
 have RY:∀c y,H c=some (.own y)→c≠x:=fun c y r z=>by subst z;rw[r]at mu;exact mu
 have Wu:∀c xs,H c=some (.tup xs)→c≠x:=fun c xs r z=>by subst z;rw[r]at mu;exact mu
 by_cases hb:b=x
 ·subst hb;rw[af]at q;cases q;exact new
 ·rw[aj hb]at q;by_cases OL:b=e
  ·have q':H b=some (.own x):=by
    rcases he with z|z
    ·exact absurd (OL.trans z) hb
    ·rw[OL];exact z
   rw[q]at q';cases q';obtain⟨v,hv⟩:=QZ;exact⟨v,by rw[OL];exact hv⟩
  ·refine(ok b u q).pY (fun c v hc r=>k c v ?_ r) (fun c r=>by rw[aj (RY c b r)];exact r) fun c xs r=>by rw[aj (Wu c xs r)];exact r
   rcases hc with rfl|hc
   ·exact OL
   ·rintro rfl;rcases he with z|z
    ·exact RY c b hc z
    ·rw[hc]at z;cases z;exact hb rfl
end
structure Un(fs ex:List Addr)(H H':Hp)(h h':Heap):Prop where
 keep:∀b o,h.get? b=some o→H b=none→b∉fs→b∉ex→h'.get? b=some o
 slot:∀b o,h.get? b=some o→H b=none→b∈fs→b∉ex→∃sl,h'.get? b=some {o with slots:=sl}
 free:∀b o,h.get? b=some o→H b=none→b∉ex→H' b=none
 there:∀b o,h.get? b=some o→b∉ex→∃o',h'.get? b=some o'
 cO:∀b xs,H b=some (.tup xs)→H' b=some (.tup xs)
 mV:∀b o u,H b=some (.ve o u)→H' b=some (.ve o u)
 oY:∀b ps,H b=some (.LB ps)→∃more,H' b=some (.LB (ps++more))
section
variable{fs fs' ex ex':List Addr}{H H1 H2:Hp}{h h1 h2 h':Heap}{a x e:Addr}{o:HO}
theorem Un.any(u:Un fs ex H H1 h h1){b:Addr}{ob:Obj}(q:h.get? b=some ob)(n:H b=none)(hx:b∉ex):∃sl,h1.get? b=some {ob with slots:=sl}:=by
 by_cases hb:b∈fs
 ·exact u.slot b ob q n hb hx
 ·exact⟨ob.slots,u.keep b ob q n hb hx⟩
theorem Un.kept(k:∀b u,h.get? b=some u→h'.get? b=some u):Un fs ex H H h h':=
 ⟨fun b ob q _ _ _=>k b ob q,fun b ob q _ _ _=>⟨ob.slots,k b ob q⟩,fun _ _ _ n _=>n,fun b ob q _=>⟨ob,k b ob q⟩,fun _ _ q=>q,fun _ _ _ q=>q,fun _ ps q=>⟨#[],by rw[q];simp⟩⟩
theorem Un.refl:Un fs ex H H h h:=Un.kept fun _ _ q=>q
theorem Un.laid(k:∀b u,h.get? b=some u→h'.get? b=some u)(hp:h.objs.size≤a)(hn:H a=none):Un fs ex H (upd H a o) h h' where
 keep:=fun b u q _ _ _=>k b u q
 slot:=fun b u q _ _ _=>⟨u.slots,k b u q⟩
 free:=fun b u q n _=>by rw[aj (Nat.ne_of_lt (Nat.lt_of_lt_of_le (Λ q) hp))];exact n
 there:=fun b u q _=>⟨u,k b u q⟩
 cO:=fun b xs q=>by rw[aj (aG q hn)];exact q
 mV:=fun b u xs q=>by rw[aj (aG q hn)];exact q
 oY:=fun b ps q=>⟨#[],by rw[aj (aG q hn),q];simp⟩
theorem Un.write(mu:RX (H x))(he:e=x∨H e=some (.own x))(k:∀b u,b≠e→h.get? b=some u→h'.get? b=some u)(QZ:∃u,h'.get? e=some u):Un fs ex H (upd H x o) h h':=by
 have hx:∀b,H b=none→b≠x:=fun b n z=>by subst z;rw[n]at mu;exact mu
 have hb:∀b,H b=none→b≠e:=fun b n z=>by
  subst z;rcases he with r|r
  ·exact hx b n r
  ·rw[n]at r;cases r
 have hm:∀b u,H b=some u→¬RX (some u)→b≠x:=fun b u q nm z=>by subst z;rw[q]at mu;exact nm mu
 refine⟨fun b u q n _ _=>k b u (hb b n) q,fun b u q n _ _=>⟨u.slots,k b u (hb b n) q⟩,fun b u q n _=>by rw[aj (hx b n)];exact n,fun b u q _=>?_,
  fun b xs q=>by rw[aj (hm b _ q fun z=>z)];exact q,fun b u xs q=>by rw[aj (hm b _ q fun z=>z)];exact q,fun b ps q=>⟨#[],by rw[aj (hm b _ q fun z=>z),q];simp⟩⟩
 by_cases OL:b=e
 ·subst OL;exact QZ
 ·exact⟨u,k b u OL q⟩
end
def Vn(h:Heap)(H:Hp):List Addr:=(List.range h.objs.size).filter fun a=>(H a).isSome
def zx(h:Heap)(H:Hp):Heap:=PySem.W.hideAll h (Vn h H)
theorem He(h:Heap)(H:Hp):(zx h H).objs.size=h.objs.size:=PySem.W.hideAll_size _ _
theorem Jp{h:Heap}{H:Hp}{b:Addr}{o:Obj}(e:h.get? b=some o)(n:H b=none):(zx h H).get? b=some o:=
 PySem.W.hideAll_get _ e fun hm=>by
  have q:(H b).isSome=true:=(List.mem_filter.mp hm).2;rw[n]at q;simp at q
theorem LC{h:Heap}{H:Hp}{b:Addr}{o:Obj}(e:(zx h H).get? b=some o):h.get? b=some o∧H b=none:=by
 have e':h.get? b=some o:=PySem.W.of_hideAll (Vn h H) e;refine⟨e',?_⟩;cases q:H b with
 |none=>rfl
 |some x=>
  have hm:b∈Vn h H:=List.mem_filter.mpr ⟨List.mem_range.mpr (Λ e'),by simp[q]⟩;have z:(zx h H).get? b=none:=PySem.W.hideAll_none (Vn h H) hm;rw[z]at e;cases e
def LD(g h:Heap)(L:Addr):List (Addr×Obj):=(List.range h.objs.size).filterMap fun a=>if a=L∨(g.get? a).isSome=true then none else(h.get? a).map fun o=>(a,o)
def rest(g h:Heap)(L d:Addr):List (Addr×Obj):=(LD g h L).filter fun p=>decide (p.1≠d)
structure Mod(K:PySem.W.Frag)(mg:Str→Option Value)(base:Heap):Prop where
 Q0:K.In base
 glob:base.Ns mainGlobals mg
 blt:∃mb,base.Ns builtinsNs mb∧∀x:Str,x≠"__name__"→mb x=bootBuiltins x
 nolimit:base.NoLimit
structure Cx where
 prog:Program
 w:World
 K:PySem.W.Frag
 mg:Str→Option Value
 base:Heap
 A:Around
 N:List Str
 dB:Shared
 fC:Hp
 env:Env
 outer:List Env
 stack:List Env
 ex:List Addr
 fn:Str→Bool
 calm:Bool
 pn:List (Addr×Obj)
 xe:Value→Shared→Prop
def mW(l:List Env):List Addr:=l.filterMap (·.frame)
abbrev Cx.fs(X:Cx):List Addr:=mW X.outer
def Wv(sc:Scope)(x:Str):Prop:=sc.names.lookup x=some .local∨sc.names.lookup x=some .cell∨sc.names.lookup x=some .free
def Loc(sc:Scope)(x:Str):Prop:=sc.names.lookup x=some .local∨sc.names.lookup x=some .cell
def Look(env:Env)(h:Heap)(m:Str→Option Value)(x:Str)(u:Value):Prop:=
 (env.kindOf x=some .local∧m x=some u)∨((env.kindOf x=some .cell∨env.kindOf x=some .free)∧∃c,env.cells.lookup x=some c∧h.IsCell c (some u))
structure Cx.Ok(X:Cx):Prop where
 mod:Mod X.K X.mg X.base
 kind:X.env.scope.kind= .function
 glob:X.env.globals=mainGlobals
 blt:X.env.builtins=builtinsNs
 above:X.dB.heap.objs.size≤X.env.locals
 inj:∀x y c,X.env.cells.lookup x=some c→X.env.cells.lookup y=some c→x=y
 has:∀x,(X.env.kindOf x=some .cell∨X.env.kindOf x=some .free)→∃c,X.env.cells.lookup x=some c
 RZ:∀x c,X.fn x=true→X.env.cells.lookup x=some c→X.dB.heap.objs.size≤c
 hd:X.calm=true→X.A.handled=none
 frames:X.A.frames=some X.stack
 Vo:X.stack=X.outer∨(X.stack=X.env::X.outer∧X.env.frame=some X.env.locals)
 Y9:∀b∈X.ex,b≠X.env.locals∧∀x c,X.env.cells.lookup x=some c→c≠b
 bs:∀b o,X.base.get? b=some o→X.dB.heap.get? b=some o∧X.fC b=none
 LF:X.base.objs.size≤X.dB.heap.objs.size
 Jq:∀b o,X.base.get? b=some o→b∉X.ex
 LG:∀b∈X.ex,b∉X.fs
 uA:X.dB.heap.FunFrames X.base X.outer
 OM:∀b∈X.fs,X.fC b=none
structure Inv(X:Cx)(pins:List (Addr×Obj))(σ:List (Option V))(H:Hp)(s:Shared):Prop where
 ok:X.Ok
 os:s.os=X.dB.os
 bare:AllBare s.gens
 base:Un X.fs X.ex X.fC H X.dB.heap s.heap
 loc:∃m,s.heap.Ns X.env.locals m∧∀(i:Nat)(x:Str)(v:V),X.N[i]?=some x→σ[i]?=some (some v)→Wv X.env.scope x→∃u,RelV v u∧Look X.env s.heap m x u
 cell:∀x c,X.env.cells.lookup x=some c→∃v,s.heap.IsCell c v
 free:H X.env.locals=none
 jg:∀x c,X.env.cells.lookup x=some c→H c=none
 pin:∀p∈X.pn++pins,s.heap.get? p.1=some p.2∧H p.1=none∧p.1≠X.env.locals∧p.1∉X.fs∧∀v,p.2.data≠ .cell v
 cC:mM X.prog X.w H s.heap
 len:σ.length=X.N.length
section
variable{X:Cx}{pins:List (Addr×Obj)}{σ:List (Option V)}{H H':Hp}{s:Shared}{h':Heap}
theorem Cx.Ok.Ww(ok:X.Ok){b:Addr}{o:Obj}(e:X.base.get? b=some o):b∉X.fs:=fun hb=>by
 have:=(ok.uA.mem hb).1;rw[e]at this;cases this
theorem Inv.bs(I:Inv X pins σ H s):∀b o,X.base.get? b=some o→s.heap.get? b=some o∧H b=none:=fun b o e=>
 ⟨I.base.keep b o (I.ok.bs b o e).1 (I.ok.bs b o e).2 (I.ok.Ww e) (I.ok.Jq b o e),I.base.free b o (I.ok.bs b o e).1 (I.ok.bs b o e).2 (I.ok.Jq b o e)⟩
theorem Inv.bk(I:Inv X pins σ H s):∀b o,X.base.get? b=some o→s.heap.get? b=some o:=fun b o e=>(I.bs b o e).1
theorem Inv.mod(I:Inv X pins σ H s):Mod X.K X.mg X.base:=I.ok.mod
theorem Inv.pZ(I:Inv X pins σ H s):X.K.In s.heap:=I.ok.mod.Q0.keeps I.bk
theorem Inv.lt(I:Inv X pins σ H s):X.env.locals<s.heap.objs.size:=let ⟨_,hn,_⟩:=I.loc;hn.lt
theorem Inv.sz(I:Inv X pins σ H s):X.dB.heap.objs.size≤s.heap.objs.size:=Nat.le_trans I.ok.above (Nat.le_of_lt I.lt)
theorem Inv.Wx(I:Inv X pins σ H s){a:Addr}(h:s.heap.objs.size≤a):a∉X.fs:=fun hb=>by
 obtain⟨_,o,ho,_⟩:=I.ok.uA.mem hb;exact absurd (Nat.lt_of_lt_of_le (Λ ho) (Nat.le_trans I.sz h)) (Nat.lt_irrefl _)
theorem Inv.Jr(I:Inv X pins σ H s):∀x c,X.env.cells.lookup x=some c→c≠X.env.locals:=fun x c e z=>by
 obtain⟨v,o,ho,hd⟩:=I.cell x c e;obtain⟨m,⟨o',es,ep,ON,Q2,_⟩,_⟩:=I.loc;rw[z,ON]at ho;cases ho;rw[Q2]at hd;cases hd
theorem Inv.uA(I:Inv X pins σ H s):s.heap.FunFrames X.base X.outer:=by
 have all:∀(l:List Env),(∀b∈mW l,b∈X.fs)→X.dB.heap.FunFrames X.base l→s.heap.FunFrames X.base l:=by
  intro l
  induction l with
  |nil=>intro _ _;trivial
  |cons env r ih=>
   intro hs hl;obtain⟨hk,⟨L,o,hf,hn,ho,hd⟩,hr⟩:=hl;have hL:L∈X.fs:=hs L (by unfold mW;rw[List.filterMap_cons,hf];exact List.mem_cons_self);obtain⟨sl,e⟩:=I.base.slot L o ho (I.ok.OM L hL) hL fun z=>I.ok.LG L z hL
   exact⟨hk,⟨L,_,hf,hn,e,hd⟩,ih (fun b hb=>hs b (by unfold mW;rw[List.filterMap_cons,hf];exact List.mem_cons_of_mem _ hb)) hr⟩
 exact all X.outer (fun _ hb=>hb) I.ok.uA
theorem Inv.stack(I:Inv X pins σ H s):s.heap.FunFrames X.base X.stack:=by
 rcases I.ok.Vo with e|⟨e,hf⟩
 ·rw[e];exact I.uA
 ·rw[e];obtain⟨m,hn,_⟩:=I.loc;refine .cons (by rw[I.ok.kind];decide) hf hn ?_ I.uA;exact Heap.get?_none_of_le (Nat.le_trans I.ok.LF I.ok.above)
theorem Inv.vx(I:Inv X pins σ H s):∀b∈mW X.stack,b∈X.env.locals::X.fs:=fun b hb=>by
 rcases I.ok.Vo with e|⟨e,hf⟩
 ·rw[e]at hb;exact List.mem_cons_of_mem _ hb
 ·rw[e]at hb;unfold mW at hb;rw[List.filterMap_cons,hf]at hb;exact hb
theorem Inv.zy(I:Inv X pins σ H s):∀b∈mW X.stack,H b=none:=fun b hb=>by
 rcases List.mem_cons.mp (I.vx b hb)with e|hb
 ·rw[e];exact I.free
 ·obtain⟨_,o,ho,_⟩:=I.ok.uA.mem hb;exact I.base.free b o ho (I.ok.OM b hb) fun z=>I.ok.LG b z hb
theorem Inv.step{g':Array GenState}{t':Nat}{d':Drawn}{ch:List Addr}(I:Inv X pins σ H s)
  (Lm:∀b∈ch,(b∈X.ex∨X.dB.heap.objs.size≤b)∧b≠X.env.locals∧(∀x c,X.env.cells.lookup x=some c→c≠b)∧∀p∈X.pn++pins,p.1≠b)
  (keep:∀b o,b≠X.env.locals→b∉X.fs→b∉ch→s.heap.get? b=some o→H b=none→h'.get? b=some o)
  (slot:∀b o,b≠X.env.locals→b∈X.fs→b∉ch→s.heap.get? b=some o→H b=none→∃sl,h'.get? b=some {o with slots:=sl}) (free:∀b o,b∉ch→s.heap.get? b=some o→H b=none→H' b=none)
  (there:∀b o,b∉ch→s.heap.get? b=some o→∃o',h'.get? b=some o')
  (cO:∀b xs,H b=some (.tup xs)→H' b=some (.tup xs)) (mV:∀b o u,H b=some (.ve o u)→H' b=some (.ve o u)) (oY:∀b ps,H b=some (.LB ps)→∃more,H' b=some (.LB (ps++more)))
  (ns:∀m,s.heap.Ns X.env.locals m→h'.Ns X.env.locals m) (cC:mM X.prog X.w H' h') (hg:AllBare g'):
  Inv X pins σ H' {s with heap:=h',gens:=g',drawn:=d',toks:=t'}:=by
 have Y_:∀b o,X.dB.heap.get? b=some o→b≠X.env.locals:=fun b o e=>Nat.ne_of_lt (Nat.lt_of_lt_of_le (Λ e) I.ok.above)
 have Vp:∀b o,X.dB.heap.get? b=some o→b∉X.ex→b∉ch:=fun b o e hx hb=>by
  rcases(Lm b hb).1 with z|z
  ·exact hx z
  ·exact absurd (Nat.lt_of_lt_of_le (Λ e) z) (Nat.lt_irrefl _)
 have cellK:∀x c,X.env.cells.lookup x=some c→∀v,s.heap.IsCell c v→h'.IsCell c v:=fun x c e v ⟨o,ho,hd⟩=>by
  have R0:c∉ch:=fun z=>(Lm c z).2.2.1 x c e rfl
  by_cases hc:c∈X.fs
  ·obtain⟨sl,q⟩:=slot c o (I.Jr x c e) hc R0 ho (I.jg x c e);exact⟨_,q,hd⟩
  ·exact⟨o,keep c o (I.Jr x c e) hc R0 ho (I.jg x c e),hd⟩
 refine⟨I.ok,I.os,hg,⟨fun b o e n hb hx=>?_,fun b o e n hb hx=>?_,fun b o e n hx=>?_,fun b o e hx=>?_,fun b xs e=>cO b xs (I.base.cO b xs e),fun b o xs e=>mV b o xs (I.base.mV b o xs e),fun b ps e=>?_⟩,?_,fun x c e=>?_,?_,fun x c e=>?_,fun p hp=>?_,cC,I.len⟩
 ·exact keep b o (Y_ b o e) hb (Vp b o e hx) (I.base.keep b o e n hb hx) (I.base.free b o e n hx)
 ·obtain⟨sl,e1⟩:=I.base.slot b o e n hb hx;obtain⟨R1,e2⟩:=slot b _ (Y_ b o e) hb (Vp b o e hx) e1 (I.base.free b o e n hx);exact⟨R1,e2⟩
 ·obtain⟨o',e1⟩:=I.base.there b o e hx;exact free b o' (Vp b o e hx) e1 (I.base.free b o e n hx)
 ·obtain⟨o',e1⟩:=I.base.there b o e hx;exact there b o' (Vp b o e hx) e1
 ·obtain⟨m1,e1⟩:=I.base.oY b ps e;obtain⟨m2,e2⟩:=oY b _ e1;exact⟨m1++m2,by rw[e2,Array.append_assoc]⟩
 ·obtain⟨m,hn,hl⟩:=I.loc;refine⟨m,ns m hn,fun i x v e1 e2 e3=>?_⟩;obtain⟨u,r,l⟩:=hl i x v e1 e2 e3;refine⟨u,r,?_⟩;rcases l with l|⟨k,c,e,z⟩
  ·exact .inl l
  ·exact .inr ⟨k,c,e,cellK x c e _ z⟩
 ·obtain⟨v,z⟩:=I.cell x c e;exact⟨v,cellK x c e v z⟩
 ·obtain⟨m,⟨o,_,_,ho,_⟩,_⟩:=I.loc;exact free _ o (fun z=>(Lm _ z).2.1 rfl) ho I.free
 ·obtain⟨v,o,ho,hd⟩:=I.cell x c e;exact free c o (fun z=>(Lm c z).2.2.1 x c e rfl) ho (I.jg x c e)
 ·obtain⟨e,n,ne,nf,d⟩:=I.pin p hp;have R0:p.1∉ch:=fun z=>(Lm p.1 z).2.2.2 p hp rfl
  exact⟨keep p.1 p.2 ne nf R0 e n,free p.1 p.2 R0 e n,ne,nf,d⟩
theorem Inv.un{t':Nat}(I:Inv X pins σ H s)(u:Un X.fs [] H H' s.heap h')(cC:mM X.prog X.w H' h'):Inv X pins σ H' {s with heap:=h',toks:=t'}:=by
 obtain⟨m,⟨o,es,ep,ho,r⟩,_⟩:=id I.loc;obtain⟨sl,hL⟩:=u.any ho I.free XD;exact I.step (g':=s.gens) (d':=s.drawn) (ch:=[]) (fun _ z=>nomatch z) (fun b o _ hb _ e n=>u.keep b o e n hb XD) (fun b o _ hb _ e n=>u.slot b o e n hb XD) (fun b o _ e n=>u.free b o e n (Xx)) (fun b o _ e=>u.there b o e XD) u.cO u.mV u.oY (fun m' hm=>by
  obtain⟨o',OO,Vq,ON,r'⟩:=hm;rw[ho]at ON;cases ON;exact⟨_,OO,Vq,hL,r'⟩) cC I.bare
theorem Inv.call{g':Array GenState}{t':Nat}{d':Drawn}{ch:List Addr}(I:Inv X pins σ H s)(u:Un (mW X.stack) ch H H' s.heap h')(cC:mM X.prog X.w H' h')(hg:AllBare g')
  (Lm:∀b∈ch,(b∈X.ex∨X.dB.heap.objs.size≤b)∧b≠X.env.locals∧(∀x c,X.env.cells.lookup x=some c→c≠b)∧∀p∈X.pn++pins,p.1≠b):
  Inv X pins σ H' {s with heap:=h',gens:=g',drawn:=d',toks:=t'}:=by
 obtain⟨m,⟨o,es,ep,ho,r⟩,_⟩:=id I.loc;obtain⟨sl,hL⟩:=u.any ho I.free fun z=>(Lm _ z).2.1 rfl
 exact I.step (ch:=ch) Lm (fun b o hL hb hc e n=>u.keep b o e n (fun z=>(List.mem_cons.mp (I.vx b z)).elim hL hb) hc) (fun b o _ _ hc e n=>u.any e n hc) (fun b o hc e n=>u.free b o e n hc) (fun b o hc e=>u.there b o e hc) u.cO u.mV u.oY (fun m' hm=>by
  obtain⟨o',OO,Vq,ON,r'⟩:=hm;rw[ho]at ON;cases ON;exact⟨_,OO,Vq,hL,r'⟩) cC hg
theorem Inv.turned{t':Nat}{it:Addr}(I:Inv X pins σ H s)(k:∀b o,b≠it→s.heap.get? b=some o→h'.get? b=some o)(hn:H it=none)(hL:it≠X.env.locals)
  (h1:it∈X.ex∨X.dB.heap.objs.size≤it) (h2:∀x c,X.env.cells.lookup x=some c→c≠it) (h3:∀p∈X.pn++pins,p.1≠it):Inv X pins σ H {s with heap:=h',toks:=t'}:=by
 have Nu:∀b u,H b=some u→b≠it:=fun b u e z=>by rw[z,hn]at e;cases e
 refine I.step (g':=s.gens) (d':=s.drawn) (ch:=[it]) (fun b hb=>?_) (fun b o _ _ hc e _=>k b o (fun z=>hc (by simp[z])) e) (fun b o _ _ hc e _=>⟨o.slots,k b o (fun z=>hc (by simp[z])) e⟩) (fun _ _ _ _ n=>n)
  (fun b o hc e=>⟨o,k b o (fun z=>hc (by simp[z])) e⟩) (fun _ _ e=>e) (fun _ _ _ e=>e) (fun b ps e=>⟨#[],by rw[e];simp⟩) (fun m hm=>?_) (fun b u e=>?_) I.bare
 ·have e:b=it:=by simpa using hb
  subst e;exact⟨h1,hL,h2,h3⟩
 ·obtain⟨o,es,ep,ho,r⟩:=hm;exact⟨o,es,ep,k _ o (Ne.symm hL) ho,r⟩
 ·refine(I.cC b u e).pY (fun c v hc q=>k c v ?_ q) (fun _ q=>q) fun _ _ q=>q
  rcases hc with z|z
  ·rw[z];exact Nu b u e
  ·exact Nu c _ z
theorem Inv.tok(I:Inv X pins σ H s)(t:Nat):Inv X pins σ H {s with toks:=t}:=I.un (h':=s.heap) (t':=t) Un.refl I.cC
theorem Inv.kept{t':Nat}(I:Inv X pins σ H s)(k:∀b u,s.heap.get? b=some u→h'.get? b=some u):Inv X pins σ H {s with heap:=h',toks:=t'}:=I.un (Un.kept k) (I.cC.kept k)
theorem Inv.laid{a:Addr}{o:HO}{t':Nat}(I:Inv X pins σ H s)(k:∀b u,s.heap.get? b=some u→h'.get? b=some u)(hp:s.heap.objs.size≤a)(new:dn X.prog X.w (upd H a o) h' a o):
  Inv X pins σ (upd H a o) {s with heap:=h',toks:=t'}:=I.un (Un.laid k hp (I.cC.fresh hp)) (I.cC.laid k hp new)
theorem Inv.write{x e:Addr}{o:HO}{t':Nat}(I:Inv X pins σ H s)(mu:RX (H x))(he:e=x∨H e=some (.own x))(k:∀b u,b≠e→s.heap.get? b=some u→h'.get? b=some u)(QZ:∃u,h'.get? e=some u)
  (new:dn X.prog X.w (upd H x o) h' x o):Inv X pins σ (upd H x o) {s with heap:=h',toks:=t'}:=I.un (Un.write mu he k QZ) (I.cC.write mu he k QZ new)
theorem Inv.F6{Co:List (Addr×Obj)}(I:Inv X pins σ H s)(h:∀p∈Co,s.heap.get? p.1=some p.2∧H p.1=none∧p.1≠X.env.locals∧p.1∉X.fs∧∀v,p.2.data≠ .cell v):Inv X Co σ H s:=
 ⟨I.ok,I.os,I.bare,I.base,I.loc,I.cell,I.free,I.jg,fun p hp=>(List.mem_append.mp hp).elim (fun z=>I.pin p (List.mem_append_left _ z)) (h p),I.cC,I.len⟩
theorem vy{N:List Str}(hN:N.Nodup){i j:Nat}{x:Str}(a:N[i]?=some x)(b:N[j]?=some x):i=j:=by
 obtain⟨h1,e1⟩:=Η a;obtain⟨h2,e2⟩:=Η b;exact(List.getElem_inj hN).mp (e1.trans e2.symm)
theorem yQ{M:Model}{A:Around}{E:Value→Shared→Prop}{i:Nat}{x:Str}{v:V}{u:Value}{Q:Unit→Shared→Prop}(I:Inv X pins σ H s)(hN:X.N.Nodup)(hi:X.N[i]?=some x)(hx:Loc X.env.scope x)(r:RelV v u)
  (h:∀s',Inv X pins (σ.set i (some v)) H s'→(∃a,Heap.SameBut a s.heap s'.heap∧(a=X.env.locals∨X.env.cells.lookup x=some a))→Q () s') (hf:X.fn x=true∨X.env.scope.names.lookup x=some .local:=by first|exact .inl rfl|exact .inr rfl|assumption):wpAny M A (storeName X.env x u) Q E s:=by
 obtain⟨m,hn,hl⟩:=id I.loc;have OP:(X.env.scope.kind== .class||(X.env.scope.kind== .module&&X.env.locals !=X.env.globals))=false:=by rw[I.ok.kind];rfl
 have LH:i<σ.length:=by rw[I.len];exact(Η hi).1
 have Jr:=I.Jr;have tracked:∀{a:Addr}{h':Heap},(∃o,s.heap.get? a=some o∧H a=none)→Heap.SameBut a s.heap h'→mM X.prog X.w H h':=fun{a h'} ha hs b ob e=>by
  obtain⟨_,_,F8⟩:=ha;refine(I.cC b ob e).pY (fun c w' hc q=>(hs.2 c ?_).trans q) (fun _ q=>q) fun _ _ q=>q
  rintro rfl;rcases hc with rfl|hc
  ·rw[F8]at e;cases e
  ·rw[F8]at hc;cases hc
 rcases hx with hk|hk
 ·refine wpAny_storeName_local hk hn (fun h' D_ hs=>?_) OP;obtain⟨oL,_,_,Js,_⟩:=id hn;refine h _ ⟨I.ok,I.os,I.bare,⟨fun b o e n hb hx=>?_,fun b o e n hb hx=>?_,I.base.free,fun b o e hx=>?_,I.base.cO,I.base.mV,I.base.oY⟩,⟨_,D_,fun j y v' e1 e2 e3=>?_⟩,fun y c e=>?_,I.free,I.jg,fun p hp=>?_,tracked ⟨oL,Js,I.free⟩ hs,by simpa using I.len⟩ ⟨_,hs, .inl rfl⟩
  ·exact(hs.2 b (Nat.ne_of_lt (Nat.lt_of_lt_of_le (Λ e) I.ok.above))).trans (I.base.keep b o e n hb hx)
  ·obtain⟨sl,e1⟩:=I.base.slot b o e n hb hx;exact⟨sl,(hs.2 b (Nat.ne_of_lt (Nat.lt_of_lt_of_le (Λ e) I.ok.above))).trans e1⟩
  ·obtain⟨o',e1⟩:=I.base.there b o e hx;exact⟨o',(hs.2 b (Nat.ne_of_lt (Nat.lt_of_lt_of_le (Λ e) I.ok.above))).trans e1⟩
  ·by_cases hj:j=i
   ·subst hj;rw[hi]at e1;cases e1;rw[List.getElem?_set_self LH]at e2;cases e2;exact⟨u,r, .inl ⟨hk,Xx⟩⟩
   ·rw[List.getElem?_set_ne (Ne.symm hj)]at e2;obtain⟨u',r',q⟩:=hl j y v' e1 e2 e3;refine⟨u',r',?_⟩;rcases q with⟨k,e⟩|⟨k,c,e,z⟩
    ·refine .inl ⟨k,?_⟩;have:y≠x:=fun e=>hj (vy hN e1 (e▸hi))
     simp[this,e]
    ·exact .inr ⟨k,c,e,z.sameBut hs (Jr y c e)⟩
  ·obtain⟨w',z⟩:=I.cell y c e;exact⟨w',z.sameBut hs (Jr y c e)⟩
  ·obtain⟨e,n,ne,nf,d⟩:=I.pin p hp;exact⟨(hs.2 p.1 ne).trans e,n,ne,nf,d⟩
 ·have Wz:X.fn x=true:=by
   rcases hf with z|z
   ·exact z
   ·rw[z]at hk;cases hk
  obtain⟨c,hc⟩:=I.ok.has x (.inl hk);obtain⟨w',z⟩:=I.cell x c hc;refine wpAny_storeName_cell I.ok.kind hk hc z (fun h' OQ hs=>?_);obtain⟨oc,Y',WA⟩:=id z;refine h {s with heap:=h'} ⟨I.ok,I.os,I.bare,⟨fun b o e n hb hx=>?_,fun b o e n hb hx=>?_,I.base.free,fun b o e hx=>?_,I.base.cO,I.base.mV,I.base.oY⟩,⟨m,hn.sameBut hs (Ne.symm (Jr x c hc)),fun j y v' e1 e2 e3=>?_⟩,fun y c' e=>?_,I.free,I.jg,fun p hp=>?_,tracked ⟨oc,Y',I.jg x c hc⟩ hs,by simpa using I.len⟩ ⟨c,hs, .inr hc⟩
  ·exact(hs.2 b (Nat.ne_of_lt (Nat.lt_of_lt_of_le (Λ e) (I.ok.RZ x c Wz hc)))).trans (I.base.keep b o e n hb hx)
  ·obtain⟨sl,e1⟩:=I.base.slot b o e n hb hx;exact⟨sl,(hs.2 b (Nat.ne_of_lt (Nat.lt_of_lt_of_le (Λ e) (I.ok.RZ x c Wz hc)))).trans e1⟩
  ·obtain⟨o',e1⟩:=I.base.there b o e hx;exact⟨o',(hs.2 b (Nat.ne_of_lt (Nat.lt_of_lt_of_le (Λ e) (I.ok.RZ x c Wz hc)))).trans e1⟩
  ·by_cases hj:j=i
   ·subst hj;rw[hi]at e1;cases e1;rw[List.getElem?_set_self LH]at e2;cases e2;exact⟨u,r, .inr ⟨.inl hk,c,hc,OQ⟩⟩
   ·rw[List.getElem?_set_ne (Ne.symm hj)]at e2;obtain⟨u',r',q⟩:=hl j y v' e1 e2 e3;refine⟨u',r',?_⟩;rcases q with q|⟨k,c',e,z'⟩
    ·exact .inl q
    ·refine .inr ⟨k,c',e,z'.sameBut hs ?_⟩;rintro rfl;exact hj (vy hN e1 (I.ok.inj _ _ _ e hc▸hi))
  ·by_cases Za:c'=c
   ·subst Za;exact⟨_,OQ⟩
   ·obtain⟨w2,z2⟩:=I.cell y c' e;exact⟨w2,z2.sameBut hs Za⟩
  ·obtain⟨e,n,ne,nf,d⟩:=I.pin p hp;refine⟨(hs.2 p.1 ?_).trans e,n,ne,nf,d⟩;intro q;rw[q,Y']at e;have q':oc=p.2:=Ρ e;exact d w' (by rw[←q'];exact WA)
theorem vz{M:Model}{A:Around}{E:Value→Shared→Prop}{i:Nat}{x:Str}{v:V}{u:Value}{Q:Unit→Shared→Prop}(I:Inv X pins σ H s)(hN:X.N.Nodup)(hi:X.N[i]?=some x)(hx:Loc X.env.scope x)(r:RelV v u)
  (h:∀s',Inv X pins (σ.set i (some v)) H s'→Q () s') (hf:X.fn x=true∨X.env.scope.names.lookup x=some .local:=by first|exact .inl rfl|exact .inr rfl|assumption):wpAny M A (storeName X.env x u) Q E s:=
 yQ I hN hi hx r (fun s' I' _=>h s' I') hf
theorem Inv.Nv{s':Shared}{ch:List Addr}(I:Inv X pins σ H s)(ho:s'.os=s.os)(u:Un (mW X.stack) ch H H' s.heap s'.heap)(cC:mM X.prog X.w H' s'.heap)(hg:AllBare s'.gens)
  (Lm:∀b∈ch,(b∈X.ex∨X.dB.heap.objs.size≤b)∧b≠X.env.locals∧(∀x c,X.env.cells.lookup x=some c→c≠b)∧∀p∈X.pn++pins,p.1≠b):Inv X pins σ H' s':=by
 obtain⟨h',g',d',t',o'⟩:=s';have e:o'=s.os:=ho;subst e;exact I.call (g':=g') (t':=t') (d':=d') u cC hg Lm
end
abbrev XK:=Value→Option Addr→Hp→Prop
abbrev St:=List (Option V)
abbrev VK:=V→Hp→Prop
abbrev TE:=St→Hp→VK→Prop
abbrev TT:=St→Hp→(Bool→Hp→Prop)→Prop
abbrev TA:=St→Hp→(List V→Hp→Prop)→Prop
structure Ends where
 nx:St→Hp→Prop
 rt:VK
 bk:St→Hp→Prop:=fun _ _=>False
 ct:St→Hp→Prop:=fun _ _=>False
abbrev TS:=Ends→St→Hp→Prop
def EP(X:Cx)(pins:List (Addr×Obj))(σ:St)(Q:VK)(u:Value)(s':Shared):Prop:=∃v H',Inv X pins σ H' s'∧RelV v u∧Q v H'
def TP(X:Cx)(pins:List (Addr×Obj))(σ:St)(Q:Bool→Hp→Prop)(b:Bool)(s':Shared):Prop:=∃H',Inv X pins σ H' s'∧Q b H'
def AP(X:Cx)(pins:List (Addr×Obj))(σ:St)(Q:List V→Hp→Prop)(us:List Value)(s':Shared):Prop:=∃vs H',Inv X pins σ H' s'∧Vals vs us∧Q vs H'
def SP(X:Cx)(pins:List (Addr×Obj))(D:Ends)(f:Flow)(s':Shared):Prop:=
 match f with
 | .next=>∃bG H',Inv X pins bG H' s'∧D.nx bG H'
 | .brk=>∃bG H',Inv X pins bG H' s'∧D.bk bG H'
 | .cont=>∃bG H',Inv X pins bG H' s'∧D.ct bG H'
 | .ret u=>∃v bG H',Inv X pins bG H' s'∧RelV v u∧D.rt v H'
def PE(X:Cx)(e:Expr)(t:TE):Prop:=
 ∀(pins:List (Addr×Obj))(s:Shared)(σ:St)(H:Hp)(Q:VK),Inv X pins σ H s→t σ H Q→wpAny (model X.prog X.w) X.A (eval e X.env) (EP X pins σ Q) X.xe s
def PT(X:Cx)(e:Expr)(t:TT):Prop:=
 ∀(pins:List (Addr×Obj))(s:Shared)(σ:St)(H:Hp)(Q:Bool→Hp→Prop),Inv X pins σ H s→t σ H Q→wpAny (model X.prog X.w) X.A (isTrue e X.env (eval e X.env)) (TP X pins σ Q) X.xe s
def PW(X:Cx)(e:Expr)(t:TT):Prop:=
 ∀(whole:Sem Value)(pins:List (Addr×Obj))(s:Shared)(σ:St)(H:Hp)(Q:Bool→Hp→Prop),Inv X pins σ H s→t σ H Q→wpAny (model X.prog X.w) X.A (isTrue e X.env whole) (TP X pins σ Q) X.xe s
theorem PW.pt{X:Cx}{e:Expr}{t:TT}(h:PW X e t):PT X e t:=h _
def PA(X:Cx)(es:List Expr)(t:TA):Prop:=
 ∀(pos:Pos)(pins:List (Addr×Obj))(s:Shared)(σ:St)(H:Hp)(Q:List V→Hp→Prop),Inv X pins σ H s→t σ H Q→wpAny (model X.prog X.w) X.A (spliced (backTo pos (starEach es X.env))) (AP X pins σ Q) X.xe s
def PS(X:Cx)(st:Stmt)(t:TS):Prop:=
 ∀(pins:List (Addr×Obj))(s:Shared)(σ:St)(H:Hp)(D:Ends),Inv X pins σ H s→t D σ H→wpAny (model X.prog X.w) X.A (exec st X.env) (SP X pins D) X.xe s
def Ea(X:Cx)(st:List Stmt)(t:TS):Prop:=
 ∀(pins:List (Addr×Obj))(s:Shared)(σ:St)(H:Hp)(D:Ends),Inv X pins σ H s→t D σ H→wpAny (model X.prog X.w) X.A (execs st X.env) (SP X pins D) X.xe s
theorem cY{α:Type}{t:Sem α}{Q Q':α→Shared→Prop}{M:Model}{A:Around}{E:Value→Shared→Prop}{s:Shared}(h:wpAny M A t Q E s)(hQ:∀a s,Q a s→Q' a s):wpAny M A t Q' E s:=wpAny_mono h hQ fun _ _ x=>x
section
variable{X:Cx}
theorem bin{a b:Expr}{ta tb:TE}(ha:PE X a ta)(hb:PE X b tb){pins:List (Addr×Obj)}{s:Shared}{σ:St}{H:Hp}{R:V→V→Hp→Prop}(I:Inv X pins σ H s)(h:ta σ H fun x H1=>tb σ H1 fun y H2=>R x y H2)
  {α:Type} {Q:α→Shared→Prop} {f:Value→Value→Sem α}
  (hf:∀v u s2 x y H2,Inv X pins σ H2 s2→RelV x v→RelV y u→R x y H2→wpAny (model X.prog X.w) X.A (f v u) Q X.xe s2):
  wpAny (model X.prog X.w) X.A (eval a X.env) (fun v cM=>wpAny (model X.prog X.w) X.A (eval b X.env) (fun u r4=>wpAny (model X.prog X.w) X.A (f v u) Q X.xe r4) X.xe cM) X.xe s:=by
 refine cY (ha pins s σ H _ I h) fun v s1 ⟨x,H1,I1,r1,q1⟩=>?_
 refine cY (hb pins s1 σ H1 _ I1 q1) fun u s2 ⟨y,H2,I2,r2,q2⟩=>?_
 exact hf v u s2 x y H2 I2 r1 r2 q2
inductive OR(i:Nat)(σ:St)(H:Hp)(Q:VK):Prop
 |mk (v:_) (_:σ[i]?=some (some v)) (_:Q v H):OR i σ H Q
def tC(v:V):TE:=fun _ H Q=>Q v H
theorem OS{i:Nat}{x:Str}{pos:Pos}(hN:X.N[i]?=some x)(hv:Wv X.env.scope x)(hd:(x==("__debug__":Str))=false:=by decide)(Hf:(x==("__classdict__":Str))=false:=by decide):PE X (.Name x pos) (OR i):=by
 intro pins s σ H Q I h;obtain⟨v,e,h⟩:=h;obtain⟨m,hn,hl⟩:=I.loc;obtain⟨u,r,l⟩:=hl i x v hN e hv;have fin:EP X pins σ Q u s:=⟨v,H,I,r,h⟩
 rcases l with⟨hk,hm⟩|⟨hk,c,hc,Nw⟩
 ·exact wpAny_Name (wpAny_loadName_local I.ok.kind hk hn hm fin) hd
 ·rcases hk with hk|hk
  ·exact wpAny_Name (wpAny_loadName_cell I.ok.kind hk hc Nw fin) hd
  ·exact wpAny_Name (wpAny_loadName_free I.ok.kind hk hc Nw fin Hf) hd
theorem ar{i j pos}:PE X (.Constant (.int i) j pos) (tC (.int i)):=fun _ _ _ H _ I h=>wpAny_Constant_int ⟨.int i,H,I.tok _,⟨_,rfl⟩,h⟩
theorem j1{b j pos}:PE X (.Constant (.bool b) j pos) (tC (.bl b)):=fun _ _ _ H _ I h=>Constant_bool ⟨.bl b,H,I,rfl,h⟩
theorem lM{j pos}:PE X (.Constant .none j pos) (tC .cF):=fun _ _ _ H _ I h=>Constant_none ⟨.cF,H,I,rfl,h⟩
theorem bh{x j pos}:PE X (.Constant (.str x) j pos) (tC (.str x)):=fun _ _ _ H _ I h=>Calls.Constant_str ⟨.str x,H,I.tok _,⟨_,rfl⟩,h⟩
def Gl(X:Cx)(x:Str):Prop:=X.env.kindOf x=some .globalImplicit
theorem nU{E:Value→Shared→Prop}{pins:List (Addr×Obj)}{s:Shared}{σ:St}{H:Hp}{x:Str}{u:Value}{pos:Pos}{Q:Value→Shared→Prop}(I:Inv X pins σ H s)(hg:Gl X x)(hm:X.mg x=some u)(h:Q u s)
  (hd:(x==("__debug__":Str))=false:=by decide):wpAny (model X.prog X.w) X.A (eval (.Name x pos) X.env) Q E s:=
 Calls.Name_function_global I.ok.kind hg (Calls.loadGlobal_global (by rw[I.ok.glob];exact I.mod.glob.keeps I.bk) hm h) hd
theorem mY{E:Value→Shared→Prop}{pins:List (Addr×Obj)}{s:Shared}{σ:St}{H:Hp}{x:Str}{u:Value}{pos:Pos}{Q:Value→Shared→Prop}(I:Inv X pins σ H s)(hg:Gl X x)(hm:X.mg x=none)(hv:bootBuiltins x=some u)(h:Q u s)
  (hn:x≠"__name__":=by decide) (hd:(x==("__debug__":Str))=false:=by decide):wpAny (model X.prog X.w) X.A (eval (.Name x pos) X.env) Q E s:=by
 obtain⟨mb,h1,h2⟩:=I.mod.blt;exact Calls.Name_function_global I.ok.kind hg (Calls.loadGlobal_builtin (by rw[I.ok.glob];exact I.mod.glob.keeps I.bk) hm (by rw[I.ok.blt];exact h1.keeps I.bk) ((h2 x hn).trans hv) h) hd
theorem d3{x:Str}{v:V}{u:Value}{pos:Pos}(hg:Gl X x)(hm:X.mg x=some u)(r:RelV v u)(hd:(x==("__debug__":Str))=false:=by decide):PE X (.Name x pos) (tC v):=
 fun _ _ _ H _ I h=>nU I hg hm ⟨v,H,I,r,h⟩ hd
theorem nV{x:Str}{v:V}{u:Value}{pos:Pos}(hg:Gl X x)(hm:X.mg x=none)(hv:bootBuiltins x=some u)(r:RelV v u)(hn:x≠"__name__":=by decide)(hd:(x==("__debug__":Str))=false:=by decide):PE X (.Name x pos) (tC v):=
 fun _ _ _ H _ I h=>mY I hg hm hv ⟨v,H,I,r,h⟩ hn hd
variable{a b:Expr}{ta tb:TE}{pos:Pos}
def PC(X:Cx)(op:CmpOp)(a b:Expr)(t:TE):Prop:=
 ∀(pins:List (Addr×Obj))(s:Shared)(σ:St)(H:Hp)(Q:VK),Inv X pins σ H s→t σ H Q→
  wpAny (model X.prog X.w) X.A (eval a X.env) (fun v cM=>wpAny (model X.prog X.w) X.A (eval b X.env) (fun u r4=>wpAny (model X.prog X.w) X.A (compareOp op v u) (EP X pins σ Q) X.xe r4) X.xe cM) X.xe s
theorem cP(b:Expr){op:CmpOp}(h:op≠ .In)(h2:op≠ .NotIn):behindInMarks op b=false:=by
 have e1:(op==CmpOp.In)=false:=by cases op<;>first|rfl|exact absurd rfl h
 have e2:(op==CmpOp.NotIn)=false:=by cases op<;>first|rfl|exact absurd rfl h2
 cases b<;>simp[behindInMarks,e1,e2]
def WB(ta:TE):TE:=fun σ H Q=>ta σ H fun x H1=>Q (.bl (decide (x= .cF))) H1
def R3(ta:TE):TE:=fun σ H Q=>ta σ H fun x H1=>Q (.bl (!decide (x= .cF))) H1
theorem RelV.Cp{x:V}{v:Value}(r:RelV x v):(v==Value.none)=decide (x= .cF):=by
 cases x with
 |cF=>cases r;rfl
 |bl _=>cases r;rfl
 |int _=>obtain⟨t,rfl⟩:=r;rfl
 |str _=>obtain⟨t,rfl⟩:=r;rfl
 |Hd _=>obtain⟨t,rfl⟩:=r;rfl
 |Nt _=>obtain⟨t,rfl⟩:=r;rfl
 |ref _=>cases r;rfl
 |ty _=>cases r;rfl
theorem r6{j pos'}(ha:PE X a ta):PC X .Is a (.Constant .none j pos') (WB ta):=by
 intro pins s σ H Q I h;refine cY (ha pins s σ H _ I h) fun v s1 ⟨x,H1,I1,r1,q1⟩=>?_
 exact Constant_none (is_none_gen ⟨.bl _,H1,I1,by rw[r1.Cp];rfl,q1⟩)
theorem zA{j pos'}(ha:PE X a ta):PC X .IsNot a (.Constant .none j pos') (R3 ta):=by
 intro pins s σ H Q I h;refine cY (ha pins s σ H _ I h) fun v s1 ⟨x,H1,I1,r1,q1⟩=>?_
 exact Constant_none (isnot_none_gen ⟨.bl _,H1,I1,by rw[r1.Cp];rfl,q1⟩)
inductive R4(x:V)(H:Hp)(Q:Bool→Hp→Prop):Prop
 |mk (c:Bool) (_:x= .bl c) (_:Q c H):R4 x H Q
def tB(t:TE):TT:=fun σ H Q=>t σ H fun x H1=>R4 x H1 Q
theorem Jt{op:CmpOp}{t:TE}(h:PC X op a b t)(h1:behindInMarks op b=false:=by first|exact cP _ (QY) (QY)|rfl):PE X (.Compare a [op] [b] pos) t:=fun pins s σ H Q I hw=>wpAny_Compare1 (h pins s σ H Q I hw) h1
theorem ip{op:CmpOp}{t:TE}(h:PC X op a b t)(h1:behindInMarks op b=false:=by first|exact cP _ (QY) (QY)|rfl):PT X (.Compare a [op] [b] pos) (tB t):=by
 intro pins s σ H Q I hw;refine wpAny_isTrue_Compare1 (cY (h pins s σ H _ I hw) fun v s1 h1=>cY h1 fun u s2 h2=>cY h2 fun c s3 ⟨x,H1,I1,r1,q1⟩=>?_) h1;obtain⟨d,rfl,q⟩:=q1;cases r1;exact wpAny_truthy_bool ⟨H1,I1,q⟩
theorem cZ{e:Expr}{t:TE}(h:PE X e t)(he:∀whole,isTrue e X.env whole=(do let v←whole;standAt e.pos;holding [v] (truthy v)):=by intro _;rfl):PT X e (tB t):=by
 intro pins s σ H Q I hw;refine isTrue_plain (cY (h pins s σ H _ I hw) fun v s1 ⟨x,H1,I1,r1,q1⟩=>?_) (he _);obtain⟨d,rfl,q⟩:=q1;cases r1;exact wpAny_truthy_bool ⟨H1,I1,q⟩
variable{tA Vr:TT}{rest:List Expr}
def WC(t u:TT):TT:=fun σ H Q=>t σ H fun c H1=>if c=true then u σ H1 Q else Q false H1
def tOr(t u:TT):TT:=fun σ H Q=>t σ H fun c H1=>if c=true then Q true H1 else u σ H1 Q
def WD(t:TT):TT:=fun σ H Q=>t σ H fun c H1=>Q (!c) H1
theorem pw_and1(ha:PT X a tA):PW X (.BoolOp .And [a] pos) tA:=by
 intro wh pins s σ H Q I h;refine isTrue_and (cY (ha pins s σ H Q I h) fun c s1 e=>?_);cases c with
 |true=>exact isTrue_and_nil e
 |false=>exact e
theorem pw_or1(ha:PT X a tA):PW X (.BoolOp .Or [a] pos) tA:=by
 intro wh pins s σ H Q I h;refine isTrue_or (cY (ha pins s σ H Q I h) fun c s1 e=>?_);cases c with
 |false=>exact isTrue_or_nil e
 |true=>exact e
theorem pw_and(ha:PT X a tA)(hb:PW X (.BoolOp .And (b::rest) pos) Vr):PW X (.BoolOp .And (a::b::rest) pos) (WC tA Vr):=by
 intro wh pins s σ H Q I h;refine isTrue_and (cY (ha pins s σ H _ I h) fun c s1 ⟨H1,I1,q1⟩=>?_);cases c with
 |true=>exact hb wh pins s1 σ H1 Q I1 q1
 |false=>exact⟨H1,I1,q1⟩
theorem pw_or(ha:PT X a tA)(hb:PW X (.BoolOp .Or (b::rest) pos) Vr):PW X (.BoolOp .Or (a::b::rest) pos) (tOr tA Vr):=by
 intro wh pins s σ H Q I h;refine isTrue_or (cY (ha pins s σ H _ I h) fun c s1 ⟨H1,I1,q1⟩=>?_);cases c with
 |true=>exact⟨H1,I1,q1⟩
 |false=>exact hb wh pins s1 σ H1 Q I1 q1
theorem eO(ha:PT X a tA):PT X (.UnaryOp .Not a pos) (WD tA):=by
 intro pins s σ H Q I h;exact isTrue_not (ha pins s σ H (fun c H1=>Q (!c) H1) I h)
def R5(ta tb:TE):TE:=fun σ H Q=>ta σ H fun x H1=>∃c,x= .bl c∧if c=true then tb σ H1 Q else Q (.bl false) H1
def R6(ta:TE):TE:=fun σ H Q=>ta σ H fun x H1=>∃c,x= .bl c∧Q (.bl (!c)) H1
theorem mZ{op}{t:TE}(h:PE X a t):PE X (.BoolOp op [a] pos) t:=fun pins s σ H Q I hw=>BoolOp_one (h pins s σ H Q I hw)
theorem lN(ha:PE X a ta)(hb:PE X (.BoolOp .And (b::rest) pos) tb):PE X (.BoolOp .And (a::b::rest) pos) (R5 ta tb):=by
 intro pins s σ H Q I h;refine BoolOp_and (cY (ha pins s σ H _ I h) fun v s1 ⟨x,H1,I1,r1,q1⟩=>?_);obtain⟨c,rfl,q1⟩:=q1;cases r1;refine wpAny_truthy_bool ?_;cases c with
 |true=>exact hb pins s1 σ H1 Q I1 q1
 |false=>exact⟨.bl false,H1,I1,rfl,q1⟩
theorem OT(ha:PE X a ta):PE X (.UnaryOp .Not a pos) (R6 ta):=by
 intro pins s σ H Q I h;refine UnaryOp_ (cY (ha pins s σ H _ I h) fun v s1 ⟨x,H1,I1,r1,q1⟩=>?_);obtain⟨c,rfl,q1⟩:=q1;cases r1;exact not_of (wpAny_truthy_bool ⟨.bl (!c),H1,I1,rfl,q1⟩)
def tIf(t:TT)(ta tb:TE):TE:=fun σ H Q=>t σ H fun c H1=>if c=true then ta σ H1 Q else tb σ H1 Q
theorem m3{c:Expr}(hc:PT X c tA)(ha:PE X a ta)(hb:PE X b tb):PE X (.IfExp c a b pos) (tIf tA ta tb):=by
 intro pins s σ H Q I h;refine wpAny_IfExp (cY (hc pins s σ H _ I h) fun d s1 ⟨H1,I1,q1⟩=>?_);cases d with
 |true=>exact ha pins s1 σ H1 Q I1 q1
 |false=>exact hb pins s1 σ H1 Q I1 q1
end
def jT(K:PySem.W.Frag)(H:Hp)(a:Addr)(xs:List V):Prop:=
 Rd H a (.lst xs)∨
  ∃(o:Obj)(its:Array Value)(n:Nat),K.lookup a=some o∧o.cls= .type "list"∧o.dict=none∧o.data= .seq its n∧its.size≤sizeLine∧Vals xs its.toList
def Jc(K:PySem.W.Frag)(H:Hp)(a:Addr)(xs:List V):Prop:=
 Rd H a (.tup xs)∨
  ∃(o:Obj)(its:Array Value)(n:Nat),K.lookup a=some o∧o.cls= .type "tuple"∧o.data= .seq its n∧its.size≤sizeLine∧Vals xs its.toList
def WE:Value→Option V
 | .none=>some .cF
 | .bool b=>some (.bl b)
 | .int i _=>some (.int i)
 | .str x _=>some (.str x)
 | .bytes b _=>some (.Hd b)
 | .float b _=>some (.Nt b)
 | .ref a=>some (.ref a)
 | .type n=>some (.ty n)
 | _=>none
theorem RelV.abs{x:V}{u:Value}(r:RelV x u):WE u=some x:=by
 cases x with
 |cF=>cases r;rfl
 |bl _=>cases r;rfl
 |int _=>obtain⟨t,rfl⟩:=r;rfl
 |str _=>obtain⟨t,rfl⟩:=r;rfl
 |Hd _=>obtain⟨t,rfl⟩:=r;rfl
 |Nt _=>obtain⟨t,rfl⟩:=r;rfl
 |ref _=>cases r;rfl
 |ty _=>cases r;rfl
theorem RelV.inj{x y:V}{u:Value}(r:RelV x u)(q:RelV y u):x=y:=Ρ (r.abs.symm.trans q.abs)
theorem Vals.inj:∀{xs ys:List V}{us:List Value},Vals xs us→Vals ys us→xs=ys
 | _,_,_, .nil, .nil=>rfl
 | _,_,_, .cons r t, .cons r' t'=>by rw[r.inj r',Vals.inj t t']
section
variable{X:Cx}{pins:List (Addr×Obj)}{σ:St}{H:Hp}{s:Shared}{a:Addr}{xs ys:List V}
theorem jT.of{K:PySem.W.Frag}(h:H a=some (.lst xs)):jT K H a xs:= .inl (.inl h)
theorem Jc.of{K:PySem.W.Frag}(h:H a=some (.tup xs)):Jc K H a xs:= .inl (.inl h)
theorem Inv.list(I:Inv X pins σ H s)(h:jT X.K H a xs):∃its:List Value,Vals xs its∧PlainL s.heap a its.toArray∧xs.length≤sizeLine:=by
 rcases h with h|⟨o,its,n,hk,hc,hd,hs,hz,r⟩
 ·obtain⟨z,its,n,r,e⟩:=h.ok I.cC;exact⟨its,r,⟨_,n,e,rfl,rfl,rfl⟩,z⟩
 ·refine⟨its.toList,r,⟨o,n,I.pZ a o hk,hc,hd,by simpa using hs⟩,?_⟩;have e:=r.length;simp only[Array.length_toList]at e;omega
theorem Inv.tuple(I:Inv X pins σ H s)(h:Jc X.K H a xs):∃its:List Value,Vals xs its∧IsTup s.heap a its.toArray∧xs.length≤sizeLine:=by
 rcases h with h|⟨o,its,n,hk,hc,hs,hz,r⟩
 ·obtain⟨z,its,r,p⟩:=h.ok I.cC;exact⟨its,r,p,z⟩
 ·refine⟨its.toList,r,⟨o,I.pZ a o hk,hc,n,by simpa using hs⟩,?_⟩;have e:=r.length;simp only[Array.length_toList]at e;omega
theorem Inv.Cq(I:Inv X pins σ H s)(h:jT X.K H a xs)(h':jT X.K H a ys):xs=ys:=by
 obtain⟨its,r,⟨o,n,e,_,_,d⟩,_⟩:=I.list h;obtain⟨its',r',⟨o',n',e',_,_,d'⟩,_⟩:=I.list h';rw[e]at e';cases e';rw[d]at d';injection d' with d1 _;have:its=its':=by simpa using congrArg Array.toList d1
 subst this;exact r.inj r'
end
abbrev Cx.aa8(X:Cx)(E:Value→Shared→Prop):Cx:={X with xe:=E}
section
variable{X:Cx}{pins:List (Addr×Obj)}{σ:St}{H:Hp}{s:Shared}{E:Value→Shared→Prop}
end
section
variable{X:Cx}{st:Stmt}{rest:List Stmt}{t u:TS}{e:Expr}{te:TE}{pos:Pos}
def aaA:TS:=fun D σ H=>D.nx σ H
def WG(t u:TS):TS:=fun D σ H=>t {D with nx:=u D} σ H
theorem ba:Ea X [] aaA:=fun _ _ σ H _ I h=>wpAny_execs_nil ⟨σ,H,I,h⟩
theorem aA(h1:PS X st t)(h2:Ea X rest u):Ea X (st::rest) (WG t u):=by
 intro pins s σ H D I h;refine wpAny_execs_cons (cY (h1 pins s σ H {D with nx:=u D} I h) fun f s1 q=>?_);cases f with
 |next=>
  obtain⟨bG,H',I',q⟩:=q;exact h2 pins s1 bG H' D I' q
 |ret v=>exact q
 |brk=>exact q
 |cont=>exact q
theorem au(h1:PS X st t):Ea X [st] t:=by
 intro pins s σ H D I h;refine wpAny_execs_cons (cY (h1 pins s σ H D I h) fun f s1 q=>?_);cases f with
 |next=>exact wpAny_execs_nil q
 |ret v=>exact q
 |brk=>exact q
 |cont=>exact q
theorem Inv.quiet{pins:List (Addr×Obj)}{σ:St}{H:Hp}{s:Shared}(I:Inv X pins σ H s):interactive X.env=false:=by simp[interactive,I.ok.kind]
def R8(te:TE):TS:=fun D σ H=>te σ H fun _ H1=>D.nx σ H1
theorem bO(he:PE X e te)(hs:swapsWith e none pos.line X.env=pure false:=by rfl):PS X (.Expr e pos) (R8 te):=by
 intro pins s σ H D I h;exact wpAny_Expr_any (cY (he pins s σ H _ I h) fun v s1 ⟨x,H1,I1,r1,q1⟩=>⟨σ,H1,I1,q1⟩) I.quiet hs
def WH(te:TE):TS:=fun D σ H=>te σ H D.rt
theorem a8(he:PE X e te):PS X (.Return (some e) pos) (WH te):=by
 intro pins s σ H D I h;exact wpAny_Return_some (cY (he pins s σ H _ I h) fun v s1 ⟨x,H1,I1,r1,q1⟩=>⟨x,σ,H1,I1,r1,q1⟩)
def WI(c:TT)(t u:TS):TS:=fun D σ H=>c σ H fun b H1=>if b=true then t D σ H1 else u D σ H1
theorem bU{c:Expr}{a b:List Stmt}{tc:TT}(hc:PT X c tc)(ha:Ea X a t)(hb:Ea X b u):PS X (.If c a b pos) (WI tc t u):=by
 intro pins s σ H D I h;refine wpAny_If (cY (hc pins s σ H _ I h) fun d s1 ⟨H1,I1,q1⟩=>?_);cases d with
 |true=>exact ha pins s1 σ H1 D I1 q1
 |false=>exact hb pins s1 σ H1 D I1 q1
end
abbrev TG:=V→St→Hp→(St→Hp→Prop)→Prop
abbrev Ln:=List V→St→Hp→(St→Hp→Prop)→Prop
def PG(X:Cx)(target:Expr)(t:TG):Prop:=
 ∀(pins:List (Addr×Obj))(s:Shared)(σ:St)(H:Hp)(v:V)(u:Value)(Q:St→Hp→Prop),Inv X pins σ H s→RelV v u→t v σ H Q→
  wpAny (model X.prog X.w) X.A (assign target X.env u) (fun _ s'=>∃bG H',Inv X pins bG H' s'∧Q bG H') X.xe s
def Q3(X:Cx)(ts:List Expr)(t:Ln):Prop:=
 ∀(pins:List (Addr×Obj))(s:Shared)(σ:St)(H:Hp)(vs:List V)(us:List Value)(Q:St→Hp→Prop),Inv X pins σ H s→Vals vs us→t vs σ H Q→
  wpAny (model X.prog X.w) X.A (assignInOrder ((assignEach ts X.env).map (·.2)) us) (fun _ s'=>∃bG H',Inv X pins bG H' s'∧Q bG H') X.xe s
abbrev OU:=V→V→V→Hp→(Hp→Prop)→Prop
def R9(X:Cx)(t:OU):Prop:=
 ∀(pins:List (Addr×Obj))(s:Shared)(σ:St)(H:Hp)(o i v:V)(ov iv u:Value)(Q:Hp→Prop),Inv X pins σ H s→RelV o ov→RelV i iv→RelV v u→t o i v H Q→
  wpAny (model X.prog X.w) X.A (setItem ov iv u) (fun _ s'=>∃H',Inv X pins σ H' s'∧Q H') X.xe s
section
variable{X:Cx}{pos:Pos}
def F9(i:Nat):TG:=fun v σ H Q=>Q (σ.set i (some v)) H
theorem bj{i:Nat}{x:Str}(hN:X.N.Nodup)(hi:X.N[i]?=some x)(hx:Loc X.env.scope x)(hf:X.fn x=true∨X.env.scope.names.lookup x=some .local:=by first|exact .inl rfl|exact .inr rfl|assumption):PG X (.Name x pos) (F9 i):=by
 intro pins s σ H v u Q I r h;exact wpAny_assign_Name (vz I hN hi hx r (fun s' I'=>⟨_,H,I',h⟩) hf)
def WJ:Ln:=fun vs σ H Q=>vs=[]∧Q σ H
def R_(t:TG)(u:Ln):Ln:=fun vs σ H Q=>∃v r,vs=v::r∧t v σ H fun bG H'=>u r bG H' Q
theorem j4:Q3 X [] WJ:=by
 intro pins s σ H vs us Q I r h;obtain⟨e,h⟩:=h;subst e;cases r;exact assignInOrder_nil ⟨σ,H,I,h⟩
theorem cQ{e:Expr}{es:List Expr}{t:TG}{u:Ln}(h1:PG X e t)(h2:Q3 X es u)
  (hs:(assignEach (e::es) X.env).map (·.2)=assign e X.env::(assignEach es X.env).map (·.2):=by rfl):Q3 X (e::es) (R_ t u):=by
 intro pins s σ H vs us Q I r h;obtain⟨v,vr,e1,h⟩:=h;subst e1;cases r with
 |cons r rr=>
  rw[hs];refine assignInOrder_cons (cY (h1 pins s σ H _ _ _ I r h) fun _ s1 ⟨Q4,H1,I1,q1⟩=>?_);exact h2 pins s1 Q4 H1 _ _ Q I1 rr q1
inductive OW(K:PySem.W.Frag)(n:Nat)(t:Ln)(v:V)(σ:St)(H:Hp)(Q:St→Hp→Prop):Prop
 |mk (a:_) (xs:_) (_:v= .ref a) (_:Jc K H a xs) (_:xs.length=n) (_:t xs σ H Q):OW K n t v σ H Q
theorem OX{es:List Expr}{k:Nat}{t:Ln}{n:Nat}(hc:X.calm=true)(h:Q3 X es t)
  (hn:(assignEach es X.env).length=n:=by rfl) (xG:(assignEach es X.env).findIdx? (·.1)=none:=by rfl):PG X (.Tuple es k pos) (OW X.K n t):=by
 intro pins s σ H v u Q I r hw;obtain⟨a,xs,e1,hq,hl,hw⟩:=hw;subst e1;cases r;obtain⟨its,rv,ht,hz⟩:=I.tuple hq;refine assign_Tuple_tuple (I.ok.hd hc) ht (by simp[hn,←hl,rv.length]) xG fun h' hx=>?_
 have I1:Inv X pins σ H {s with heap:=h'}:=I.kept (t':=s.toks) fun b o e=>hx b o (Nat.ne_of_lt (Λ e)) e
 exact h pins _ σ H xs _ Q I1 (by simpa using rv) hw
def WK(to ti:TE)(t:OU):TG:=fun v σ H Q=>to σ H fun o H1=>ti σ H1 fun i H2=>t o i v H2 fun H3=>Q σ H3
theorem Ju{o i:Expr}{to ti:TE}{t:OU}(ho:PE X o to)(hi:PE X i ti)(hs:R9 X t)
  (ha:∀v,assign (.Subscript o i pos) X.env v=(do
   let ov←holding [v] (eval o X.env)
   let iv←holding [v,ov] (eval i X.env)
   standAt pos
   holding [v,ov,iv] (setItem ov iv v)
   release [v,ov,iv] []):=by intro _;rfl):PG X (.Subscript o i pos) (WK to ti t):=by
 intro pins s σ H v u Q I r h;rw[ha];refine wpAny_bind (wpAny_holding (cY (ho pins s σ H _ I h) fun ov s1 ⟨x,H1,I1,r1,q1⟩=>?_));refine wpAny_bind (wpAny_holding (cY (hi pins s1 σ H1 _ I1 q1) fun iv s2 ⟨y,H2,I2,r2,q2⟩=>?_));refine wpAny_bind (wpAny_standAt (Θ (wpAny_holding (cY (hs pins s2 σ H2 x y v ov iv u _ I2 r1 r2 r q2) fun _ s3 ⟨H3,I3,q3⟩=>?_))));exact wpAny_release ⟨σ,H3,I3,q3⟩
def OY(te:TE)(g:TG):TS:=fun D σ H=>te σ H fun x H1=>g x σ H1 D.nx
theorem Eb{tg e:Expr}{te:TE}{g:TG}(he:PE X e te)(hg:PG X tg g)(hs:swapsWithSole [tg] e pos.line X.env=pure false:=by rfl)(hw:swappedStores [tg] e X.env=pure none:=by rfl)
  (h1:(assignEach [tg] X.env).map (·.2)=[assign tg X.env]:=by rfl):PS X (.Assign [tg] e pos) (OY te g):=by
 intro pins s σ H D I h;refine wpAny_Assign_stores (cY (he pins s σ H _ I h) fun v s1 ⟨x,H1,I1,r1,q1⟩=>?_) hs hw;rw[h1];exact cY (hg pins s1 σ H1 x v _ I1 r1 q1) fun _ s2 q=>q
theorem aK{i:Nat}{x:Str}{e:Expr}{te:TE}{pos':Pos}(hN:X.N.Nodup)(hi:X.N[i]?=some x)(hx:Loc X.env.scope x)(he:PE X e te)(hs:swapsWith e (some (.Name x pos')) pos.line X.env=pure false:=by rfl)(hf:X.fn x=true∨X.env.scope.names.lookup x=some .local:=by first|exact .inl rfl|exact .inr rfl|assumption):
  PS X (.Assign [.Name x pos'] e pos) (OY te (F9 i)):=by
 intro pins s σ H D I h;refine wpAny_Assign_Name (cY (he pins s σ H _ I h) fun v s1 ⟨y,H1,I1,r1,q1⟩=>?_) hs;exact vz I1 hN hi hx r1 (fun s2 I2=>⟨_,H1,I2,q1⟩) hf
end
section
variable{X:Cx}{pos:Pos}
def OZ(c:TT)(tb:TS):TS:=fun D σ H=>∃W:Nat→St→Hp→Prop,(∃m,W m σ H)∧∀m σ H,W m σ H→
 c σ H fun b H1=>if b=true then ∃N:St→Hp→Prop,(∀bG H',N bG H'→∃m',m'<m∧W m' bG H')∧tb {D with nx:=N,ct:=N,bk:=D.nx} σ H1 else D.nx σ H1
theorem vA{c:Expr}{body:List Stmt}{tc:TT}{tb:TS}(hp:PassesOwn (model X.prog X.w) X.A X.env X.xe)(hc:PT X c tc)(hb:Ea X body tb):PS X (.While c body [] pos) (OZ tc tb):=by
 intro pins s σ H D I h;obtain⟨W,⟨m0,w0⟩,turn⟩:=h;refine wpAny_While (codeAny_whileLoop (fun n s'=>∃bG H',Inv X pins bG H' s'∧W n bG H') ?_ m0 ⟨σ,H,I,w0⟩);rintro n s1 ⟨Q4,H1,I1,w1⟩;refine wpAny_passesOwn hp (cY (hc pins s1 Q4 H1 _ I1 (turn n Q4 H1 w1)) fun b s2 ⟨H2,I2,q2⟩=>?_);cases b with
 |true=>
  obtain⟨N,hN,q2⟩:=q2;rw[if_pos rfl];refine wpAny_passesOwn hp (cY (hb pins s2 Q4 H2 _ I2 q2) fun f s3 q3=>?_);cases f with
  |next=>
   obtain⟨Jv,H3,I3,n3⟩:=q3;obtain⟨m',hm,w3⟩:=hN Jv H3 n3;exact⟨m',hm,Jv,H3,I3,w3⟩
  |cont=>
   obtain⟨Jv,H3,I3,n3⟩:=q3;obtain⟨m',hm,w3⟩:=hN Jv H3 n3;exact⟨m',hm,Jv,H3,I3,w3⟩
  |brk=>exact q3
  |ret v=>exact q3
 |false=>
  rw[M9 Bool.false_ne_true];exact wpAny_execs_nil ⟨Q4,H2,I2,q2⟩
end
structure It where
 go:Nat→Hp→Prop
 Lo:Nat→Hp→V→Hp→Prop
 stop:Nat→Hp→Prop
def i8(X:Cx)(pins:List (Addr×Obj))(H:Hp)(b:Addr):Prop:=
 H b=none∧b≠X.env.locals∧b∉X.fs∧(b∈X.ex∨X.dB.heap.objs.size≤b)∧(∀x c,X.env.cells.lookup x=some c→c≠b)∧∀p∈X.pn++pins,p.1≠b
theorem Inv.xN{X:Cx}{pins:List (Addr×Obj)}{σ:St}{H H':Hp}{s:Shared}{b:Addr}(I:Inv X pins σ H s)(hb:s.heap.objs.size≤b)(hn:H' b=none):i8 X pins H' b:=by
 refine⟨hn,Nat.ne_of_gt (Nat.lt_of_lt_of_le I.lt hb),I.Wx hb, .inr (Nat.le_trans I.sz hb),fun x c e z=>?_,fun p hp z=>?_⟩
 ·obtain⟨v,q⟩:=I.cell x c e;exact absurd (Nat.lt_of_lt_of_le q.lt (by rw[z];exact hb)) (Nat.lt_irrefl _)
 ·exact absurd (Nat.lt_of_lt_of_le (Λ (I.pin p hp).1) (by rw[z];exact hb)) (Nat.lt_irrefl _)
structure Turn(P:Program)(w:World)(K:PySem.W.Frag)(tg:Expr)(J:It)(fp:List Addr)(it:Addr)(tn:Nat→Heap→Prop):Prop where
 mem:it∈fp
 obj:∀i h,tn i h→∀b∈fp,∃o,h.get? b=some o∧∀v,o.data≠ .cell v
 keep:∀i h h',tn i h→(∀b∈fp,∀o,h.get? b=some o→h'.get? b=some o)→tn i h'
 item:∀(X:Cx),X.prog=P→X.w=w→X.K=K→X.calm=true→∀(i:Nat)(pins:List (Addr×Obj))(s:Shared)(σ:St)(H:Hp)(E:Value→Shared→Prop),Inv X pins σ H s→(∀b∈fp,i8 X pins H b)→tn i s.heap→J.go i H→
  wpAny (model P w) X.A (pyNext (.ref it)) (fun r s1=>∃u,r=some u∧
   wpAny (model P w) X.A (letOwnedTupleGo tg (.ref it) u) (fun _ s2=>∃x H',Inv X pins σ H' s2∧RelV x u∧J.Lo i H x H'∧tn (i+1) s2.heap∧∀b∈fp,H' b=none) E s1) E s
 done:∀(X:Cx),X.prog=P→X.w=w→X.K=K→X.calm=true→∀(i:Nat)(pins:List (Addr×Obj))(s:Shared)(σ:St)(H:Hp)(E:Value→Shared→Prop),Inv X pins σ H s→(∀b∈fp,i8 X pins H b)→tn i s.heap→J.stop i H→
  wpAny (model P w) X.A (pyNext (.ref it)) (fun r s1=>r=none∧Inv X pins σ H s1) E s
 self:∀(A:Around)(i:Nat)(s:Shared)(Q:Value→Shared→Prop)(E:Value→Shared→Prop),tn i s.heap→Q (.ref it) s→wpAny (model P w) A (pyIter (.ref it)) Q E s
abbrev TI:=St→Hp→(It→Hp→Prop)→Prop
def WL(X:Cx)(pins:List (Addr×Obj))(σ:St)(tg:Expr)(R:It→Hp→Prop)(WM:Value)(s2:Shared):Prop:=
 ∃(it:Addr)(fp:List Addr)(tn:Nat→Heap→Prop)(J:It)(H':Hp),WM= .ref it∧Inv X pins σ H' s2∧Turn X.prog X.w X.K tg J fp it tn∧tn 0 s2.heap∧(∀b∈fp,i8 X pins H' b)∧R J H'
def PI(X:Cx)(tg iter:Expr)(wi:TI):Prop:=
 ∀(pins:List (Addr×Obj))(s:Shared)(σ:St)(H:Hp)(R:It→Hp→Prop),Inv X pins σ H s→wi σ H R→
  wpAny (model X.prog X.w) X.A (eval iter X.env) (fun v s1=>wpAny (model X.prog X.w) X.A (pyIter v) (WL X pins σ tg R) X.xe s1) X.xe s
theorem Cr{M:Model}{A:Around}{E:Value→Shared→Prop}{s:Shared}{tg:Expr}{it:Addr}{u:Value}{o:Obj}{n:String}{vs:Array Value}{Q:Unit→Shared→Prop}(ho:s.heap.get? it=some o)(hc:o.cls= .type n)(hd:o.data= .fields vs)
  (hn:["enumerate","zip","dict_itemiterator","dict_reverseitemiterator","odict_iterator","itertools.zip_longest","itertools.pairwise"].contains n=false) (hQ:Q () s):wpAny M A (letOwnedTupleGo tg (.ref it) u) Q E s:=by
 unfold letOwnedTupleGo;cases tg<;>first
  |exact Δ hQ
  |(cases u<;>first
    |exact Δ hQ
    |(refine wpAny_bind (wpAny_load ho ?_)
      rw[hc,hd];show wpAny M A (if (["enumerate","zip","dict_itemiterator","dict_reverseitemiterator","odict_iterator","itertools.zip_longest","itertools.pairwise"].contains n&&vs[0]?==some (rawInt _))=true then _ else _) Q E s;rw[M9 (by intro h;rw[hn,Bool.false_and]at h;cases h)];exact Δ hQ))
def Q5(K:PySem.W.Frag)(a:Addr):It:=
 ⟨fun i H=>∃xs x,jT K H a xs∧xs[i]?=some x,fun i H x H'=>H'=H∧∀xs,jT K H a xs→xs[i]?=some x,fun i H=>∃xs,jT K H a xs∧xs.length≤i⟩
def O0(lo:Int)(n:Nat):It:=⟨fun i _=>i<n,fun i H x H'=>H'=H∧x= .int (lo+i),fun i _=>n≤i⟩
theorem Hg{P:Program}{w:World}{K:PySem.W.Frag}{tg:Expr}(a it:Addr):Turn P w K tg (Q5 K a) [it] it (fun i h=>h.IsListIter it a i) where
 mem:=Xx
 obj:=fun i h st b hb=>by
  have e:b=it:=by simpa using hb
  subst e;obtain⟨o,e,c,d⟩:=st;exact⟨o,e,fun v z=>by rw[d]at z;cases z⟩
 keep:=fun i h h' st k=>st.at fun o e=>k it (Xx) o e
 item:=by
  intro X hP hw hK hc i pins s σ H E I hf st hg;subst hP hw hK;obtain⟨xs,x,hq,hx⟩:=hg;obtain⟨its,rv,p,hz⟩:=I.list hq;obtain⟨u,hu,ru⟩:=rv.get hx;obtain⟨f0,f1,f2,f3,f4,f5⟩:=hf it (Xx);refine wpAny_pyNext_list_item st p.isList (x:=u) (by simpa using hu) fun h' jh sb=>?_
  have I1:Inv X pins σ H {s with heap:=h'}:=I.turned (t':=s.toks) (fun b o hb e=>(sb.2 b hb).trans e) f0 f1 f3 f4 f5;obtain⟨o,e,c,d⟩:=id jh;exact⟨u,rfl,Cr (s:={s with heap:=h'}) e c d (QY) ⟨x,H,I1,ru,⟨rfl,fun ys hy=>by rw[I.Cq hy hq];exact hx⟩,jh,fun b hb=>(hf b hb).1⟩⟩
 done:=by
  intro X hP hw hK hc i pins s σ H E I hf st hg;subst hP hw hK;obtain⟨xs,hq,hx⟩:=hg;obtain⟨its,rv,p,hz⟩:=I.list hq;obtain⟨f0,f1,f2,f3,f4,f5⟩:=hf it (Xx);have hl:=rv.length;exact wpAny_pyNext_list_end (I.ok.hd hc) st p.isList (by simp;omega) fun h' eb=>⟨rfl,I.turned (t':=s.toks) (fun b o hb e=>eb b o hb e) f0 f1 f3 f4 f5⟩
 self:=fun _ _ _ _ _ st h=>wpAny_pyIter_listiter st h
theorem Ed{P:Program}{w:World}{K:PySem.W.Frag}{tg:Expr}(it:Addr)(lo:Int)(n:Nat):Turn P w K tg (O0 lo n) [it] it (fun i h=>IsRangeIter h it (lo+(i:Nat)*1) ((n:Int)-(i:Nat)) 1) where
 mem:=Xx
 obj:=fun i h st b hb=>by
  have e:b=it:=by simpa using hb
  subst e;exact⟨_,st,fun v z=>by
   have z':Data.fields _=Data.cell v:=z;cases z'⟩
 keep:=fun i h h' st k=>k it (Xx) _ st
 item:=by
  intro X hP hw hK hc i pins s σ H E I hf st hg;subst hP hw hK;obtain⟨f0,f1,f2,f3,f4,f5⟩:=hf it (Xx);have W:=Walks.range (prog:=X.prog) (w:=X.w) (I.ok.hd hc) it lo 1 n;refine W.item i s _ _ hg st fun v h' tk hv jh kk=>?_
  obtain⟨t,rfl⟩:=hv;have I1:Inv X pins σ H {s with heap:=h',toks:=tk}:=I.turned (fun b o hb e=>kk b o (by simpa using hb) e) f0 f1 f3 f4 f5;refine⟨_,rfl,Cr (s:={s with heap:=h',toks:=tk}) (n:="range_iterator") jh rfl rfl (QY) ⟨.int (lo+i),H,I1,⟨t,?_⟩,⟨rfl,rfl⟩,jh,fun b hb=>(hf b hb).1⟩⟩;rw[Int.mul_one]
 done:=by
  intro X hP hw hK hc i pins s σ H E I hf st hg;subst hP hw hK;obtain⟨f0,f1,f2,f3,f4,f5⟩:=hf it (Xx);exact wpAny_pyNext_range_end (I.ok.hd hc) st (by have:n≤i:=hg;omega) fun h' eb=>⟨rfl,I.turned (t':=s.toks) (fun b o hb e=>eb b o hb e) f0 f1 f3 f4 f5⟩
 self:=fun _ _ _ _ _ st h=>wpAny_pyIter_rangeiter st h
section
variable{X:Cx}{tg:Expr}
def Nx(K:PySem.W.Frag)(tl:TE):TI:=fun σ H R=>tl σ H fun x H1=>∃a,x= .ref a∧(∃xs,jT K H1 a xs)∧R (Q5 K a) H1
theorem LI{l:Expr}{tl:TE}(hl:PE X l tl):PI X tg l (Nx X.K tl):=by
 intro pins s σ H R I h;refine cY (hl pins s σ H _ I h) fun v s1 ⟨x,H1,I1,r1,q1⟩=>?_
 obtain⟨a,e,⟨xs,hq⟩,q⟩:=q1;subst e;cases r1;obtain⟨its,rv,p,hz⟩:=I1.list hq;refine wpAny_pyIter_list p.isList ?_;refine⟨s1.heap.objs.size,[s1.heap.objs.size],_,_,H1,rfl,I1.kept (t':=s1.toks) fun b o e=>Ο e,Hg a _,⟨_,Heap.get?_push_size _ rfl,rfl,rfl⟩,fun b hb=>?_,q⟩;have e:b=s1.heap.objs.size:=by simpa using hb
 subst e;exact I1.xN Ξ (I1.cC.fresh Ξ)
theorem Jw{pins:List (Addr×Obj)}{σ:St}{H:Hp}{s:Shared}{R:It→Hp→Prop}{E:Value→Shared→Prop}{lo hi:Int}{t u v:Tok}{tk:Nat}(I:Inv X pins σ H s)(h1:-(2^62)≤lo)(h2:lo<2^62)(h3:-(2^62)≤hi)(h4:hi<2^62)
  (q:R (O0 lo (hi-lo).toNat) H):wpAny (model X.prog X.w) X.A (pyIter (.ref s.heap.objs.size)) (WL X pins σ tg R) E {s with heap:=s.heap.push {cls:= .type "range",data:= .fields #[.int lo t, .int hi u, .int 1 v]},toks:=tk}:=by
 refine wpAny_pyIter_range (IsRange.new ..) (small_one h1 h2 h3 h4) ?_;have I1:Inv X pins σ H {s with heap:=s.heap.push {cls:= .type "range",data:= .fields #[.int lo t, .int hi u, .int 1 v]},toks:=tk}:=I.kept fun b o e=>Ο e
 refine⟨(s.heap.push {cls:= .type "range",data:= .fields #[.int lo t, .int hi u, .int 1 v]}).objs.size,[(s.heap.push {cls:= .type "range",data:= .fields #[.int lo t, .int hi u, .int 1 v]}).objs.size],_,_,H,rfl,
  I1.kept (t':=tk) fun b o e=>Ο e,Ed _ lo (hi-lo).toNat,?_,fun b hb=>?_,q⟩
 ·have e1:lo+((0:Nat):Int)*1=lo:=Xx;have e2:(((hi-lo).toNat:Nat):Int)-((0:Nat):Int)=Builtin.Range.rangeSize lo hi 1:=by rw[rangeSize_one];split<;>omega
  show IsRangeIter _ _ (lo+((0:Nat):Int)*1) ((((hi-lo).toNat:Nat):Int)-((0:Nat):Int)) 1;rw[e1,e2];exact Heap.get?_push_size _ rfl
 ·have e:b=(s.heap.push {cls:= .type "range",data:= .fields #[.int lo t, .int hi u, .int 1 v]}).objs.size:=by simpa using hb
  subst e;exact I1.xN Ξ (I1.cC.fresh Ξ)
def R'(ta:TA):TI:=fun σ H R=>ta σ H fun vs H1=>∃j:Int,vs=[.int j]∧-(2^62)≤j∧j<2^62∧R (O0 0 j.toNat) H1
theorem gF{a:Expr}{ta:TA}{p pos:Pos}(hg:Gl X "range")(hm:X.mg "range"=none)(ha:PA X [a] ta)(hs:starEach [a] X.env=[(false,eval a X.env)]:=by rfl):PI X tg (.Call (.Name "range" p) [a] [] pos) (R' ta):=by
 intro pins s σ H R I h;refine Call_ (mY I hg hm boot_range (PyProof.Rows.callWith_type1 (cY (ha pos pins s σ H _ I h) fun us s1 ⟨vs,H1,I1,r1,q1⟩=>?_) hs rfl));obtain⟨j,e,q1,q2,q⟩:=q1;subst e;cases r1 with
 |cons r rr=>
  cases rr;obtain⟨t,rfl⟩:=r;exact call_range_1 (Jw I1 (Τ) (Τ) q1 q2 (by simpa using q))
def WN(wi:TI)(g:TG)(tb:TS):TS:=fun D σ H=>wi σ H fun J H1=>∃W:Nat→Nat→St→Hp→Prop,(∃m,W 0 m σ H1)∧∀i m σ H,W i m σ H→
 (J.stop i H∧D.nx σ H)∨(J.go i H∧∃N:St→Hp→Prop,(∀bG H',N bG H'→∃m',m'<m∧W (i+1) m' bG H')∧∀x H',J.Lo i H x H'→g x σ H' fun gh H2=>tb {D with nx:=N,ct:=N,bk:=D.nx} gh H2)
def vB(fp:List Addr)(h:Heap):List (Addr×Obj):=fp.filterMap fun b=>(h.get? b).map fun o=>(b,o)
theorem iq{fp:List Addr}{h:Heap}{b:Addr}{o:Obj}(hb:b∈fp)(e:h.get? b=some o):(b,o)∈vB fp h:=List.mem_filterMap.mpr ⟨b,hb,by rw[e];rfl⟩
theorem Hh{fp:List Addr}{h:Heap}{p:Addr×Obj}(hp:p∈vB fp h):p.1∈fp∧h.get? p.1=some p.2:=by
 obtain⟨b,hb,e⟩:=List.mem_filterMap.mp hp;cases q:h.get? b with
 |none=>rw[q]at e;cases e
 |some o=>
  rw[q]at e;have e':(b,o)=p:=Ρ e;subst e';exact⟨hb,q⟩
theorem Inv.pinned{pins:List (Addr×Obj)}{σ:St}{H:Hp}{s:Shared}{fp:List Addr}(I:Inv X pins σ H s)(hf:∀b∈fp,i8 X pins H b)(ho:∀b∈fp,∃o,s.heap.get? b=some o∧∀v,o.data≠ .cell v):Inv X (pins++vB fp s.heap) σ H s:=
 I.F6 fun p hp=>(List.mem_append.mp hp).elim (fun z=>I.pin p (δ z)) fun z=>by
  obtain⟨hb,e⟩:=Hh z;obtain⟨f0,f1,f2,_⟩:=hf p.1 hb;obtain⟨o,e',d⟩:=ho p.1 hb;rw[e]at e';cases e';exact⟨e,f0,f1,f2,d⟩
theorem Inv.m4{pins pl:List (Addr×Obj)}{σ:St}{H:Hp}{s:Shared}(I:Inv X (pins++pl) σ H s):Inv X pins σ H s:=I.F6 fun p hp=>I.pin p (δ (List.mem_append_left _ hp))
theorem dU{iter:Expr}{body:List Stmt}{wi:TI}{g:TG}{tb:TS}{pos:Pos}(hp:PassesOwn (model X.prog X.w) X.A X.env X.xe)(hc:X.calm=true)(hi:PI X tg iter wi)(hg:PG X tg g)(hb:Ea X body tb)
  (hs:∀x,foldedSetIterable iter X.env x=pure x:=by intro _;rfl):PS X (.For tg iter body [] pos) (WN wi g tb):=by
 intro pins s σ H D I h;refine wpAny_For (cY (hi pins s σ H _ I h) fun v s1 h1=>cY h1 fun WM s2 h2=>?_) hs;obtain⟨it,fp,tn,J,H2,e,I2,T,F_,f2,W,⟨m0,w0⟩,turn⟩:=h2;subst e;have Ee:∀{H':Hp},(∀b∈fp,H' b=none)→∀b∈fp,i8 X pins H' b:=fun hn b hb=>⟨hn b hb,(f2 b hb).2⟩
 refine codeAny_forLoop_any (fun n s'=>∃i bG H',Inv X pins bG H' s'∧tn i s'.heap∧(∀b∈fp,H' b=none)∧W i n bG H') ?_ m0 ⟨0,σ,H2,I2,F_,fun b hb=>(f2 b hb).1,w0⟩;rintro n s3 ⟨i,Jv,H3,I3,Vs,Q6,w3⟩;rcases turn i n Jv H3 w3 with⟨stop,qn⟩|⟨go,N,hN,step⟩
 ·refine wpAny_passesOwn hp (cY (T.done X rfl rfl rfl hc i pins s3 Jv H3 X.xe I3 (Ee Q6) Vs stop) fun r s4 ⟨hr,I4⟩=>?_);subst hr;exact wpAny_execs_nil ⟨Jv,H3,I4,qn⟩
 ·refine wpAny_passesOwn hp (cY (T.item X rfl rfl rfl hc i pins s3 Jv H3 X.xe I3 (Ee Q6) Vs go) fun r s4 ⟨u,hr,h4⟩=>?_);subst hr;refine wpAny_passesOwn hp (cY h4 fun _ s5 ⟨x,H5,I5,r5,y5,Q7,Vt⟩=>?_);have I5':=I5.pinned (Ee Vt) (T.obj _ _ Q7);refine wpAny_passesOwn hp (cY (hg _ s5 Jv H5 x u _ I5' r5 (step x H5 y5)) fun _ s6 ⟨σ6,H6,I6,q6⟩=>?_);refine wpAny_passesOwn hp (cY (hb _ s6 σ6 H6 _ I6 q6) fun f s7 q7=>?_);have again:∀{Jx:St}{H7:Hp},Inv X (pins++vB fp s5.heap) Jx H7 s7→N Jx H7→∃m,m<n∧∃i bG H',Inv X pins bG H' s7∧tn i s7.heap∧(∀b∈fp,H' b=none)∧W i m bG H':=fun{Jx H7} I7 n7=>by
   obtain⟨m',hm,w7⟩:=hN Jx H7 n7;refine⟨m',hm,i+1,Jx,H7,I7.m4,T.keep _ _ _ Q7 fun b hb o e=>(I7.pin (b,o) (δ (δ (iq hb e)))).1,fun b hb=>?_,w7⟩;obtain⟨o,e,d⟩:=T.obj _ _ Q7 b hb;exact(I7.pin (b,o) (δ (δ (iq hb e)))).2.1
  cases f with
  |next=>obtain⟨Jx,H7,I7,n7⟩:=q7;exact again I7 n7
  |cont=>obtain⟨Jx,H7,I7,n7⟩:=q7;exact again I7 n7
  |brk=>obtain⟨Jx,H7,I7,q7⟩:=q7;exact⟨Jx,H7,I7.m4,q7⟩
  |ret v=>obtain⟨x7,Jx,H7,I7,r7,q7⟩:=q7;exact⟨x7,Jx,H7,I7.m4,r7,q7⟩
end
theorem gQ{K:PySem.W.Frag}{a:Addr}{xs:List V}{g:TG}{tb:TS}{D:Ends}{σ:St}{H:Hp}(Pv:Nat→St→Hp→Prop)(h0:Pv 0 σ H)(hl:∀i σ H,i≤xs.length→Pv i σ H→jT K H a xs)
  (hs:∀i x σ H,xs[i]?=some x→Pv i σ H→g x σ H fun gh H2=>tb {D with nx:=Pv (i+1),ct:=Pv (i+1),bk:=D.nx} gh H2) (hd:∀σ H,Pv xs.length σ H→D.nx σ H):
  ∃W:Nat→Nat→St→Hp→Prop,(∃m,W 0 m σ H)∧∀i m σ H,W i m σ H→
   ((Q5 K a).stop i H∧D.nx σ H)∨((Q5 K a).go i H∧∃N:St→Hp→Prop,(∀bG H',N bG H'→∃m',m'<m∧W (i+1) m' bG H')∧∀x H',(Q5 K a).Lo i H x H'→g x σ H' fun gh H2=>tb {D with nx:=N,ct:=N,bk:=D.nx} gh H2):=by
 refine⟨fun i m σ H=>m=xs.length-i∧i≤xs.length∧Pv i σ H,⟨xs.length,Xx,Nat.zero_le _,h0⟩,?_⟩;rintro i m σ H ⟨rfl,hi,p⟩;have q:=hl i σ H hi p;by_cases jv:i<xs.length
 ·refine .inr ⟨⟨xs,xs[i],q,by simp[jv]⟩,Pv (i+1),fun bG H' p'=>⟨xs.length-(i+1),Τ,rfl,jv,p'⟩,fun x H' y=>?_⟩;obtain⟨e,y⟩:=y;subst e;exact hs i x σ _ (y xs q) p
 ·have e:i=xs.length:=Τ;subst e;exact .inl ⟨⟨xs,q,Nat.le_refl _⟩,hd σ H p⟩
theorem ir{lo:Int}{n:Nat}{g:TG}{tb:TS}{D:Ends}{σ:St}{H:Hp}(Pv:Nat→St→Hp→Prop)(h0:Pv 0 σ H)
  (hs:∀i σ H,i<n→Pv i σ H→g (.int (lo+i)) σ H fun gh H2=>tb {D with nx:=Pv (i+1),ct:=Pv (i+1),bk:=D.nx} gh H2) (hd:∀σ H,Pv n σ H→D.nx σ H):
  ∃W:Nat→Nat→St→Hp→Prop,(∃m,W 0 m σ H)∧∀i m σ H,W i m σ H→
   ((O0 lo n).stop i H∧D.nx σ H)∨((O0 lo n).go i H∧∃N:St→Hp→Prop,(∀bG H',N bG H'→∃m',m'<m∧W (i+1) m' bG H')∧∀x H',(O0 lo n).Lo i H x H'→g x σ H' fun gh H2=>tb {D with nx:=N,ct:=N,bk:=D.nx} gh H2):=by
 refine⟨fun i m σ H=>m=n-i∧i≤n∧Pv i σ H,⟨n,Xx,Nat.zero_le _,h0⟩,?_⟩;rintro i m σ H ⟨rfl,hi,p⟩;by_cases jv:i<n
 ·refine .inr ⟨jv,Pv (i+1),fun bG H' p'=>⟨n-(i+1),Τ,rfl,jv,p'⟩,fun x H' y=>?_⟩;obtain⟨e,y⟩:=y;subst e y;exact hs i σ _ jv p
 ·have e:i=n:=Τ;subst e;exact .inl ⟨Nat.le_refl _,hd σ H p⟩
abbrev R2:=V→V→Hp→VK→Prop
def rX(X:Cx)(f:Value→Value→Sem Value)(r:R2):Prop:=
 ∀(pins:List (Addr×Obj))(s:Shared)(σ:St)(H:Hp)(x y:V)(v u:Value)(Q:VK),Inv X pins σ H s→RelV x v→RelV y u→r x y H Q→
  wpAny (model X.prog X.w) X.A (f v u) (EP X pins σ Q) X.xe s
def WO(X:Cx)(f:Value→Sem Value)(r:V→Hp→VK→Prop):Prop:=
 ∀(pins:List (Addr×Obj))(s:Shared)(σ:St)(H:Hp)(x:V)(v:Value)(Q:VK),Inv X pins σ H s→RelV x v→r x H Q→
  wpAny (model X.prog X.w) X.A (f v) (EP X pins σ Q) X.xe s
def jB(X:Cx)(f:Value)(r:List V→Hp→VK→Prop):Prop:=
 ∀(pins:List (Addr×Obj))(s:Shared)(σ:St)(H:Hp)(xs:List V)(us:List Value)(Q:VK),Inv X pins σ H s→Vals xs us→r xs H Q→
  wpAny (model X.prog X.w) X.A (call f us) (EP X pins σ Q) X.xe s
def Vu(r:R2)(ta tb:TE):TE:=fun σ H Q=>ta σ H fun x H1=>tb σ H1 fun y H2=>r x y H2 Q
def tUn(r:V→Hp→VK→Prop)(ta:TE):TE:=fun σ H Q=>ta σ H fun x H1=>r x H1 Q
inductive rI(C:Int→Int→Prop)(g:Int→Int→V)(x:V)(y:V)(H:Hp)(Q:VK):Prop
 |mk (i:_) (j:_) (_:x= .int i) (_:y= .int j) (_:C i j) (_:Q (g i j) H):rI C g x y H Q
inductive LJ(g:Int→Int→V)(x:V)(y:V)(H:Hp)(Q:VK):Prop
 |mk (i:_) (j:_) (_:x= .int i) (_:y= .int j) (_:Q (g i j) H):LJ g x y H Q
inductive rU(g:Int→V)(x:V)(H:Hp)(Q:VK):Prop
 |mk (i:_) (_:x= .int i) (_:Q (g i) H):rU g x H Q
section
variable{X:Cx}{a b c:Expr}{ta tb tc:TE}{pos:Pos}
theorem O1(ha:PE X a ta)(hb:PE X b tb){pins:List (Addr×Obj)}{s:Shared}{σ:St}{H:Hp}{R:V→V→Hp→Prop}(I:Inv X pins σ H s)
  (h:ta σ H fun x H1=>tb σ H1 fun y H2=>R x y H2) {Q:Value→Shared→Prop} {f:Value→Value→Sem Value}
  (hf:∀v u s2 x y H2,Inv X pins σ H2 s2→RelV x v→RelV y u→R x y H2→wpAny (model X.prog X.w) X.A (f v u) Q X.xe s2):
  wpAny (model X.prog X.w) X.A (eval a X.env) (fun v cM=>wpAny (model X.prog X.w) X.A (eval b X.env) (fun u r4=>wpAny (model X.prog X.w) X.A (f v u) Q X.xe r4) X.xe cM) X.xe s:=by
 refine cY (ha pins s σ H _ I h) fun v s1 ⟨x,H1,I1,r1,q1⟩=>?_
 refine cY (hb pins s1 σ H1 _ I1 q1) fun u s2 ⟨y,H2,I2,r2,q2⟩=>?_
 exact hf v u s2 x y H2 I2 r1 r2 q2
theorem aX{op:Operator}{r:R2}(ho:rX X (binaryOp op) r)(ha:PE X a ta)(hb:PE X b tb):PE X (.BinOp a op b pos) (Vu r ta tb):=by
 intro pins s σ H Q I h;exact wpAny_BinOp (O1 ha hb I h fun v u s2 x y H2 I2 rx ry q=>ho pins s2 σ H2 x y v u Q I2 rx ry q)
theorem oN{op:UnaryOp}{r:V→Hp→VK→Prop}(ho:WO X (unaryOp op) r)(ha:PE X a ta):PE X (.UnaryOp op a pos) (tUn r ta):=by
 intro pins s σ H Q I h;exact UnaryOp_ (cY (ha pins s σ H _ I h) fun v s1 ⟨x,H1,I1,r1,q1⟩=>ho pins s1 σ H1 x v Q I1 r1 q1)
theorem Vv{f:Value→Value→Sem Value}{C:Int→Int→Prop}{g:Int→Int→Int}
  (rule:∀(i j:Int)(t u:Tok)(s:Shared)(Q:Value→Shared→Prop)(E:Value→Shared→Prop),C i j→Q (.int (g i j) s.toks) {s with toks:=s.toks+1}→wpAny (model X.prog X.w) X.A (f (.int i t) (.int j u)) Q E s):
  rX X f (rI C fun i j=> .int (g i j)):=by
 intro pins s σ H x y v u Q I rx ry h;obtain⟨i,j,rfl,rfl,hc,q⟩:=h;obtain⟨t,rfl⟩:=rx;obtain⟨t',rfl⟩:=ry;exact rule i j t t' s _ _ hc ⟨.int (g i j),H,I.tok _,⟨_,rfl⟩,q⟩
theorem Se{f:Value→Value→Sem Value}{g:Int→Int→Int}
  (rule:∀(i j:Int)(t u:Tok)(s:Shared)(Q:Value→Shared→Prop)(E:Value→Shared→Prop),Q (.int (g i j) s.toks) {s with toks:=s.toks+1}→wpAny (model X.prog X.w) X.A (f (.int i t) (.int j u)) Q E s):
  rX X f (LJ fun i j=> .int (g i j)):=by
 intro pins s σ H x y v u Q I rx ry h;obtain⟨i,j,rfl,rfl,q⟩:=h;obtain⟨t,rfl⟩:=rx;obtain⟨t',rfl⟩:=ry;exact rule i j t t' s _ _ ⟨.int (g i j),H,I.tok _,⟨_,rfl⟩,q⟩
theorem LK{f:Value→Value→Sem Value}{g:Int→Int→Bool}
  (rule:∀(i j:Int)(t u:Tok)(s:Shared)(Q:Value→Shared→Prop)(E:Value→Shared→Prop),Q (.bool (g i j)) s→wpAny (model X.prog X.w) X.A (f (.int i t) (.int j u)) Q E s):
  rX X f (LJ fun i j=> .bl (g i j)):=by
 intro pins s σ H x y v u Q I rx ry h;obtain⟨i,j,rfl,rfl,q⟩:=h;obtain⟨t,rfl⟩:=rx;obtain⟨t',rfl⟩:=ry;exact rule i j t t' s _ _ ⟨.bl (g i j),H,I,rfl,q⟩
def WQ(i j:Int):Prop:=0<j∧j<1073741824
def Sg(i j:Int):Prop:=0≤j∧j≤1000000∧i.natAbs<2^64
def O2(i j:Int):Prop:=(-(2^64)<i∧i<2^64)∨(-(2^64)<j∧j<2^64)
theorem O2.ok{i j:Int}(h:O2 i j):IntMulOk i j:=by
 rcases h with⟨h1,h2⟩|⟨h1,h2⟩
 ·exact .of_left (intBits_le_64 h1 h2)
 ·exact .of_right (intBits_le_64 h1 h2)
theorem dW:rX X (binaryOp .Add) (LJ fun i j=> .int (i+j)):=Se fun _ _ _ _ _ _ _ q=>add_int q
theorem iu:rX X (binaryOp .Sub) (LJ fun i j=> .int (i-j)):=Se fun _ _ _ _ _ _ _ q=>sub_int q
theorem vC:rX X (binaryOp .Mult) (rI O2 fun i j=> .int (i*j)):=Vv fun _ _ _ _ _ _ _ hc q=>mul_int q hc.ok
theorem iI:rX X (binaryOp .FloorDiv) (rI WQ fun i j=> .int (i/j)):=Vv fun i j _ _ _ _ _ hc q=>by
 have h1:(0:Int)<j:=hc.1;have h2:j<1073741824:=hc.2;exact floordiv_int (Τ) (by rw[Int.fdiv_eq_ediv_of_nonneg i (Τ)];exact q) (.inl (PyProof.noPylong_small (Τ)))
theorem cI:rX X (binaryOp .Mod) (rI (fun _ j=>0<j) fun i j=> .int (i%j)):=Vv fun i j _ _ _ _ _ hc q=>by
 have h1:(0:Int)<j:=hc;exact mod_int' (Τ) (by rw[Int.fmod_eq_emod_of_nonneg i (Τ)];exact q)
theorem Jy:rX X (binaryOp .Pow) (rI Sg fun i j=> .int (i^j.toNat)):=Vv fun _ _ _ _ _ _ _ hc q=>pow_int_small hc.1 hc.2.1 hc.2.2 q
theorem unI{f:Value→Sem Value}{g:Int→Int}
  (rule:∀(i:Int)(t:Tok)(s:Shared)(Q:Value→Shared→Prop)(E:Value→Shared→Prop),Q (.int (g i) s.toks) {s with toks:=s.toks+1}→wpAny (model X.prog X.w) X.A (f (.int i t)) Q E s):
  WO X f (rU fun i=> .int (g i)):=by
 intro pins s σ H x v Q I rx h;obtain⟨i,rfl,q⟩:=h;obtain⟨t,rfl⟩:=rx;exact rule i t s _ _ ⟨.int (g i),H,I.tok _,⟨_,rfl⟩,q⟩
theorem kN:WO X (unaryOp .USub) (rU fun i=> .int (-i)):=unI fun _ _ _ _ _ q=>neg_int q
end
def Sh:V→V→Bool
 | .cF, .cF=>true| .cF, .int _=>true| .int _, .cF=>true| .cF, .bl _=>true| .bl _, .cF=>true| .cF, .str _=>true| .str _, .cF=>true
 | .int _, .int _=>true| .bl _, .bl _=>true| .str _, .str _=>true| .Hd _, .Hd _=>true
 | .int _, .str _=>true| .str _, .int _=>true| .bl _, .str _=>true| .str _, .bl _=>true
 | _,_=>false
def rEq:R2:=fun x y H Q=>Sh x y=true∧Q (.bl (decide (x=y))) H
def rNe:R2:=fun x y H Q=>Sh x y=true∧Q (.bl (!decide (x=y))) H
theorem F'{i j:Int}:decide (V.int i=V.int j)=(i==j):=by
 rw[Bool.eq_iff_iff];simp
theorem Jz{i j:Bool}:decide (V.bl i=V.bl j)=(i==j):=by
 rw[Bool.eq_iff_iff];simp
theorem Ga{i j:Str}:decide (V.str i=V.str j)=(i==j):=by
 rw[Bool.eq_iff_iff];simp
theorem Gb{i j:Array UInt8}:decide (V.Hd i=V.Hd j)=(i.toList==j.toList):=by
 rw[Bool.eq_iff_iff];cases i;cases j;simp
section
variable{X:Cx}{a b c:Expr}{ta tb tc:TE}{pos:Pos}
theorem cq{pins:List (Addr×Obj)}{σ:St}{H:Hp}{s:Shared}{Q:VK}{k k':Bool}(I:Inv X pins σ H s)(q:Q (.bl k) H)(e:k=k'):EP X pins σ Q (.bool k') s:=by
 subst e;exact⟨.bl k,H,I,rfl,q⟩
theorem ij:rX X (compareOp .Eq) rEq:=by
 intro pins s σ H x y v u Q I rx ry h;obtain⟨hs,q⟩:=h;cases x with
 |cF=>
  cases rx;cases y with
  |cF=>cases ry;exact PySem.EqNone.eq_none_none (cq I q XD)
  |bl j=>cases ry;exact PySem.EqNone.eq_none_bool (cq I q XD)
  |int j=>obtain⟨t',rfl⟩:=ry;exact PySem.EqNone.eq_none_int (cq I q XD)
  |str j=>obtain⟨t',rfl⟩:=ry;exact PySem.EqNone.eq_none_str (cq I q XD)
  | _=>exact absurd (show false=true from hs) Bool.false_ne_true
 |bl i=>
  cases rx;cases y with
  |cF=>cases ry;exact PySem.EqNone.eq_bool_none (cq I q XD)
  |bl j=>cases ry;exact eq_bool (cq I q Jz)
  |str j=>obtain⟨t',rfl⟩:=ry;exact PySem.EqMixed.eq_bool_str (cq I q XD)
  | _=>exact absurd (show false=true from hs) Bool.false_ne_true
 |int i=>
  obtain⟨t,rfl⟩:=rx;cases y with
  |cF=>cases ry;exact PySem.EqNone.eq_int_none (cq I q XD)
  |int j=>obtain⟨t',rfl⟩:=ry;exact eq_int (cq I q F')
  |str j=>obtain⟨t',rfl⟩:=ry;exact PySem.EqMixed.eq_int_str (cq I q XD)
  | _=>exact absurd (show false=true from hs) Bool.false_ne_true
 |str i=>
  obtain⟨t,rfl⟩:=rx;cases y with
  |cF=>cases ry;exact PySem.EqNone.eq_str_none (cq I q XD)
  |bl j=>cases ry;exact PySem.EqMixed.eq_str_bool (cq I q XD)
  |int j=>obtain⟨t',rfl⟩:=ry;exact PySem.EqMixed.eq_str_int (cq I q XD)
  |str j=>obtain⟨t',rfl⟩:=ry;exact eq_str (cq I q Ga)
  | _=>exact absurd (show false=true from hs) Bool.false_ne_true
 |Hd i=>
  obtain⟨t,rfl⟩:=rx;cases y with
  |Hd j=>obtain⟨t',rfl⟩:=ry;exact PySem.W.eq_bytes (cq I q Gb)
  | _=>exact absurd (show false=true from hs) Bool.false_ne_true
 | _=>cases y<;>exact absurd (show false=true from hs) Bool.false_ne_true
theorem vD:rX X (compareOp .NotEq) rNe:=by
 intro pins s σ H x y v u Q I rx ry h;obtain⟨hs,q⟩:=h;cases x with
 |cF=>
  cases rx;cases y with
  |cF=>cases ry;exact PySem.EqNone.ne_none_none (cq I q XD)
  |bl j=>cases ry;exact PySem.EqNone.ne_none_bool (cq I q XD)
  |int j=>obtain⟨t',rfl⟩:=ry;exact PySem.EqNone.ne_none_int (cq I q XD)
  |str j=>obtain⟨t',rfl⟩:=ry;exact PySem.EqNone.ne_none_str (cq I q XD)
  | _=>exact absurd (show false=true from hs) Bool.false_ne_true
 |bl i=>
  cases rx;cases y with
  |cF=>cases ry;exact PySem.EqNone.ne_bool_none (cq I q XD)
  |bl j=>cases ry;exact ne_bool (cq I q (congrArg not Jz))
  |str j=>obtain⟨t',rfl⟩:=ry;exact PySem.EqMixed.ne_bool_str (cq I q XD)
  | _=>exact absurd (show false=true from hs) Bool.false_ne_true
 |int i=>
  obtain⟨t,rfl⟩:=rx;cases y with
  |cF=>cases ry;exact PySem.EqNone.ne_int_none (cq I q XD)
  |int j=>obtain⟨t',rfl⟩:=ry;exact ne_int (cq I q (congrArg not F'))
  |str j=>obtain⟨t',rfl⟩:=ry;exact PySem.EqMixed.ne_int_str (cq I q XD)
  | _=>exact absurd (show false=true from hs) Bool.false_ne_true
 |str i=>
  obtain⟨t,rfl⟩:=rx;cases y with
  |cF=>cases ry;exact PySem.EqNone.ne_str_none (cq I q XD)
  |bl j=>cases ry;exact PySem.EqMixed.ne_str_bool (cq I q XD)
  |int j=>obtain⟨t',rfl⟩:=ry;exact PySem.EqMixed.ne_str_int (cq I q XD)
  |str j=>obtain⟨t',rfl⟩:=ry;exact ne_str (cq I q (congrArg not Ga))
  | _=>exact absurd (show false=true from hs) Bool.false_ne_true
 |Hd i=>
  obtain⟨t,rfl⟩:=rx;cases y with
  |Hd j=>obtain⟨t',rfl⟩:=ry;exact PySem.W.ne_bytes (cq I q (congrArg not Gb))
  | _=>exact absurd (show false=true from hs) Bool.false_ne_true
 | _=>cases y<;>exact absurd (show false=true from hs) Bool.false_ne_true
theorem vE:rX X (compareOp .Lt) (LJ fun i j=> .bl (decide (i<j))):=LK fun _ _ _ _ _ _ _ q=>lt_int q
theorem JA:rX X (compareOp .LtE) (LJ fun i j=> .bl (decide (i≤j))):=LK fun _ _ _ _ _ _ _ q=>le_int q
theorem m6:rX X (compareOp .Gt) (LJ fun i j=> .bl (decide (j<i))):=LK fun _ _ _ _ _ _ _ q=>gt_int q
theorem Gd:rX X (compareOp .GtE) (LJ fun i j=> .bl (decide (j≤i))):=LK fun _ _ _ _ _ _ _ q=>ge_int q
theorem br(b:Expr){op:CmpOp}(h:op≠ .In:=by decide)(h2:op≠ .NotIn:=by decide):behindInMarks op b=false:=by
 have e1:(op==CmpOp.In)=false:=by cases op<;>first|rfl|exact absurd rfl h
 have e2:(op==CmpOp.NotIn)=false:=by cases op<;>first|rfl|exact absurd rfl h2
 cases b<;>simp[behindInMarks,e1,e2]
theorem fm{op:CmpOp}{r:R2}(ho:rX X (compareOp op) r)(ha:PE X a ta)(hb:PE X b tb)(hm:behindInMarks op b=false):PE X (.Compare a [op] [b] pos) (Vu r ta tb):=by
 intro pins s σ H Q I h;exact wpAny_Compare1 (O1 ha hb I h fun v u s2 x y H2 I2 rx ry q=>ho pins s2 σ H2 x y v u Q I2 rx ry q) hm
def Si(t:TE):TT:=fun σ H Q=>t σ H fun x H'=>∃k,x= .bl k∧Q k H'
theorem bu{op:CmpOp}{r:R2}(ho:rX X (compareOp op) r)(ha:PE X a ta)(hb:PE X b tb)(hm:behindInMarks op b=false):PT X (.Compare a [op] [b] pos) (Si (Vu r ta tb)):=by
 intro pins s σ H Q I h;refine wpAny_isTrue_Compare1 (cY (ha pins s σ H _ I h) fun v s1 ⟨x,H1,I1,r1,q1⟩=>cY (hb pins s1 σ H1 _ I1 q1) fun u s2 ⟨y,H2,I2,r2,q2⟩=>
  cY (ho pins s2 σ H2 x y v u _ I2 r1 r2 q2) fun c s3 ⟨z,H3,I3,r3,k,e,q3⟩=>?_) hm
 subst e;cases r3;exact wpAny_truthy_bool ⟨H3,I3,q3⟩
theorem oZ:(sizeLine:Nat)<2^63:=by rw[sizeLine_eq];decide
theorem gq:rX X (binaryOp .Add) (fun x y H Q=>∃i j,x= .str i∧y= .str j∧i.length+j.length≤sizeLine∧Q (.str (i++j)) H):=by
 intro pins s σ H x y v u Q I rx ry h;obtain⟨i,j,rfl,rfl,hz,q⟩:=h;obtain⟨t,rfl⟩:=rx;obtain⟨t',rfl⟩:=ry;exact add_str (fun t' tk=>⟨.str (i++j),H,I.tok _,⟨_,rfl⟩,q⟩) hz
theorem vals1{x:V}{us:List Value}(r:Vals [x] us):∃u,us=[u]∧RelV x u:=by
 cases r with
 |cons r1 r2=>cases r2;exact⟨_,rfl,r1⟩
theorem yR:jB X (.type "int") (fun xs H Q=>(∃i,xs=[.int i]∧Q (.int i) H)∨∃k,xs=[.bl k]∧Q (.int (if k then 1 else 0)) H):=by
 intro pins s σ H xs us Q I r h;rcases h with⟨i,rfl,q⟩|⟨k,rfl,q⟩
 ·obtain⟨u,rfl,t,rfl⟩:=vals1 r;exact call_int_int ⟨.int i,H,I,⟨_,rfl⟩,q⟩
 ·obtain⟨u,rfl,r1⟩:=vals1 r;cases r1;exact call_int_bool ⟨.int (if k then 1 else 0),H,I.tok _,⟨_,rfl⟩,q⟩
end
structure Ef(h:Heap)(x dx C:Addr)(mA:Str→Option Value):Prop where
 obj:h.get? x=some (PySem.W.instObj C dx)
 ns:h.Ns1 dx mA
 ne:dx≠x
theorem Hi{h:Heap}{dx:Addr}{mA:Str→Option Value}(n:h.Ns1 dx mA):∃od,h.get? dx=some od∧∀name,PySem.W.lookIn name od=some (mA name):=by
 obtain⟨o,es,ep,ho,hd,hk,_,hm⟩:=n;refine⟨o,ho,fun name=>?_⟩;have e:=hm name;unfold nsFind findBy at e;rw[←Array.find?_toList]at e;unfold PySem.W.lookIn;rw[hd];dsimp only;split
 ·rename_i y q
  rw[q]at e;exact congrArg some e
 ·rename_i q
  rw[q]at e;have a:es.toList.any (·.refKey)=false:=by
   rw[List.any_eq_false];intro y hy;obtain⟨z,t,p0⟩:=hk y (Array.mem_toList_iff.mp hy);simp[DictEntry.refKey,p0]
  have a':¬es.toList.any (·.refKey)=true:=by rw[a];exact Bool.false_ne_true
  rw[M9 a'];exact congrArg some e
theorem Ef.look{h:Heap}{x dx C:Addr}{mA:Str→Option Value}(I:Ef h x dx C mA):∃od,PySem.W.InstAt h x (PySem.W.instObj C dx) C (some od)∧∀name,PySem.W.lookIn name od=some (mA name):=
 let ⟨od,ho,hl⟩:=Hi I.ns
 ⟨od,⟨I.obj,rfl,rfl,ho⟩,hl⟩
section
variable{prog:Program}{w:World}{A:Around}{E:Value→Shared→Prop}{s:Shared}{K:PySem.W.Frag}{x dx C f:Addr}{mA:Str→Option Value}{name:Str}{v:Value}
theorem get_map{expr:Bool}{Q:Value→Shared→Prop}(X:K.In s.heap)(I:Ef s.heap x dx C mA)(hg:PySem.W.plainGet K C name=true)(hh:PySem.W.hasDictIn K C=true)
  (ha:PySem.W.findIn K (.ref C) name=some none) (hv:mA name=some v) (Sj:PySem.W.handedIn v=true) (h:Q v {s with toks:=s.toks+1}):
  wpAny (model prog w) A (getAttr (.ref x) name expr) Q E s:=by
 obtain⟨od,J,hl⟩:=I.look;exact PySem.W.get_value X J (PySem.W.plainGet_of hg).1 (PySem.W.findObj_own hh ha rfl (by rw[hl,hv])) Sj h
theorem JB{pl:Sem Bool}{Q:Value×List Value→Shared→Prop}(X:K.In s.heap)(I:Ef s.heap x dx C mA)(hg:PySem.W.plainGet K C name=true)
  (hf:PySem.W.findIn K (.ref C) name=some (some (.ref f))) (ht:PySem.W.isFn K (.ref f)=true) (hv:mA name=none) (h:Q (.ref f,[.ref x]) s):
  wpAny (model prog w) A (getMethod (.ref x) name pl) Q E s:=by
 obtain⟨od,J,hl⟩:=I.look;exact PySem.W.method_fn X J (PySem.W.plainGet_of hg).1 (PySem.W.plainGet_of hg).2 hf (beq_iff_eq.mp ht) (by show(PySem.W.lookIn name od).map (·.isSome)=some false;rw[hl,hv];rfl) h
theorem LL{ns:List Str}{Q:Unit→Shared→Prop}(X:K.In s.heap)(I:Ef s.heap x dx C mA)
  (hs:PySem.W.findIn K (.ref C) "__setattr__"=some (some (.builtin "object.__setattr__"))) (hp:PySem.W.plainOver K C=true) (ht:PySem.W.takerIn K C name=some none) (hh:PySem.W.hasDictIn K C=true)
  (hw:PySem.Within mA ns) (hsz:ns.length≤sizeLine)
  (h:∀h',Ef h' x dx C (fun y=>if y=name then some v else mA y)→Heap.SameBut dx s.heap h'→Q () {s with heap:=h',toks:=s.toks+2}):
  wpAny (model prog w) A (setAttr (.ref x) name v) Q E s:=by
 obtain⟨od,J,hl⟩:=I.look;refine PySem.W.set_plain X J hs (PySem.W.osa_open (s:={s with toks:=s.toks+1}) (r:=none) X J hp ht fun b=>?_);obtain⟨cd,hc,Q2⟩:=PySem.W.any_some hh;have hx:s.heap.get? x=some ⟨.ref C,some dx, .plain,#[]⟩:=I.obj;refine wpAny_bind (Δ (Θ (Θ (wpAny_loadPart hx (Θ (PySem.W.Looks.here (s:={s with toks:=s.toks+1}) (PySem.W.looks_clsIn X hc) ?_))))));rw[Q2];refine wpAny_pure (a:=some dx) (Θ (Δ (Θ ?_)));refine wpAny_nsSet1 (s:={s with toks:=s.toks+1}) I.ns fun h' B_ O3=>?_
 obtain⟨oD,esD,epD,hoD,hdD,LM⟩:=B_.count (PySem.Within.cons name v hw);refine wpAny_bind (wpAny_lookBehind hoD (by rw[hdD];exact pastItsLine_dict (Nat.le_trans LM (by rw[List.length_cons];omega))) ?_);exact Δ (h _ ⟨(O3.2 _ (Ne.symm I.ne)).trans I.obj,B_,I.ne⟩ O3)
theorem JC{R:Result→Shared→Prop}{vs:List Value}{kw:List (Str×Value)}(X:K.In s.heap)(hm:PySem.W.makesIn K C=true)
  (hi:PySem.W.findIn K (.ref C) "__init__"=some (some (.ref f))) (hf:PySem.W.typeIn K (.ref f)=some (.type "function"))
  (h:codeAny (model prog w) (A.under (.builtin "type.__call__" ⟨.ref C::vs,kw⟩)) (.call (.ref f) ⟨.ref (s.heap.objs.size+1)::vs,kw⟩) (PySem.W.InitBack (s.heap.objs.size+1) R)
   {s with heap:=(s.heap.push PySem.W.emptyDict).push (PySem.W.instObj C s.heap.objs.size)}):
  codeAny (model prog w) A (.call (.ref C) ⟨vs,kw⟩) R s:=by
 obtain⟨hh,g,d,t,os⟩:=s;exact PySem.W.make_core (PySem.W.makes_of X hm) (PySem.W.looks_findIn X hi) (fun self=>PySem.W.bind_fn X self hf) (.inl rfl) h
end
def bq(f:Str)(v:V):List (Str×V)→List (Str×V)
 |[]=>[(f,v)]
 |(g,x)::r=>if g=f then(g,v)::r else(g,x)::bq f v r
theorem uj(f g:Str)(v:V):∀fs:List (Str×V),(bq f v fs).lookup g=if g=f then some v else fs.lookup g
 |[]=>by
  show List.lookup g [(f,v)]=_;by_cases h:g=f
  ·have hb:(g==f)=true:=beq_iff_eq.mpr h;simp only[List.lookup,hb,VH h]
  ·have hb:(g==f)=false:=beq_eq_false_iff_ne.mpr h;simp only[List.lookup,hb,M9 h]
 |(k,x)::r=>by
  have ih:=uj f g v r;rw[show bq f v ((k,x)::r)=(if k=f then(k,v)::r else(k,x)::bq f v r)from rfl];by_cases hk:k=f
  ·rw[VH hk];by_cases h:g=k
   ·have hb:(g==k)=true:=beq_iff_eq.mpr h;simp only[List.lookup,hb,VH (h.trans hk)]
   ·have hb:(g==k)=false:=beq_eq_false_iff_ne.mpr h;simp only[List.lookup,hb,M9 (fun e:g=f=>h (e.trans hk.symm))]
  ·rw[M9 hk];by_cases h:g=k
   ·have hb:(g==k)=true:=beq_iff_eq.mpr h;simp only[List.lookup,hb,M9 (fun e:g=f=>hk (h.symm.trans e))]
   ·have hb:(g==k)=false:=beq_eq_false_iff_ne.mpr h;simp only[List.lookup,hb];exact ih
theorem r9(f:Str)(v:V):∀fs:List (Str×V),f∈(bq f v fs).map (·.1)∧∀g,g∈fs.map (·.1)→g∈(bq f v fs).map (·.1)
 |[]=>⟨by simp[bq],fun g h=>by simp at h⟩
 |(k,x)::r=>by
  obtain⟨i1,i2⟩:=r9 f v r;rw[show bq f v ((k,x)::r)=(if k=f then(k,v)::r else(k,x)::bq f v r)from rfl];by_cases hk:k=f
  ·rw[VH hk];subst hk;exact⟨Xx,fun g h=>by simpa using h⟩
  ·rw[M9 hk];refine⟨?_,fun g h=>?_⟩
   ·rw[List.map_cons];exact List.mem_cons_of_mem _ i1
   ·rw[List.map_cons]at h⊢;rcases List.mem_cons.mp h with e|e
    ·exact List.mem_cons.mpr (.inl e)
    ·exact List.mem_cons_of_mem _ (i2 g e)
theorem aU(f:Str)(v:V):∀fs:List (Str×V),(bq f v fs).length≤fs.length+1
 |[]=>by simp[bq]
 |(k,x)::r=>by
  have ih:=aU f v r;rw[show bq f v ((k,x)::r)=(if k=f then(k,v)::r else(k,x)::bq f v r)from rfl];by_cases hk:k=f
  ·rw[VH hk,List.length_cons,List.length_cons];omega
  ·rw[M9 hk,List.length_cons,List.length_cons];omega
theorem lL.some_of{v:V}{o:Option Value}(r:lL (some v) o):∃u,o=some u∧RelV v u:=by
 cases o with
 |none=>exact(show False from r).elim
 |some u=>exact⟨u,rfl,r⟩
theorem lL.none_of{o:Option Value}(r:lL none o):o=none:=by
 cases o with
 |none=>rfl
 |some u=>exact(show False from r).elim
theorem Hj{v:V}{u:Value}(r:RelV v u):PySem.W.handedIn u=true:=by
 cases v with
 |cF=>cases(show u=Value.none from r);rfl
 |bl b=>cases(show u=Value.bool b from r);rfl
 |int i=>obtain⟨t,e⟩:=(show ∃t,u=Value.int i t from r);cases e;rfl
 |str x=>obtain⟨t,e⟩:=(show ∃t,u=Value.str x t from r);cases e;rfl
 |Hd b=>obtain⟨t,e⟩:=(show ∃t,u=Value.bytes b t from r);cases e;rfl
 |Nt b=>obtain⟨t,e⟩:=(show ∃t,u=Value.float b t from r);cases e;rfl
 |ref a=>cases(show u=Value.ref a from r);rfl
 |ty n=>cases(show u=Value.type n from r);rfl
section
variable{P:Program}{w:World}{H H':Hp}{h h':Heap}{a C dx:Addr}{fs fs':List (Str×V)}
theorem vf(cC:mM P w H h)(e:H a=some (.ins C dx fs)):∃mA,Ef h a dx C mA∧(∀f,lL (fs.lookup f) (mA f))∧PySem.Within mA (fs.map (·.1))∧fs.length≤1000∧H dx=some (.own a):=by
 obtain⟨d,z,ne,ob,mA,n,r,q⟩:=(show dn P w H h a (.ins C dx fs)from cC a _ e)
 exact⟨mA,⟨ob,n,ne⟩,r,q,z,d⟩
end
structure xH(K:PySem.W.Frag)(C:Addr):Prop where
 pg:PySem.W.plainGet K C Str.empty=true
 hd:PySem.W.hasDictIn K C=true
 po:PySem.W.plainOver K C=true
 sa:PySem.W.findIn K (.ref C) "__setattr__"=some (some (.builtin "object.__setattr__"))
theorem xH.get{K:PySem.W.Frag}{C:Addr}(c:xH K C)(f:Str):PySem.W.plainGet K C f=true:=c.pg
def bJ(K:PySem.W.Frag)(C:Addr)(f:Str):Prop:=PySem.W.findIn K (.ref C) f=some none
theorem bJ.Sk{K:PySem.W.Frag}{C:Addr}{f:Str}(n:bJ K C f):PySem.W.takerIn K C f=some none:=by
 unfold PySem.W.takerIn;rw[show PySem.W.findIn K (.ref C) f=some none from n];rfl
structure Cs(K:PySem.W.Frag)(C:Addr)(f:Str)(v:V)(u:Value):Prop where
 at_:PySem.W.findIn K (.ref C) f=some (some u)
 rel:RelV v u
 get:PySem.W.specialIn K u "__get__"=some none
 cp:PySem.W.copiedNames.contains f=false
structure Meth(K:PySem.W.Frag)(C:Addr)(m:Str)(f:Addr):Prop where
 at_:PySem.W.findIn K (.ref C) m=some (some (.ref f))
 fn:PySem.W.isFn K (.ref f)=true
 kp:PySem.W.keepIn K (.ref f)=true
section
variable{X:Cx}{pins:List (Addr×Obj)}{σ:St}{H:Hp}{s:Shared}{a C dx:Addr}{fs:List (Str×V)}{f:Str}{v:V}{A:Around}{E:Value→Shared→Prop}
theorem Eh{b:Bool}{Q:Value→Shared→Prop}(I:Inv X pins σ H s)(e:H a=some (.ins C dx fs))(c:xH X.K C)(n:bJ X.K C f)(l:fs.lookup f=some v)
  (h:∀u s',Inv X pins σ H s'→RelV v u→Q u s'):wpAny (model X.prog X.w) A (getAttr (.ref a) f b) Q E s:=by
 obtain⟨mA,O,r,_,_,_⟩:=vf I.cC e;obtain⟨u,hu,ru⟩:=lL.some_of (v:=v) (o:=mA f) (by rw[←l];exact r f);exact get_map I.pZ O (c.get f) c.hd n hu (Hj ru) (h u _ (I.tok _) ru)
theorem o6{m:Str}{g:Addr}{pl:Sem Bool}{Q:Value×List Value→Shared→Prop}(I:Inv X pins σ H s)(e:H a=some (.ins C dx fs))(c:xH X.K C)(k:Meth X.K C m g)(l:fs.lookup m=none)
  (h:Q (.ref g,[.ref a]) s):wpAny (model X.prog X.w) A (getMethod (.ref a) m pl) Q E s:=by
 obtain⟨mA,O,r,_,_,_⟩:=vf I.cC e;have hn:mA m=none:=lL.none_of (by rw[←l];exact r m);exact JB I.pZ O (c.get m) k.at_ k.fn hn h
theorem Ei{y:V}{u:Value}{Q:Unit→Shared→Prop}(I:Inv X pins σ H s)(e:H a=some (.ins C dx fs))(c:xH X.K C)(n:bJ X.K C f)(hl:fs.length<1000)(ry:RelV y u)
  (h:∀s',Inv X pins σ (upd H a (.ins C dx (bq f y fs))) s'→Q () s'):wpAny (model X.prog X.w) A (setAttr (.ref a) f u) Q E s:=by
 obtain⟨mA,O,r,wi,_,ho⟩:=vf I.cC e;have hz:(fs.map (·.1)).length≤sizeLine:=by rw[List.length_map,sizeLine_eq];omega
 refine LL I.pZ O c.sa c.po n.Sk c.hd wi hz fun h' O' sb=>h _ ?_
 have hd:∃o,h'.get? dx=some o:=let ⟨o,_,_,e',_⟩:=O'.ns;⟨o,e'⟩
 refine I.write (x:=a) (e:=dx) (by rw[e];exact True.intro) (.inr ho) (fun b q hb z=>(sb.2 b hb).trans z) hd ?_;refine⟨by rw[aj O.ne];exact ho,?_,O.ne,O'.obj,_,O'.ns,fun g=>?_,fun g hg=>?_⟩
 ·have:=aU f y fs;omega
 ·show lL ((bq f y fs).lookup g) (if g=f then some u else mA g);rw[uj];by_cases q:g=f
  ·rw[VH q,VH q];exact ry
  ·rw[M9 q,M9 q];exact r g
 ·by_cases q:g=f
  ·rw[q];exact(r9 f y fs).1
  ·refine(r9 f y fs).2 g (wi g fun z=>hg ?_);show(if g=f then some u else mA g)=none;rw[M9 q];exact z
theorem Inv.made(I:Inv X pins σ H s):Inv X pins σ (upd (upd H s.heap.objs.size (.own (s.heap.objs.size+1))) (s.heap.objs.size+1) (.ins C s.heap.objs.size []))
  {s with heap:=(s.heap.push PySem.W.emptyDict).push (PySem.W.instObj C s.heap.objs.size)}:=by
 have e1:(s.heap.push PySem.W.emptyDict).get? s.heap.objs.size=some PySem.W.emptyDict:=Heap.get?_push_size s.heap rfl;have e2:((s.heap.push PySem.W.emptyDict).push (PySem.W.instObj C s.heap.objs.size)).get? (s.heap.objs.size+1)=some (PySem.W.instObj C s.heap.objs.size):=by
  have:=Heap.get?_push_size (s.heap.push PySem.W.emptyDict) (o:=PySem.W.instObj C s.heap.objs.size) rfl;rwa[Heap.size_push]at this
 have e3:(s.heap.push PySem.W.emptyDict).Ns s.heap.objs.size (fun _=>none):=⟨PySem.W.emptyDict,#[],_,e1,rfl,(fun e he=>absurd he XD),fun _=>rfl⟩
 have I1:=I.laid (a:=s.heap.objs.size) (o:= .own (s.heap.objs.size+1)) (h':=s.heap.push PySem.W.emptyDict) (t':=s.toks) (fun b u q=>Ο q) (Nat.le_refl _) ⟨_,e1⟩;refine I1.laid (a:=s.heap.objs.size+1) (o:= .ins C s.heap.objs.size []) (t':=s.toks) (fun b u q=>Ο q) (Nat.le_of_eq (Heap.size_push _ _)) ?_;have ne:s.heap.objs.size≠s.heap.objs.size+1:=Nat.ne_of_lt (Nat.lt_succ_self _);refine⟨by rw[aj ne,af],Nat.zero_le _,ne,e2,fun _=>none,(Heap.Ns1.of_empty e3).at fun o q=>Ο q,fun _=>True.intro,fun y hy=>absurd rfl hy⟩
theorem LN{prog:Program}{w:World}{env:Env}{e:Expr}{f:Str}{pos:Pos}{s:Shared}{Q:Value→Shared→Prop}(hb:attributeBase e f env (eval e env)=eval e env)
  (h:wpAny (model prog w) A (eval e env) (fun o cM=>wpAny (model prog w) A (getAttr o f true) Q E cM) E s):wpAny (model prog w) A (eval (.Attribute e f pos) env) Q E s:=
 Attribute_any_ h (by rw[arm_eval_Attribute,hb])
end
inductive Ny(K:PySem.W.Frag)(f:Str)(x:V)(H1:Hp)(Q:VK):Prop
 |mk (a:Addr) (C:Addr) (dx:Addr) (fs:List (Str×V)) (v:V) (_:x= .ref a) (_:H1 a=some (.ins C dx fs)) (_:xH K C) (_:bJ K C f) (_:fs.lookup f=some v) (_:Q v H1):Ny K f x H1 Q
def Sl(K:PySem.W.Frag)(ta:TE)(f:Str):TE:=fun σ H Q=>ta σ H fun x H1=>Ny K f x H1 Q
def Sn(K:PySem.W.Frag)(ta tv:TE)(f:Str):TS:=fun D σ H=>tv σ H fun y H1=>ta σ H1 fun x H2=>∃a C dx fs,x= .ref a∧H2 a=some (.ins C dx fs)∧xH K C∧bJ K C f∧fs.length<1000∧
 D.nx σ (upd H2 a (.ins C dx (bq f y fs)))
section
variable{X:Cx}{o e value:Expr}{f:Str}{pos pos' WR:Pos}{ta tv:TE}
theorem O4(he:PE X e ta)(hb:attributeBase e f X.env (eval e X.env)=eval e X.env):PE X (.Attribute e f pos) (Sl X.K ta f):=by
 intro pins s σ H Q I h;refine LN hb (cY (he pins s σ H _ I h) fun u s1 ⟨x,H1,I1,rx,a,C,dx,fs,v,ex,ea,c,n,l,q⟩=>?_);subst ex;obtain rfl:u=Value.ref a:=rx;exact Eh I1 ea c n l fun u' s2 I2 ru=>⟨v,H1,I2,ru,q⟩
theorem O5(ha:PE X o ta)(hv:PE X value tv)(hs:swapsWith value (some (.Attribute o f pos')) pos.line X.env=pure false):PS X (.Assign [.Attribute o f pos'] value pos) (Sn X.K ta tv f):=by
 intro pins s σ H D I h;refine plainObj_wpAny_Assign_Attribute (cY (hv pins s σ H _ I h) fun u s1 ⟨y,H1,I1,ry,q⟩=>cY (ha pins s1 σ H1 _ I1 q) fun ov s2 ⟨x,H2,I2,rx,a,C,dx,fs,ex,ea,c,n,l,q2⟩=>?_) hs;subst ex;obtain rfl:ov=Value.ref a:=rx;exact Ei I2 ea c n l ry fun s3 I3=>⟨σ,_,I3,q2⟩
theorem aaQ{pl:Sem Bool}{m:Str}{apos:Pos}{args:List Expr}{pins:List (Addr×Obj)}{s:Shared}{σ:St}{H:Hp}{Q:Value→Shared→Prop}{te:TE}(he:PE X e te)(I:Inv X pins σ H s)
  (h:te σ H fun x H1=>∃a C dx fs g,x= .ref a∧H1 a=some (.ins C dx fs)∧xH X.K C∧Meth X.K C m g∧fs.lookup m=none∧
   ∀s1,Inv X pins σ H1 s1→wpAny (model X.prog X.w) X.A (callWith pos (.ref g) [.ref a] (backTo pos (starEach args X.env)) (backToKw pos (keywordEach [] X.env))) Q X.xe s1)
  (ht:eval (.Call (.Attribute e m apos) args [] pos) X.env=(do
   let ov←eval e X.env
   standAt apos.atName
   let (f,first)←holding [ov] (getMethod ov m pl)
   callWith pos f first (backTo pos (starEach args X.env)) (backToKw pos (keywordEach [] X.env)))):
  wpAny (model X.prog X.w) X.A (eval (.Call (.Attribute e m apos) args [] pos) X.env) Q X.xe s:=by
 refine PySem.W.methodCall_KW (pl:=pl) (cY (he pins s σ H _ I h) fun u s1 ⟨x,H1,I1,rx,a,C,dx,fs,g,ex,ea,c,k,l,q⟩=>?_) ht;subst ex;obtain rfl:u=Value.ref a:=rx;exact o6 I1 ea c k l (q s1 I1)
end
section
variable{X:Cx}{pins:List (Addr×Obj)}{σ:St}{H:Hp}{s:Shared}{A:Around}{E:Value→Shared→Prop}{Q:Value→Shared→Prop}{c:Value}{b:Bool}
inductive r_(K:PySem.W.Frag)(H:Hp):V→Value→Prop where
 |cF:r_ K H .cF (.type "NoneType")
 |bl (x:Bool):r_ K H (.bl x) (.type "bool")
 |int (i:Int):r_ K H (.int i) (.type "int")
 |str (x:Str):r_ K H (.str x) (.type "str")
 |Nt (x:UInt64):r_ K H (.Nt x) (.type "float")
 |lst {a:Addr} {xs:List V} (e:H a=some (.lst xs)):r_ K H (.ref a) (.type "list")
 |ve {a:Addr} {o:Obj} {xs:List V} (e:H a=some (.ve o (.lst xs))):r_ K H (.ref a) (.type "list")
 |tup {a:Addr} {xs:List V} (e:H a=some (.tup xs)):r_ K H (.ref a) (.type "tuple")
 |dK {a:Addr} {kvs:List (Key×V)} (e:H a=some (.dK kvs)):r_ K H (.ref a) (.type "dict")
 |dT {a:Addr} {kvs:List (List Key×V)} (e:H a=some (.dT kvs)):r_ K H (.ref a) (.type "dict")
 |ins {a C dx:Addr} {fs:List (Str×V)} (e:H a=some (.ins C dx fs)) (cl:xH K C) (ha:PySem.W.findIn K (.ref C) "__class__"=some (some (.builtin "object.__class__")))
   (hn:PySem.W.specialIn K (.builtin "object.__class__") "__get__"=some (some (.builtin "getset_descriptor.__get__"))) (Zb:PySem.W.takesIn K (.builtin "object.__class__")=some true)
   (hm:PySem.W.mroIn K C (.type "object")=some true):r_ K H (.ref a) (.ref C)
theorem Hk{x:V}{u t:Value}(I:Inv X pins σ H s)(rx:RelV x u)(ty:r_ X.K H x t)(e:PySem.W.kitOne X.K t c=some b)(h:∀tk,Q (.bool b) {s with toks:=tk}):
  wpAny (model X.prog X.w) A (call (.builtin "isinstance") [u,c]) Q E s:=by
 cases ty with
 |cF=>cases(show u=Value.none from rx);exact PySem.W.kia_one PySem.W.kitx_none I.pZ True.intro e (fun z=>nomatch z) h
 |bl y=>cases(show u=Value.bool y from rx);exact PySem.W.kia_one PySem.W.kitx_bool I.pZ True.intro e (fun z=>nomatch z) h
 |int i=>obtain⟨t,q⟩:=(show ∃t,u=Value.int i t from rx);cases q;exact PySem.W.kia_one PySem.W.kitx_int I.pZ True.intro e (fun z=>nomatch z) h
 |str y=>obtain⟨t,q⟩:=(show ∃t,u=Value.str y t from rx);cases q;exact PySem.W.kia_one PySem.W.kitx_str I.pZ True.intro e (fun z=>nomatch z) h
 |Nt y=>obtain⟨t,q⟩:=(show ∃t,u=Value.float y t from rx);cases q;exact PySem.W.kia_one PySem.W.kitx_float I.pZ True.intro e (fun z=>nomatch z) h
 |@lst a xs ea=>
  cases(show u=Value.ref a from rx);obtain⟨_,_,n,_,h1⟩:=(show dn X.prog X.w H s.heap a (.lst xs)from I.cC a _ ea)
  exact PySem.W.kia_one PySem.W.kitx_list I.pZ ⟨_,h1,rfl⟩ e (fun z=>nomatch z) h
 |@ve a ob xs ea=>
  cases(show u=Value.ref a from rx);obtain⟨_,_,_,n,_,h1⟩:=(show dn X.prog X.w H s.heap a (.ve ob (.lst xs))from I.cC a _ ea)
  exact PySem.W.kia_one PySem.W.kitx_list I.pZ ⟨_,h1,rfl⟩ e (fun z=>nomatch z) h
 |@tup a xs ea=>
  cases(show u=Value.ref a from rx);obtain⟨_,_,_,p⟩:=(show dn X.prog X.w H s.heap a (.tup xs)from I.cC a _ ea)
  obtain⟨o,h1,h2,_⟩:=p;exact PySem.W.kia_one PySem.W.kitx_tuple I.pZ ⟨o,h1,h2⟩ e (fun z=>nomatch z) h
 |@dK a kvs ea=>
  cases(show u=Value.ref a from rx);obtain⟨_,_,vs,_,p⟩:=(show dn X.prog X.w H s.heap a (.dK kvs)from I.cC a _ ea)
  obtain⟨o,es,ep,h1,h2,_⟩:=p;exact PySem.W.kia_one PySem.W.kitx_dict I.pZ ⟨o,h1,h2.1⟩ e (fun z=>nomatch z) h
 |@dT a kvs ea=>
  cases(show u=Value.ref a from rx);obtain⟨_,_,xs,_,o,es,ep,h1,h2,_⟩:=(show dn X.prog X.w H s.heap a (.dT kvs)from I.cC a _ ea)
  exact PySem.W.kia_one PySem.W.kitx_dict I.pZ ⟨o,h1,h2.1⟩ e (fun z=>nomatch z) h
 |@ins a C dx fs ea cl ha hn Zb hm=>
  cases(show u=Value.ref a from rx);obtain⟨mA,O,_⟩:=vf I.cC ea;obtain⟨od,J,_⟩:=O.look;exact PySem.W.kia_one (PySem.W.kitx_own (cl.get _) cl.hd ha hn Zb hm) I.pZ J e (fun z=>nomatch z) h
end
structure dY(cm:Bool)(k:Nat)(A:Around):Prop where
 hd:cm=true→A.handled=none
 dp:A.depth+3*k+5<recursionLimit
 un:A.units+16*k+200<cLine
theorem dY.mono{cm:Bool}{j k:Nat}{A:Around}(r:dY cm k A)(h:j≤k):dY cm j A:=⟨r.hd,by have:=r.dp;omega,by have:=r.un;omega⟩
theorem dY.deeper{cm:Bool}{k:Nat}{A:Around}(r:dY cm (k+1) A)(env:Env):dY cm k (A.deeper env):=
 ⟨r.hd,by have:=r.dp;show A.depth+1+3*k+5<_;omega,by have:=r.un;show A.units+3+16*k+200<_;omega⟩
theorem Ej{A:Around}{C:Addr}{us:List Value}{kw:List (Str×Value)}:(A.under (.builtin "type.__call__" ⟨.ref C::us,kw⟩)).depth=A.depth+1:=by
 first|rfl|simp[Around.under,Code.weight,Code.isCreation,Code.isGuard,Code.isCaller,Code.frames,Code.isFrame,guardIds]
theorem Ek{A:Around}{C:Addr}{us:List Value}{kw:List (Str×Value)}:(A.under (.builtin "type.__call__" ⟨.ref C::us,kw⟩)).units=A.units+1:=by
 first|rfl|simp[Around.under,Code.cUnits,Code.frames,Code.isFrame]
theorem dY.make{cm:Bool}{k:Nat}{A:Around}(r:dY cm (k+1) A)(C:Addr)(us:List Value)(kw:List (Str×Value)):dY cm k (A.under (.builtin "type.__call__" ⟨.ref C::us,kw⟩)):=
 ⟨r.hd,by have:=r.dp;rw[Ej];omega,by have:=r.un;rw[Ek];omega⟩
theorem dY.depth{cm:Bool}{k:Nat}{A:Around}(r:dY cm k A):A.depth<recursionLimit:=by have:=r.dp;omega
theorem dY.units{cm:Bool}{k:Nat}{A:Around}(r:dY cm k A):A.units+64<cLine:=by have:=r.un;omega
def JD:TA:=fun _ H Q=>Q [] H
def NA(ta:TE)(tr:TA):TA:=fun σ H Q=>ta σ H fun x H1=>tr σ H1 fun xs H2=>Q (x::xs) H2
section
variable{X:Cx}{e:Expr}{es:List Expr}{te:TE}{t:TA}{pos:Pos}
theorem ai:PA X [] JD:=fun _ _ _ _ H Q I h=>Calls.spliced_nil ⟨[],H,I, .nil,h⟩
theorem LO(ha:PE X e te)(hr:PA X es t)(hs:starEach (e::es) X.env=(false,eval e X.env)::starEach es X.env:=by rfl):PA X (e::es) (NA te t):=by
 intro pos pins s σ H Q I h;rw[hs];show wpAny _ _ (spliced ((false,eval e X.env)::backTo pos (starEach es X.env))) _ _ s;refine Calls.spliced_cons (cY (ha pins s σ H _ I h) fun u s1 ⟨x,H1,I1,r1,q1⟩=>?_);exact cY (hr pos pins s1 σ H1 _ I1 q1) fun us s2 ⟨xs,H2,I2,r2,q2⟩=>⟨x::xs,H2,I2, .cons r1 r2,q2⟩
def WS(t:TA):TE:=fun σ H Q=>t σ H fun xs H1=>xs.length≤sizeLine∧∀p,H1 p=none→Q (.ref p) (upd H1 p (.tup xs))
def WT(t:TA):TE:=fun σ H Q=>t σ H fun xs H1=>xs.length≤sizeLine∧∀p,H1 p=none→Q (.ref p) (upd H1 p (.lst xs))
theorem iw{x1}(h:PA X es t):PE X (.Tuple es x1 pos) (WS t):=by
 intro pins s σ H Q I hq;refine wpAny_Tuple_spliced (cY (h pos pins s σ H _ I hq) fun us s1 ⟨xs,H1,I1,r,z,q⟩=>⟨by rw[←r.length];exact z,?_⟩);have hf:H1 s1.heap.objs.size=none:=I1.cC.fresh Ξ;refine⟨.ref s1.heap.objs.size,upd H1 s1.heap.objs.size (.tup xs),I1.laid (t':=s1.toks) (fun b u e=>Ο e) (Nat.le_refl _) ?_,rfl,q _ hf⟩;exact⟨z,us,r,⟨_,Heap.get?_push_size _ rfl,rfl,_,rfl⟩⟩
theorem bV(h:PA X es t):PE X (.List es pos) (WT t):=by
 intro pins s σ H Q I hq;refine wpAny_List_spliced (cY (h pos pins s σ H _ I hq) fun us s1 ⟨xs,H1,I1,r,z,q⟩=>⟨by rw[←r.length];exact z,?_⟩);have hf:H1 s1.heap.objs.size=none:=I1.cC.fresh Ξ;refine⟨.ref s1.heap.objs.size,upd H1 s1.heap.objs.size (.lst xs),I1.laid (t':=s1.toks) (fun b u e=>Ο e) (Nat.le_refl _) ?_,rfl,q _ hf⟩;exact⟨z,us,0,r,Heap.get?_push_size _ rfl⟩
end
abbrev Sp:=List V→Hp→VK→XK→Prop
abbrev JE:=List Env→Hp→Shared→XK→Value→Shared→Prop
structure El(P:Program)(w:World)(K:PySem.W.Frag)(mg:Str→Option Value)(base:Heap)(A:Around)(outer:List Env)(s:Shared)(H:Hp):Prop where
 frames:A.frames=some outer
 mod:Mod K mg base
 bs:∀b o,base.get? b=some o→s.heap.get? b=some o∧H b=none
 LF:base.objs.size≤s.heap.objs.size
 uA:s.heap.FunFrames base outer
 OM:∀b∈mW outer,H b=none
 cC:mM P w H s.heap
 bare:AllBare s.gens
def CE(outer:List Env)(P:Program)(w:World)(H:Hp)(s:Shared)(Q:VK)(u:Value)(s':Shared):Prop:=
 ∃v H',s'.os=s.os∧AllBare s'.gens∧Un (mW outer) [] H H' s.heap s'.heap∧mM P w H' s'.heap∧RelV v u∧Q v H'
def CR(CX:JE)(outer:List Env)(P:Program)(w:World)(H:Hp)(s:Shared)(Q:VK)(E:XK)(r:Result)(s':Shared):Prop:=
 match r with
 | .ok (.ret u)=>CE outer P w H s Q u s'
 | .ok _=>False
 | .error e=>CX outer H s E e s'
structure bE(P:Program)(w:World)(K:PySem.W.Frag)(mg:Str→Option Value)(base:Heap)(CX:JE)(cm:Bool)(k:Nat)(f:Addr)(fd:FuncData)(ps:List Str)(sp:Sp):Prop where
 len:∀vs H Q E,sp vs H Q E→vs.length=ps.length
 run:∀(A:Around)(outer:List Env)(s:Shared)(H:Hp)(args:Args)(us:List Value)(vs:List V)(Q:VK)(E:XK),dY cm k A→El P w K mg base A outer s H→BindsTo s fd args (ps.zip us)→Vals vs us→sp vs H Q E→
  codeAny (model P w) A (.call (.ref f) args) (CR CX outer P w H s Q E) s
theorem El.make{P:Program}{w:World}{K:PySem.W.Frag}{mg:Str→Option Value}{base:Heap}{A:Around}{outer:List Env}{s:Shared}{H:Hp}(e:El P w K mg base A outer s H)(C:Addr)(us:List Value)(kw:List (Str×Value)):
  El P w K mg base (A.under (.builtin "type.__call__" ⟨.ref C::us,kw⟩)) outer s H:=⟨by first|exact e.frames|(simpa[Around.under,Code.envs,Code.isFrame,pushEnvs]using e.frames),e.mod,e.bs,e.LF,e.uA,e.OM,e.cC,e.bare⟩
section
variable{X:Cx}{pins:List (Addr×Obj)}{σ:St}{H:Hp}{s s':Shared}
theorem Inv.O6(I:Inv X pins σ H s):El X.prog X.w X.K X.mg X.base X.A X.stack s H:=
 ⟨I.ok.frames,I.ok.mod,I.bs,Nat.le_trans I.ok.LF I.sz,I.stack,I.zy,I.cC,I.bare⟩
theorem Inv.after{Q:VK}{u:Value}(I:Inv X pins σ H s)(h:CE X.stack X.prog X.w H s Q u s'):EP X pins σ Q u s':=by
 obtain⟨v,H',os,bare,un,cC,r,q⟩:=h;obtain⟨hh,g,d,t,os'⟩:=s';obtain rfl:os'=s.os:=os;exact⟨v,H',I.call (h':=hh) (g':=g) (d':=d) (t':=t) (ch:=[]) un cC bare (fun b z=>absurd z XD),r,q⟩
end
def NB(sp:Sp)(nW:List V)(E:St→XK)(t:TA):TE:=fun σ H Q=>t σ H fun vs H1=>sp (vs++nW) H1 Q (E σ)
def Ge(C:Addr)(m:Str)(sp:Sp)(nW:List V)(E:St→XK)(ta:TE)(t:TA):TE:=fun σ H Q=>ta σ H fun x H1=>∃a dx fs,x= .ref a∧H1 a=some (.ins C dx fs)∧fs.lookup m=none∧
 t σ H1 fun vs H2=>sp (x::(vs++nW)) H2 Q (E σ)
def Gf(C:Addr)(sp:Sp)(nW:List V)(E:St→XK)(t:TA):TE:=fun σ H Q=>t σ H fun vs H1=>∀x dx,H1 x=none→H1 dx=none→dx≠x→
 sp (.ref x::(vs++nW)) (upd (upd H1 dx (.own x)) x (.ins C dx [])) (fun v H2=>v= .cF∧Q (.ref x) H2) (E σ)
def Binds(K:PySem.W.Frag)(fd:FuncData)(ps:List Str)(ds:List Value):Prop:=
 ∀(s:Shared)(us:List Value),K.In s.heap→(us++ds).length=ps.length→BindsTo s fd ⟨us,[]⟩ (ps.zip (us++ds))
theorem Binds.all{K:PySem.W.Frag}{fd:FuncData}{ps:List Str}(h:∀us:List Value,us.length=ps.length→bindArgs fd ⟨us,[]⟩=pure (ps.zip us)):Binds K fd ps []:=fun s us _ hl=>by
 rw[List.append_nil]at hl⊢;exact .of_eq (h us hl)
def Passes(CX:JE)(X:Cx)(E:St→XK):Prop:=∀(pins:List (Addr×Obj))(σ:St)(H:Hp)(s:Shared)(e:Value)(s':Shared),Inv X pins σ H s→CX X.stack H s (E σ) e s'→X.xe e s'
section
variable{X:Cx}{CX:JE}{cm:Bool}{k:Nat}{f C:Addr}{fd:FuncData}{ps:List Str}{sp:Sp}{nW:List V}{ds:List Value}{E:St→XK}{x m:Str}{p pos apos:Pos}{e o:Expr}{es:List Expr}{ta:TE}{t:TA}
theorem Em{pins:List (Addr×Obj)}{σ:St}{H:Hp}{s:Shared}{Q:VK}{us:List Value}{vs:List V}(F:bE X.prog X.w X.K X.mg X.base CX cm k f fd ps sp)(hr:dY cm k X.A)(hb:Binds X.K fd ps ds)(hd:Vals nW ds)(hx:Passes CX X E)
  (I:Inv X pins σ H s) (r:Vals vs us) (h:sp (vs++nW) H Q (E σ)):wpAny (model X.prog X.w) X.A (call (.ref f) us) (EP X pins σ Q) X.xe s:=by
 have r2:Vals (vs++nW) (us++ds):=r.append hd;have hl:(us++ds).length=ps.length:=by rw[←r2.length];exact F.len _ _ _ _ h
 refine wpAny_call (codeAny_mono (F.run X.A X.stack s H ⟨us,[]⟩ (us++ds) (vs++nW) Q (E σ) hr I.O6 (hb s us I.pZ hl) r2 h) fun r s' hq=>?_);cases r with
 |error e=>exact hx pins σ H s e s' I hq
 |ok fl=>
  cases fl with
  |ret u=>exact I.after hq
  |next=>exact False.elim hq
  |brk=>exact False.elim hq
  |cont=>exact False.elim hq
theorem LP(F:bE X.prog X.w X.K X.mg X.base CX cm k f fd ps sp)(hr:dY cm k X.A)(hg:Gl X x)(hm:X.mg x=some (.ref f))(hk:PySem.W.keepIn X.K (.ref f)=true)(hb:Binds X.K fd ps ds)(hd:Vals nW ds)(hx:Passes CX X E)
  (ha:PA X (e::es) t) (xO:(x==("__debug__":Str))=false:=by decide) (he:starEach (e::es) X.env=(false,eval e X.env)::starEach es X.env:=by rfl) (uk:(backTo pos (starEach es X.env)).any (·.1)=false:=by rfl):
  PE X (.Call (.Name x p) (e::es) [] pos) (NB sp nW E t):=by
 intro pins s σ H Q I h;refine wpAny_Call_Name_kw (nU I hg hm ?_ xO);refine PySem.W.callWith_K (h₀:=X.base) I.ok.mod.Q0 hk (cY (ha pos pins s σ H _ I h) fun us s1 ⟨vs,H1,I1,r,q⟩=>⟨I1.pZ,?_⟩) he uk;exact Em F hr hb hd hx I1 r q
theorem LQ{pl:Sem Bool}(he:PE X o ta)(c:xH X.K C)(hm:Meth X.K C m f)(F:bE X.prog X.w X.K X.mg X.base CX cm k f fd ps sp)(hr:dY cm k X.A)(hb:Binds X.K fd ps ds)(hd:Vals nW ds)(hx:Passes CX X E)(ha:PA X (e::es) t)
  (xG:starEach (e::es) X.env=(false,eval e X.env)::starEach es X.env:=by rfl) (uk:(backTo pos (starEach es X.env)).any (·.1)=false:=by rfl)
  (ht:eval (.Call (.Attribute o m apos) (e::es) [] pos) X.env=(do
   let ov←eval o X.env
   standAt apos.atName
   let (f,first)←holding [ov] (getMethod ov m pl)
   callWith pos f first (backTo pos (starEach (e::es) X.env)) (backToKw pos (keywordEach [] X.env))):=by rfl):
  PE X (.Call (.Attribute o m apos) (e::es) [] pos) (Ge C m sp nW E ta t):=by
 intro pins s σ H Q I h;refine PySem.W.methodCall_KW (pl:=pl) (cY (he pins s σ H _ I h) fun u s1 ⟨x,H1,I1,rx,a,dx,fs,ex,ea,l,q⟩=>?_) ht;subst ex;obtain rfl:u=Value.ref a:=rx;refine o6 I1 ea c hm l ?_;refine PySem.W.callWith_K (first:=[.ref a]) (h₀:=X.base) I.ok.mod.Q0 hm.kp (cY (ha pos pins s1 σ H1 _ I1 q) fun us s2 ⟨vs,H2,I2,r,q2⟩=>⟨I2.pZ,?_⟩) xG uk;exact Em (us:= .ref a::us) (vs:= .ref a::vs) F hr hb hd hx I2 (.cons rfl r) q2
theorem JF{pl:Sem Bool}(he:PE X o ta)(c:xH X.K C)(hm:Meth X.K C m f)(F:bE X.prog X.w X.K X.mg X.base CX cm k f fd ps sp)(hr:dY cm k X.A)(hb:Binds X.K fd ps ds)(hd:Vals nW ds)(hx:Passes CX X E)
  (ht:eval (.Call (.Attribute o m apos) [] [] pos) X.env=(do
   let ov←eval o X.env
   standAt apos.atName
   let (f,first)←holding [ov] (getMethod ov m pl)
   callWith pos f first (backTo pos (starEach [] X.env)) (backToKw pos (keywordEach [] X.env))):=by rfl):
  PE X (.Call (.Attribute o m apos) [] [] pos) (Ge C m sp nW E ta JD):=by
 intro pins s σ H Q I h;refine PySem.W.methodCall_KW (pl:=pl) (cY (he pins s σ H _ I h) fun u s1 ⟨x,H1,I1,rx,a,dx,fs,ex,ea,l,q⟩=>?_) ht;subst ex;obtain rfl:u=Value.ref a:=rx;refine o6 I1 ea c hm l ?_;exact PySem.W.callWith_K0 (first:=[.ref a]) I1.pZ hm.kp (Em (us:=[.ref a]) (vs:=[.ref a]) F hr hb hd hx I1 (.cons rfl .nil) q)
structure Mk(K:PySem.W.Frag)(C f:Addr):Prop where
 makes:PySem.W.makesIn K C=true
 init:PySem.W.findIn K (.ref C) "__init__"=some (some (.ref f))
 fn:PySem.W.isFn K (.ref f)=true
 kp:PySem.W.keepIn K (.ref C)=true
theorem Ct{pins:List (Addr×Obj)}{σ:St}{H:Hp}{s:Shared}{Q:VK}{us:List Value}{vs:List V}(M:Mk X.K C f)(F:bE X.prog X.w X.K X.mg X.base CX cm k f fd ps sp)(hr:dY cm (k+1) X.A)(hb:Binds X.K fd ps ds)(hd:Vals nW ds)
  (hx:Passes CX X E) (I:Inv X pins σ H s) (r:Vals vs us)
  (h:∀x dx,H x=none→H dx=none→dx≠x→sp (.ref x::(vs++nW)) (upd (upd H dx (.own x)) x (.ins C dx [])) (fun v H2=>v= .cF∧Q (.ref x) H2) (E σ)):
  wpAny (model X.prog X.w) X.A (call (.ref C) us) (EP X pins σ Q) X.xe s:=by
 have hq:=h (s.heap.objs.size+1) s.heap.objs.size (I.cC.fresh (Nat.le_succ _)) (I.cC.fresh Ξ) (Nat.ne_of_lt (Nat.lt_succ_self _));have I2:=Inv.made (C:=C) I;have r2:Vals (V.ref (s.heap.objs.size+1)::(vs++nW)) (Value.ref (s.heap.objs.size+1)::(us++ds)):= .cons rfl (r.append hd);have hl:(Value.ref (s.heap.objs.size+1)::us++ds).length=ps.length:=by
  have e:=r2.length;rw[F.len _ _ _ _ hq]at e;exact e.symm
 refine wpAny_call (JC (f:=f) I.pZ M.makes M.init (beq_iff_eq.mp M.fn) (codeAny_mono (F.run _ X.stack _ _ ⟨Value.ref (s.heap.objs.size+1)::us,[]⟩ (Value.ref (s.heap.objs.size+1)::(us++ds)) _ _ (E σ) (hr.make C us [])
  (I2.O6.make C us []) (hb _ (Value.ref (s.heap.objs.size+1)::us) I2.pZ hl) r2 hq) fun r s' So=>?_))
 cases r with
 |error e=>exact hx pins σ _ _ e s' I2 So
 |ok fl=>
  cases fl with
  |ret u=>
   obtain⟨v,H',I3,rv,ev,q3⟩:=I2.after So;subst ev;exact⟨rv,⟨V.ref (s.heap.objs.size+1),H',I3,rfl,q3⟩⟩
  |next=>exact False.elim So
  |brk=>exact False.elim So
  |cont=>exact False.elim So
theorem LR(M:Mk X.K C f)(F:bE X.prog X.w X.K X.mg X.base CX cm k f fd ps sp)(hr:dY cm (k+1) X.A)(hg:Gl X x)(hm:X.mg x=some (.ref C))(hb:Binds X.K fd ps ds)(hd:Vals nW ds)(hx:Passes CX X E)
  (ha:PA X (e::es) t) (xO:(x==("__debug__":Str))=false:=by decide) (he:starEach (e::es) X.env=(false,eval e X.env)::starEach es X.env:=by rfl) (uk:(backTo pos (starEach es X.env)).any (·.1)=false:=by rfl):
  PE X (.Call (.Name x p) (e::es) [] pos) (Gf C sp nW E t):=by
 intro pins s σ H Q I h;refine wpAny_Call_Name_kw (nU I hg hm ?_ xO);refine PySem.W.callWith_K (h₀:=X.base) I.ok.mod.Q0 M.kp (cY (ha pos pins s σ H _ I h) fun us s1 ⟨vs,H1,I1,r,q⟩=>⟨I1.pZ,?_⟩) he uk;exact Ct M F hr hb hd hx I1 r q
theorem JG(M:Mk X.K C f)(F:bE X.prog X.w X.K X.mg X.base CX cm k f fd ps sp)(hr:dY cm (k+1) X.A)(hg:Gl X x)(hm:X.mg x=some (.ref C))(hb:Binds X.K fd ps ds)(hd:Vals nW ds)(hx:Passes CX X E)
  (xO:(x==("__debug__":Str))=false:=by decide):PE X (.Call (.Name x p) [] [] pos) (Gf C sp nW E JD):=by
 intro pins s σ H Q I h;refine wpAny_Call_Name_kw (nU I hg hm ?_ xO);exact PySem.W.callWith_K0 I.pZ M.kp (Ct (us:=[]) M F hr hb hd hx I .nil h)
end
section
variable{X:Cx}{CX:JE}{cm:Bool}{k:Nat}{f C:Addr}{fd:FuncData}{ps ks:List Str}{sp:Sp}{E:St→XK}{x m:Str}{p pos apos aab:Pos}{e o:Expr}{es:List Expr}{kws:List Keyword}{te ta:TE}{t tk:TA}{nm:Option Str}
variable{g:List Value→List Value→List Value}{gV:List V→List V→List V}
end
structure aP(N P:List Str)(sc:Scope):Prop where
 kind:sc.kind= .function
 co:sc.isCoroutine=false
 gen:sc.isGenerator=false
 nd:N.Nodup
 pre:N.take P.length=P
 par:∀x∈P,sc.names.lookup x=some .local∨sc.names.lookup x=some .cell
 O7:∀y∈sc.names,y.2≠ .free
theorem yS{kindOf:Str→Option NameKind}{x:Str}:∀{binds:List (Str×Value)}{m:Str→Option Value},(∀v,(x,v)∉binds)→bindL kindOf binds m x=m x
 |[],_,_=>rfl
 |(n,v)::r,m,h=>by
  unfold bindL;rw[yS fun w hw=>h w (List.mem_cons_of_mem _ hw)];split
  ·have:x≠n:=by rintro rfl;exact h v List.mem_cons_self
   simp[this]
  ·rfl
theorem yT{kindOf:Str→Option NameKind}{x:Str}:∀{binds:List (Str×Value)}{m:Str→Option Value},(∀v,(x,v)∉binds)→bindC kindOf binds m x=m x
 |[],_,_=>rfl
 |(n,v)::r,m,h=>by
  unfold bindC;rw[yT fun w hw=>h w (List.mem_cons_of_mem _ hw)];split
  ·rfl
  ·have:x≠n:=by rintro rfl;exact h v List.mem_cons_self
   simp[this]
theorem yU{kindOf:Str→Option NameKind}{x:Str}{v:Value}:∀{P:List Str}{vs:List Value}{i:Nat}{m:Str→Option Value},P.Nodup→P[i]?=some x→vs[i]?=some v→kindOf x=some .local→
  bindL kindOf (P.zip vs) m x=some v
 |[],_,_,_,_,h,_,_=>by simp at h
 | _::_,[],_,_,_,_,h,_=>by simp at h
 |p::P,w::vs,0,m,nd,h1,h2,hk=>by
  simp at h1 h2;subst h1;subst h2;show bindL kindOf ((p,w)::P.zip vs) m p=_;unfold bindL;rw[yS fun v hv=>(List.nodup_cons.mp nd).1 (List.of_mem_zip hv).1,VH hk];simp
 |p::P,w::vs,i+1,m,nd,h1,h2,hk=>by
  show bindL kindOf ((p,w)::P.zip vs) m x=_;unfold bindL;exact yU (i:=i) (List.nodup_cons.mp nd).2 (by simpa using h1) (by simpa using h2) hk
theorem yV{kindOf:Str→Option NameKind}{x:Str}{v:Value}:∀{P:List Str}{vs:List Value}{i:Nat}{m:Str→Option Value},P.Nodup→P[i]?=some x→vs[i]?=some v→kindOf x≠some .local→
  bindC kindOf (P.zip vs) m x=some v
 |[],_,_,_,_,h,_,_=>by simp at h
 | _::_,[],_,_,_,_,h,_=>by simp at h
 |p::P,w::vs,0,m,nd,h1,h2,hk=>by
  simp at h1 h2;subst h1;subst h2;show bindC kindOf ((p,w)::P.zip vs) m p=_;unfold bindC;rw[yT fun v hv=>(List.nodup_cons.mp nd).1 (List.of_mem_zip hv).1,M9 hk];simp
 |p::P,w::vs,i+1,m,nd,h1,h2,hk=>by
  show bindC kindOf ((p,w)::P.zip vs) m x=_;unfold bindC;exact yV (i:=i) (List.nodup_cons.mp nd).2 (by simpa using h1) (by simpa using h2) hk
def start(N:List Str)(vs:List V):St:=vs.map some++List.replicate (N.length-vs.length) none
def Eo(CX:JE)(cm:Bool)(P:Program)(w:World)(K:PySem.W.Frag)(mg:Str→Option Value)(base:Heap)(N:List Str)(qual:Str)(scope:Scope)(f:Addr)(cd:Value)(A:Around)(outer:List Env)(s:Shared)(H:Hp)(E:XK):Cx where
 prog:=P
 w:=w
 K:=K
 mg:=mg
 base:=base
 A:=A.deeper (envOfC qual scope s.heap.objs.size f cd)
 N:=N
 dB:=s
 fC:=H
 env:=envOfC qual scope s.heap.objs.size f cd
 outer:=outer
 stack:=envOfC qual scope s.heap.objs.size f cd::outer
 ex:=[]
 calm:=cm
 fn:=fun _=>true
 pn:=[]
 xe:=fun e s'=>wpAny (model P w) (A.deeper (envOfC qual scope s.heap.objs.size f cd)) (leaving (envOfC qual scope s.heap.objs.size f cd) e) (fun _ zB=>CX outer H s E e zB) (fun e' zB=>CX outer H s E e' zB) s'
theorem Cu{sc:Scope}{n:Nat}{x:Str}(h:sc.names.lookup x=some .cell):∃c,(cellsFrom n sc.names []).lookup x=some c:=by
 have q:=PySem.W.cellsFrom_some sc.names n [] (.inl h);exact Option.isSome_iff_exists.mp q
theorem Hl{CX:JE}{cm:Bool}{P:Program}{w:World}{K:PySem.W.Frag}{mg:Str→Option Value}{base:Heap}{N ps:List Str}{qual:Str}{scope:Scope}{f:Addr}{cd:Value}{A:Around}{outer:List Env}{s s1:Shared}{H:Hp}{E:XK}{us:List Value}{vs:List V}
  (S:aP N ps scope) (hd:cm=true→A.handled=none) (e0:El P w K mg base A outer s H) (hl:vs.length=ps.length) (r:Vals vs us)
  (x:InCallC s s.heap.objs.size (bindL (envOfC qual scope s.heap.objs.size f cd).kindOf (ps.zip us) fun _=>none) (cellsFrom (s.heap.objs.size+1) scope.names []) (bindC (envOfC qual scope s.heap.objs.size f cd).kindOf (ps.zip us) fun _=>none) s1):
  Inv (Eo CX cm P w K mg base N qual scope f cd A outer s H E) [] (start N vs) H s1:=by
 have uk:ps.length≤N.length:=by have:=congrArg List.length S.pre;rw[List.length_take]at this;omega
 obtain⟨h1,tk,rfl,hk⟩:=x.done;have Sq:∀b:Addr,b∉(Eo CX cm P w K mg base N qual scope f cd A outer s H E).ex:=fun b z=>absurd (show b∈([]:List Addr)from z) (Xx)
 refine⟨⟨e0.mod,S.kind,rfl,rfl,Nat.le_refl _,fun y z c h1 h2=>?_,fun y hy=>?_,fun y c _ h=>?_,fun z=>hd z,Around.frames_deeper e0.frames, .inr ⟨rfl,rfl⟩,fun b z=>absurd z (Sq b),e0.bs,e0.LF,fun b _ _=>Sq b,fun b z=>absurd z (Sq b),e0.uA,e0.OM⟩,
  rfl,e0.bare,Un.kept hk,⟨_,x.toInCall.ns,fun i y v h1 h2 h3=>?_⟩,fun y c h=>⟨_,x.cell y c h⟩,e0.cC.fresh Ξ,fun y c h=>?_,fun p hp=>absurd (show p∈([]:List (Addr×Obj))from hp) (Xx),e0.cC.kept hk,?_⟩
 ·exact name_of_addr x.apart (PySem.mem_of_lookup h1) (PySem.mem_of_lookup h2)
 ·have hy:scope.names.lookup y=some .cell∨scope.names.lookup y=some .free:=hy;rcases hy with hy|hy
  ·exact Cu hy
  ·exact absurd rfl (S.O7 _ (PySem.mem_of_lookup hy))
 ·exact Nat.le_of_lt (x.above y c (PySem.mem_of_lookup h))
 ·have hi:i<vs.length:=by
   unfold start at h2;by_cases hi:i<vs.length
   ·exact hi
   ·rw[θ (by simpa using hi)]at h2;rw[List.getElem?_replicate]at h2;split at h2<;>cases h2
  have ha:vs[i]?=some v:=by
   unfold start at h2;rw[ζ (by simpa using hi),List.getElem?_map]at h2;cases e:vs[i]? with
   |none=>rw[e]at h2;cases h2
   |some a=>rw[e]at h2;cases h2;rfl
  obtain⟨u,hu,rv⟩:=r.get ha;have hp:ps[i]?=some y:=by
   rw[←S.pre,List.getElem?_take_of_lt (Τ)];exact h1
  have Zc:ps.Nodup:=by rw[←S.pre];exact S.nd.sublist (List.take_sublist _ _)
  refine⟨u,rv,?_⟩;rcases S.par y (Ψ hp)with k|k
  ·exact .inl ⟨k,yU Zc hp hu k⟩
  ·obtain⟨c,e⟩:=Cu (n:=s.heap.objs.size+1) k;refine .inr ⟨.inl k,c,e,?_⟩;have q:=x.cell y c e;rw[yV Zc hp hu (by show scope.names.lookup y≠_;rw[k];decide)]at q;exact q
 ·exact e0.cC.fresh (Nat.le_of_lt (x.above y c (PySem.mem_of_lookup h)))
 ·unfold start;show _=N.length;rw[List.length_append,List.length_map,List.length_replicate];omega
theorem NC{CX:JE}{cm:Bool}{P:Program}{w:World}{K:PySem.W.Frag}{mg:Str→Option Value}{base:Heap}{k:Nat}{f:Addr}{name qual:Str}{params:Arguments}{body:List Stmt}{scope:Scope}{dV kV doc pm iy ct oc:Value}{an od:Option Addr}
  {Gg:Array (Option Value)} {N ps:List Str} {sp:Sp} (lk:K.lookup f=some ⟨oc,od, .func (PySem.W.fnOf name qual params body scope dV kV doc pm an iy ct),Gg⟩) (Hf:PySem.W.codeIn K iy qual=true) (S:aP N ps scope)
  (len:∀vs H Q E,sp vs H Q E→vs.length=ps.length)
  (Cv:∀(A:Around)(outer:List Env)(s:Shared)(H:Hp)(vs:List V)(Q:VK)(E:XK),dY cm k (A.deeper (envOfC qual scope s.heap.objs.size f iy))→sp vs H Q E→
   ∃t,Ea (Eo CX cm P w K mg base N qual scope f iy A outer s H E) body t∧t {nx:=fun _ H'=>Q .cF H',rt:=Q} (start N vs) H):
  bE P w K mg base CX cm (k+1) f (PySem.W.fnOf name qual params body scope dV kV doc pm an iy ct) ps sp:=by
 refine⟨len,fun A outer s H args us vs Q E hr e0 hb r Lp=>?_⟩;have hl:=len _ _ _ _ Lp;have KX:K.In s.heap:=e0.mod.Q0.keeps fun b o e=>(e0.bs b o e).1
 have lim:s.heap.NoLimit:=e0.mod.nolimit.keeps fun b o e=>(e0.bs b o e).1
 have Sr:∀y∈ps.zip us,scope.names.lookup y.1=some .local∨(scope.names.lookup y.1=some .cell∧((cellsFrom (s.heap.objs.size+1) scope.names []).lookup y.1).isSome=true):=fun⟨n,v⟩ hy=>by
  rcases S.par n (List.of_mem_zip hy).1 with q|q
  ·exact .inl q
  ·exact .inr ⟨q,PySem.W.cellsFrom_some _ _ _ (.inl q)⟩
 refine codeAny_call_function hr.depth (KX _ _ lk) rfl S.co S.gen rfl (PySem.W.codeRec_of KX Hf) (hb _ _ _ _ ?_);refine wpAny_newFunctionEnv_cells S.kind Sr fun env he s1 x=>?_
 subst he;refine⟨lim.keeps x.toInCall.keep,codeAny_func ?_⟩;obtain⟨t,ht,hq⟩:=Cv A outer s H vs Q E (hr.deeper _) Lp;have I:Inv (Eo CX cm P w K mg base N qual scope f iy A outer s H E) [] (start N vs) H s1:=Hl S hr.hd e0 hl r x;refine wpAny_mono (ht [] s1 (start N vs) H _ I hq) (fun fl s' hs=>?_) fun e s' hs=>hs
 have fin:∀{bG:St}{H':Hp}{v:V}{u:Value},Inv (Eo CX cm P w K mg base N qual scope f iy A outer s H E) [] bG H' s'→RelV v u→Q v H'→CE outer P w H s Q u s':=
  fun{bG H' v u} J rv q=>⟨v,H',J.os,J.bare,J.base,J.cC,rv,q⟩
 cases fl with
 |ret u=>
  obtain⟨v,bG,H',J,rv,q⟩:=hs;exact fin J rv q
 |next=>
  obtain⟨bG,H',J,q⟩:=hs;exact fin (v:=V.cF) (u:=Value.none) J rfl q
 |brk=>
  obtain⟨_,_,_,q⟩:=hs;exact False.elim q
 |cont=>
  obtain⟨_,_,_,q⟩:=hs;exact False.elim q
section
variable{X:Cx}{x:Str}{p pos:Pos}{e:Expr}{es:List Expr}{t:TA}{id T:String}{r:List V→Hp→VK→Prop}
def Zd(r:List V→Hp→VK→Prop)(t:TA):TE:=fun σ H Q=>t σ H fun vs H1=>r vs H1 Q
theorem aR(hc:jB X (.builtin id) r)(hg:Gl X x)(hm:X.mg x=none)(hv:bootBuiltins x=some (.builtin id))(ha:PA X (e::es) t)(hn:x≠"__name__":=by decide)(xO:(x==("__debug__":Str))=false:=by decide)
  (he:starEach (e::es) X.env=(false,eval e X.env)::starEach es X.env:=by rfl) (uk:(backTo pos (starEach es X.env)).any (·.1)=false:=by rfl):PE X (.Call (.Name x p) (e::es) [] pos) (Zd r t):=by
 intro pins s σ H Q I h;refine wpAny_Call_Name_kw (mY I hg hm hv ?_ hn xO);exact PyProof.Rows.callWith_builtin1 (cY (ha pos pins s σ H _ I h) fun us s1 ⟨vs,H1,I1,r1,q1⟩=>hc pins s1 σ H1 vs us Q I1 r1 q1) he uk
theorem gG(hc:jB X (.type T) r)(hg:Gl X x)(hm:X.mg x=none)(hv:bootBuiltins x=some (.type T))(ha:PA X (e::es) t)(hn:x≠"__name__":=by decide)(xO:(x==("__debug__":Str))=false:=by decide)
  (he:starEach (e::es) X.env=(false,eval e X.env)::starEach es X.env:=by rfl) (uk:(backTo pos (starEach es X.env)).any (·.1)=false:=by rfl):PE X (.Call (.Name x p) (e::es) [] pos) (Zd r t):=by
 intro pins s σ H Q I h;refine wpAny_Call_Name_kw (mY I hg hm hv ?_ hn xO);exact PyProof.Rows.callWith_type1 (cY (ha pos pins s σ H _ I h) fun us s1 ⟨vs,H1,I1,r1,q1⟩=>hc pins s1 σ H1 vs us Q I1 r1 q1) he uk
end
section
variable{κ:Type}[DecidableEq κ]
def b_(kvs:List (κ×V))(k:κ):Option V:=(kvs.find? fun kv=>decide (kv.1=k)).map (·.2)
def putK(kvs:List (κ×V))(k:κ)(v:V):List (κ×V):=
 if (kvs.any fun kv=>decide (kv.1=k))=true then kvs.map (fun kv=>if kv.1=k then(kv.1,v)else kv)else kvs++[(k,v)]
def jC(kvs:List (κ×V))(k:κ):List (κ×V):=kvs.filter fun kv=>decide (kv.1≠k)
theorem Cw{k:κ}:b_ ([]:List (κ×V)) k=none:=rfl
theorem cW{p:κ×V}{r:List (κ×V)}{k:κ}(e:p.1=k):b_ (p::r) k=some p.2:=by simp[b_,List.find?_cons,e]
theorem cR{p:κ×V}{r:List (κ×V)}{k:κ}(e:¬p.1=k):b_ (p::r) k=b_ r k:=by simp[b_,List.find?_cons,e]
theorem iW(k:κ):∀kvs:List (κ×V),(kvs.any fun kv=>decide (kv.1=k))=(b_ kvs k).isSome
 |[]=>rfl
 |p::r=>by
  rw[List.any_cons];by_cases e:p.1=k
  ·simp only[cW e,decide_eq_true e,Bool.true_or,Option.isSome_some]
  ·rw[cR e,decide_eq_false e,Bool.false_or];exact iW k r
theorem Cy(k j:κ)(y:V):∀kvs:List (κ×V),b_ (kvs.map fun kv=>if kv.1=k then(kv.1,y)else kv) j=(b_ kvs j).map fun x=>if j=k then y else x
 |[]=>rfl
 |p::r=>by
  have ih:=Cy k j y r;rw[List.map_cons];by_cases h:p.1=k
  ·rw[VH h];by_cases e:p.1=j
   ·rw[cW (p:=(p.1,y)) e,cW e,Option.map_some,VH (e.symm.trans h)]
   ·rw[cR (p:=(p.1,y)) e,cR e,ih]
  ·rw[M9 h];by_cases e:p.1=j
   ·rw[cW (p:=p) e,cW e,Option.map_some,M9 (fun z=>h (e.trans z))]
   ·rw[cR (p:=p) e,cR e,ih]
theorem yW(k j:κ)(y:V):∀kvs:List (κ×V),b_ kvs k=none→b_ (kvs++[(k,y)]) j=if j=k then some y else b_ kvs j
 |[],_=>by
  by_cases e:k=j
  ·rw[VH e.symm];exact cW (p:=(k,y)) e
  ·rw[M9 (fun z=>e z.symm)];exact cR (p:=(k,y)) e
 |p::r,hn=>by
  rw[List.cons_append];have hk:¬p.1=k:=fun z=>by rw[cW z]at hn;cases hn
  rw[cR hk]at hn;have ih:=yW k j y r hn;by_cases e:p.1=j
  ·rw[cW e,cW e,M9 (fun z=>hk (e.trans z))]
  ·rw[cR e,cR e,ih]
theorem ll(kvs:List (κ×V))(k j:κ)(y:V):b_ (putK kvs k y) j=if j=k then some y else b_ kvs j:=by
 unfold putK;by_cases a:(kvs.any fun kv=>decide (kv.1=k))=true
 ·rw[VH a,Cy];rw[iW]at a;by_cases e:j=k
  ·obtain⟨x,hx⟩:=Option.isSome_iff_exists.mp a;rw[VH e,e,hx,Option.map_some,if_pos rfl]
  ·rw[M9 e];cases b_ kvs j with
   |none=>rfl
   |some x=>rw[Option.map_some,M9 e]
 ·rw[M9 a];refine yW k j y kvs ?_;rw[iW]at a;cases q:b_ kvs k with
  |none=>rfl
  |some x=>rw[q]at a;exact(a rfl).elim
theorem gH(kvs:List (κ×V))(k:κ)(v:V):(putK kvs k v).length≤kvs.length+1:=by
 unfold putK;split
 ·rw[List.length_map];omega
 ·rw[List.length_append,List.length_cons,List.length_nil];omega
theorem vF{kvs:List (κ×V)}{k:κ}(v:V)(h:b_ kvs k=none):putK kvs k v=kvs++[(k,v)]:=by
 unfold putK;rw[iW,h];exact if_neg Ε
theorem lL.lp{o:Option V}{u:Option Value}(r:lL o u):o.isSome=u.isSome:=by
 cases o with
 |none=>cases u with
  |none=>rfl
  |some _=>exact(show False from r).elim
 |some _=>cases u with
  |none=>exact(show False from r).elim
  |some _=>rfl
theorem lL.getD{o:Option V}{u:Option Value}{d:V}{d':Value}(r:lL o u)(rd:RelV d d'):RelV (o.getD d) (u.getD d'):=by
 cases o with
 |none=>cases u with
  |none=>exact rd
  |some _=>exact(show False from r).elim
 |some _=>cases u with
  |none=>exact(show False from r).elim
  |some _=>exact r
theorem KV.val{kvs:List (κ×V)}{vs:List (κ×Value)}(r:KV kvs vs)(k:κ):lL (b_ kvs k) (valueAt vs k):=by
 unfold KV at r
 induction r with
 |nil=>exact True.intro
 |@cons p q ps qs h t ih=>
  obtain⟨h1,h2⟩:=h;by_cases e:p.1=k
  ·have e':q.1=k:=h1.symm.trans e;have b:valueAt (q::qs) k=some q.2:=by simp[valueAt,List.find?_cons,e']
   rw[cW e,b];exact h2
  ·have e':¬q.1=k:=fun z=>e (h1.trans z)
   have b:valueAt (q::qs) k=valueAt qs k:=by simp[valueAt,List.find?_cons,e']
   rw[cR e,b];exact ih
theorem KV.any{kvs:List (κ×V)}{vs:List (κ×Value)}(r:KV kvs vs)(k:κ):(kvs.any fun kv=>decide (kv.1=k))=vs.any fun kv=>decide (kv.1=k):=by
 unfold KV at r
 induction r with
 |nil=>rfl
 |cons h t ih=>rw[List.any_cons,List.any_cons,ih,h.1]
theorem KV.O8{kvs:List (κ×V)}{vs:List (κ×Value)}(r:KV kvs vs)(k:κ){y:V}{u:Value}(ry:RelV y u):
  KV (kvs.map fun kv=>if kv.1=k then(kv.1,y)else kv) (vs.map fun kv=>if kv.1=k then(kv.1,u)else kv):=by
 unfold KV at r⊢
 induction r with
 |nil=>exact .nil
 |@cons p q ps qs h t ih=>
  rw[List.map_cons,List.map_cons];refine .cons ?_ ih;obtain⟨h1,h2⟩:=h;by_cases e:p.1=k
  ·rw[VH e,VH (h1.symm.trans e)];exact⟨h1,ry⟩
  ·rw[M9 e,M9 (fun z=>e (h1.trans z))];exact⟨h1,h2⟩
theorem KV.put{kvs:List (κ×V)}{vs:List (κ×Value)}(r:KV kvs vs)(k:κ){y:V}{u:Value}(ry:RelV y u):KV (putK kvs k y) (stored vs k u):=by
 unfold putK stored;rw[r.any k];by_cases e:(vs.any fun kv=>decide (kv.1=k))=true
 ·rw[VH e,VH e];exact r.O8 k ry
 ·rw[M9 e,M9 e];exact Paired.snoc r ⟨rfl,ry⟩
theorem KV.length{kvs:List (κ×V)}{vs:List (κ×Value)}(r:KV kvs vs):kvs.length=vs.length:=Paired.length r
theorem Cz(kvs:List (κ×V))(k:κ):(jC kvs k).length≤kvs.length:=List.length_filter_le _ _
end
theorem yX{P:Program}{w:World}{k:Key}{u:Value}(r:RelV (kV k) u):(dI P w).is k u=true:=by
 cases k with
 |inl i=>obtain⟨t,e⟩:=(show ∃t,u=Value.int i t from r);subst e;exact Cm P w i t
 |inr x=>obtain⟨t,e⟩:=(show ∃t,u=Value.str x t from r);subst e;exact Cn P w x t
theorem yY{P:Program}{w:World}:∀{ks:List Key}{us:List Value},Vals (ks.map kV) us→ItemsAre (dI P w) ks us
 |[],_,r=>by rw[List.map_nil]at r;cases r;exact .nil
 |k::ks,_,r=>by
  rw[List.map_cons]at r;cases r with
  |cons h t=>exact .cons (yX h) (yY t)
abbrev KT(H:Hp):List (List Key×V)→List (List Key×Addr×Value)→Prop:=Paired fun p q=>p.1=q.1∧H q.2.1=some (.tup (p.1.map kV))∧RelV p.2 q.2.2
theorem KT.val{H:Hp}{kvs:List (List Key×V)}{xs:List (List Key×Addr×Value)}(r:KT H kvs xs)(k:List Key):lL (b_ kvs k) ((atKey xs k).map (·.2)):=by
 induction r with
 |nil=>exact True.intro
 |@cons p q ps qs h t ih=>
  obtain⟨h1,_,h2⟩:=h;by_cases e:p.1=k
  ·have e':q.1=k:=h1.symm.trans e;have b:atKey (q::qs) k=some q.2:=by simp[atKey,List.find?_cons,e']
   rw[cW e,b];exact h2
  ·have e':¬q.1=k:=fun z=>e (h1.trans z)
   have b:atKey (q::qs) k=atKey qs k:=by simp[atKey,List.find?_cons,e']
   rw[cR e,b];exact ih
theorem KT.O8{H:Hp}{kvs:List (List Key×V)}{xs:List (List Key×Addr×Value)}(r:KT H kvs xs)(k:List Key){y:V}{u:Value}(ry:RelV y u):
  KT H (kvs.map fun kv=>if kv.1=k then(kv.1,y)else kv) (xs.map (putAt k u)):=by
 induction r with
 |nil=>exact .nil
 |@cons p q ps qs h t ih=>
  rw[List.map_cons,List.map_cons];refine .cons ?_ ih;obtain⟨h1,h2,h3⟩:=h;unfold putAt;by_cases e:p.1=k
  ·rw[VH e,VH (h1.symm.trans e)];exact⟨h1,h2,ry⟩
  ·rw[M9 e,M9 (fun z=>e (h1.trans z))];exact⟨h1,h2,h3⟩
theorem KT.put{H:Hp}{kvs:List (List Key×V)}{xs:List (List Key×Addr×Value)}(r:KT H kvs xs)(k:List Key){b:Addr}{y:V}{u:Value}(hb:H b=some (.tup (k.map kV)))(ry:RelV y u):
  KT H (putK kvs k y) (storedH xs k b u):=by
 have e:(kvs.any fun kv=>decide (kv.1=k))=(atKey xs k).isSome:=by
  rw[iW,(r.val k).lp,Option.isSome_map]
 unfold putK storedH;rw[e];by_cases q:(atKey xs k).isSome=true
 ·rw[VH q,VH q];exact r.O8 k ry
 ·rw[M9 q,M9 q];exact Paired.snoc r ⟨rfl,hb,ry⟩
theorem KT.keeps{H H':Hp}{kvs:List (List Key×V)}{xs:List (List Key×Addr×Value)}(r:KT H kvs xs)(ht:∀b ys,H b=some (.tup ys)→H' b=some (.tup ys)):KT H' kvs xs:=
 Paired.OJ r fun _ _ z=>⟨z.1,ht _ _ z.2.1,z.2.2⟩
section
variable{P:Program}{w:World}{H:Hp}{h:Heap}{a:Addr}
theorem ND{u:HO}(ok:mM P w H h)(e:Rd H a u):dn P w H h a u:=e.ok ok
theorem vG{kvs:List (Key×V)}(ok:mM P w H h)(e:Rd H a (.dK kvs)):kvs.length≤sizeLine∧(a==sysModules)=false∧∃vs,KV kvs vs∧h.DictOf (dI P w) a vs:=
 show dn P w H h a (.dK kvs)from ND ok e
theorem Ss{kvs:List (Key×V)}(ok:mM P w H h)(e:H a=some (.dK kvs)):kvs.length≤sizeLine∧(a==sysModules)=false∧∃vs,KV kvs vs∧h.DictOf (dI P w) a vs:=vG ok (.inl e)
theorem o7{ks:List Key}(ok:mM P w H h)(e:H a=some (.tup (ks.map kV))):(tupleKind (dI P w)).is h ks a:=by
 obtain⟨_,its,r,o,h1,h2,n,h3⟩:=(show dn P w H h a (.tup (ks.map kV))from ok a _ e)
 exact⟨o,its.toArray,n,h1,h2,h3,by simpa using yY r⟩
theorem vH{kvs:List (List Key×V)}(ok:mM P w H h)(e:Rd H a (.dT kvs)):kvs.length≤sizeLine∧(a==sysModules)=false∧
  ∃xs,KT H kvs xs∧h.DictOfH (tupleKind (dI P w)) a xs:=by
 obtain⟨z,y,xs,r,o,es,ep,h1,h2,h3,h4,h5⟩:=(show dn P w H h a (.dT kvs)from ND ok e)
 refine⟨z,y,xs,r,o,es,ep,h1,h2,h3,h4,fun x hx=>?_,h5⟩;have all:∀{l:List (List Key×V)}{m:List (List Key×Addr×Value)},KT H l m→∀x∈m,(tupleKind (dI P w)).is h x.1 x.2.1:=by
  intro l m q
  induction q with
  |nil=>intro x hx;exact nomatch hx
  |@cons p q ps qs hq t ih=>
   intro x hx;rcases List.mem_cons.mp hx with e|hx
   ·subst e;exact o7 ok (by rw[←hq.1];exact hq.2.1)
   ·exact ih x hx
 exact all r x hx
theorem NG{kvs:List (List Key×V)}(ok:mM P w H h)(e:H a=some (.dT kvs)):kvs.length≤sizeLine∧(a==sysModules)=false∧
  ∃xs,KT H kvs xs∧h.DictOfH (tupleKind (dI P w)) a xs:=vH ok (.inl e)
end
def lq(H:Hp)(a:Addr)(y:V)(r:Option V):Prop:=
 (∃kvs k,Rd H a (.dK kvs)∧y=kV k∧r=b_ kvs k)∨∃kvs k b,Rd H a (.dT kvs)∧y= .ref b∧H b=some (.tup (k.map kV))∧r=b_ kvs k
def LS(H:Hp)(a:Addr)(y v:V)(H':Hp):Prop:=
 (∃kvs k,H a=some (.dK kvs)∧y=kV k∧kvs.length<sizeLine∧H'=upd H a (.dK (putK kvs k v)))∨
 ∃kvs k b,H a=some (.dT kvs)∧y= .ref b∧H b=some (.tup (k.map kV))∧kvs.length<sizeLine∧H'=upd H a (.dT (putK kvs k v))
theorem lq.t{H:Hp}{a b:Addr}{kvs:List (List Key×V)}{k:List Key}(e:H a=some (.dT kvs))(eb:H b=some (.tup (k.map kV))):lq H a (.ref b) (b_ kvs k):= .inr ⟨kvs,k,b, .inl e,rfl,eb,rfl⟩
theorem LS.t{H:Hp}{a b:Addr}{kvs:List (List Key×V)}{k:List Key}{v:V}(e:H a=some (.dT kvs))(eb:H b=some (.tup (k.map kV)))(hl:kvs.length<sizeLine):
  LS H a (.ref b) v (upd H a (.dT (putK kvs k v))):= .inr ⟨kvs,k,b,e,rfl,eb,hl,rfl⟩
section
variable{X:Cx}{pins:List (Addr×Obj)}{σ:St}{H:Hp}{s:Shared}{a:Addr}{y v:V}{u r:Value}{o:Option V}{A:Around}{E:Value→Shared→Prop}
theorem Inv.big(I:Inv X pins σ H s):sysModules<s.heap.objs.size:=by
 have h:mainGlobals<s.heap.objs.size:=(I.mod.glob.keeps I.bk).lt;exact Nat.lt_trans Ε h
theorem Hm{Q:Value→Shared→Prop}(hu:A.units+1<cLine)(I:Inv X pins σ H s)(g:lq H a y (some v))(ry:RelV y u)(h:∀w' s',Inv X pins σ H s'→RelV v w'→Q w' s'):
  wpAny (model X.prog X.w) A (getItem (.ref a) u) Q E s:=by
 rcases g with⟨kvs,k,e,ey,l⟩|⟨kvs,k,b,e,ey,eb,l⟩
 ·subst ey;obtain⟨z,hd,vs,rel,dd⟩:=vG I.cC e;obtain⟨w',hw,mO⟩:=lL.some_of (v:=v) (o:=valueAt vs k) (by rw[l];exact rel.val k);exact wpAny_getItem_of (yX ry) dd.mapOf hw (h w' _ (I.tok _) mO)
 ·subst ey;cases(show u=Value.ref b from ry);obtain⟨z,hd,xs,rel,dd⟩:=vH I.cC e;obtain⟨w',hw,mO⟩:=lL.some_of (v:=v) (o:=(atKey xs k).map (·.2)) (by rw[l];exact rel.val k);obtain⟨p,hp,JH⟩:=Option.map_eq_some_iff.mp hw;refine wpAny_getItem_heap (tupleKind_room_in1 hu) (o7 I.cC eb) dd hp ?_;rw[JH];exact h w' _ (I.tok _) mO
theorem WU{Q:Value→Shared→Prop}(hu:A.units+1<cLine)(I:Inv X pins σ H s)(g:lq H a y o)(ry:RelV y u)(h:∀s',Inv X pins σ H s'→Q (.bool o.isSome) s'):
  wpAny (model X.prog X.w) A (compareOp .In u (.ref a)) Q E s:=by
 rcases g with⟨kvs,k,e,ey,l⟩|⟨kvs,k,b,e,ey,eb,l⟩
 ·subst ey;obtain⟨z,hd,vs,rel,dd⟩:=vG I.cC e;refine wpAny_in_of (yX ry) hd dd.mapOf ?_;rw[←(rel.val k).lp,←l];exact h _ (I.tok _)
 ·subst ey;cases(show u=Value.ref b from ry);obtain⟨z,hd,xs,rel,dd⟩:=vH I.cC e;refine wpAny_in_heap (tupleKind_room_in1 hu) (o7 I.cC eb) hd dd ?_;have q:=(rel.val k).lp;rw[Option.isSome_map]at q;rw[←q,←l];exact h _ (I.tok _)
theorem LU{Q:Value→Shared→Prop}(hu:A.units+1<cLine)(I:Inv X pins σ H s)(g:lq H a y o)(ry:RelV y u)(h:∀s',Inv X pins σ H s'→Q (.bool (!o.isSome)) s'):
  wpAny (model X.prog X.w) A (compareOp .NotIn u (.ref a)) Q E s:=by
 rcases g with⟨kvs,k,e,ey,l⟩|⟨kvs,k,b,e,ey,eb,l⟩
 ·subst ey;obtain⟨z,hd,vs,rel,dd⟩:=vG I.cC e;refine wpAny_notIn_of (yX ry) hd dd.mapOf ?_;rw[←(rel.val k).lp,←l];exact h _ (I.tok _)
 ·subst ey;cases(show u=Value.ref b from ry);obtain⟨z,hd,xs,rel,dd⟩:=vH I.cC e;refine wpAny_notIn_heap (tupleKind_room_in1 hu) (o7 I.cC eb) hd dd ?_;have q:=(rel.val k).lp;rw[Option.isSome_map]at q;rw[←q,←l];exact h _ (I.tok _)
theorem zC{h':Heap}{t':Nat}{ob:HO}(I:Inv X pins σ H s)(mu:RX (H a))(hs:Heap.SameBut a s.heap h')(he:∃q,h'.get? a=some q)(new:dn X.prog X.w (upd H a ob) h' a ob):
  Inv X pins σ (upd H a ob) {s with heap:=h',toks:=t'}:=
 I.write (x:=a) (e:=a) mu (.inl rfl) (fun b q hb z=>(hs.2 b hb).trans z) he new
theorem O9{P:Program}{w:World}{H':Hp}{h':Heap}{kvs:List (Key×V)}{vs:List (Key×Value)}(z:kvs.length≤sizeLine)(hd:(a==sysModules)=false)(rel:KV kvs vs)(dd:h'.DictOf (dI P w) a vs):
  dn P w H' h' a (.dK kvs):=⟨z,hd,vs,rel,dd⟩
theorem Hn{H':Hp}{Q:Unit→Shared→Prop}(hu:A.units+1<cLine)(I:Inv X pins σ H s)(g:LS H a y v H')(ry:RelV y u)(rv:RelV v r)(h:∀s',Inv X pins σ H' s'→Q () s'):
  wpAny (model X.prog X.w) A (setItem (.ref a) u r) Q E s:=by
 rcases g with⟨kvs,k,e,ey,l,eH⟩|⟨kvs,k,b,e,ey,eb,l,eH⟩
 ·subst ey eH;obtain⟨z,hd,vs,rel,dd⟩:=Ss I.cC e;have hz:vs.length≤sizeLine:=by rw[←rel.length];exact z
  have hl:(putK kvs k v).length≤sizeLine:=by have:=gH kvs k v;omega
  refine wpAny_setItem_pairs (hsz:=hz) (yX ry) dd fun h' NH hs=>h _ ?_
  have he:∃q,h'.get? a=some q:=let ⟨q,_,_,hq,_⟩:=NH;⟨q,hq⟩
  exact zC I (by rw[e];exact True.intro) hs he (O9 hl hd (rel.put k rv) NH)
 ·subst ey eH;cases(show u=Value.ref b from ry);obtain⟨z,hd,xs,rel,dd⟩:=NG I.cC e;have hz:xs.length≤sizeLine:=by rw[←Paired.length rel];exact z
  have hl:(putK kvs k v).length≤sizeLine:=by have:=gH kvs k v;omega
  refine wpAny_setItem_heap (hsz:=hz) (tupleKind_room_in1 hu) (o7 I.cC eb) dd fun h' NH hs=>h _ ?_
  obtain⟨q,es,ep,hq,h2,h3,h4,_,h5⟩:=NH;refine zC I (by rw[e];exact True.intro) hs ⟨q,hq⟩ ⟨hl,hd,_,(rel.put k eb rv).keeps fun c ys ec=>?_,q,es,ep,hq,h2,h3,h4,h5⟩;rw[aj (jA ec e (fun z=>nomatch z))];exact ec
end
section
variable{X:Cx}{pins:List (Addr×Obj)}{σ:St}{H:Hp}{s:Shared}{a:Addr}{kvs:List (Key×V)}{k:Key}{u:Value}{A:Around}{E:Value→Shared→Prop}
end
def Su(i:Expr):Prop:=∀ov iv,subscripted i false ov iv=operate [ov,iv] (getItem ov iv)
theorem LV{prog:Program}{w:World}{A:Around}{E:Value→Shared→Prop}{s:Shared}{env:Env}{value slice:Expr}{pos:Pos}{T id:String}{Q:Value→Shared→Prop}
  (hl:typeLookup (.type T) "__getitem__"=pure (some (.builtin id))) (hs:Su slice)
  (h:wpAny (model prog w) A (eval value env) (fun o cM=>wpAny (model prog w) A (eval slice env) (fun i r4=>r4.TypeIs o T∧wpAny (model prog w) A (getItem o i) Q E r4) E cM) E s):
  wpAny (model prog w) A (eval (.Subscript value slice pos) env) Q E s:=by
 refine Subscript_ (wpAny_mono h (fun o cM zD=>wpAny_mono zD (fun i r4 zE=>?_) fun _ _ x=>x) fun _ _ x=>x);obtain⟨hT,zE⟩:=zE;unfold subscriptTail;refine wpAny_bind ?_;rw[getitemInPython_of_ne hT.not_modules];refine wpAny_bind (wpAny_specialOf hT hl ?_);have fin:wpAny (model prog w) A (subscripted slice false o i) (fun r Ho=>wpAny (model prog w) A (letTemporaryGo value o r>>=fun _=>pure r) Q E Ho) E r4:=by
  rw[hs o i];exact wpAny_operating (wpAny_mono zE (fun r Ho LW=>Θ (wpAny_letTemporaryGo (Δ LW))) fun _ _ x=>x)
 first
  |exact Δ (Θ fin)
  |exact Θ (Δ (Θ fin))
  |exact Θ fin
theorem CA{X:Cx}{pins:List (Addr×Obj)}{σ:St}{H:Hp}{s:Shared}{a:Addr}{y:V}{o:Option V}(I:Inv X pins σ H s)(g:lq H a y o):s.TypeIs (.ref a) "dict":=by
 rcases g with⟨kvs,k,e,_,_⟩|⟨kvs,k,b,e,_,_,_⟩
 ·obtain⟨_,_,vs,_,dd⟩:=vG I.cC e;exact dd.typeIs
 ·obtain⟨_,_,xs,_,dd⟩:=vH I.cC e;exact dd.typeIs
def Sw(td ty:TE):TE:=fun σ H Q=>td σ H fun x H1=>ty σ H1 fun y H2=>∃a v,x= .ref a∧lq H2 a y (some v)∧Q v H2
def WV(ty td:TE):TE:=fun σ H Q=>ty σ H fun y H1=>td σ H1 fun x H2=>∃a o,x= .ref a∧lq H2 a y o∧Q (.bl o.isSome) H2
def LX(ty td:TE):TE:=fun σ H Q=>ty σ H fun y H1=>td σ H1 fun x H2=>∃a o,x= .ref a∧lq H2 a y o∧Q (.bl (!o.isSome)) H2
def Sx(td ty tv:TE):TS:=fun D σ H=>tv σ H fun v H1=>td σ H1 fun x H2=>ty σ H2 fun y H3=>∃a H4,x= .ref a∧LS H3 a y v H4∧D.nx σ H4
section
variable{X:Cx}{o i e value:Expr}{pos pos' WR:Pos}{td ty tv:TE}
theorem jj(hu:X.A.units+1<cLine)(ho:PE X o td)(hi:PE X i ty)(hs:Su i):PE X (.Subscript o i pos) (Sw td ty):=by
 intro pins s σ H Q I h;refine LV PySem.F.slot_dict_getitem.lookup hs (cY (ho pins s σ H _ I h) fun u s1 ⟨x,H1,I1,rx,q1⟩=>cY (hi pins s1 σ H1 _ I1 q1) fun iv s2 ⟨y,H2,I2,ry,a,v,ex,g,q2⟩=>?_);subst ex;obtain rfl:u=Value.ref a:=rx;exact⟨CA I2 g,Hm hu I2 g ry fun w' s3 I3 mO=>⟨v,H2,I3,mO,q2⟩⟩
theorem vI(hu:X.A.units+1<cLine)(hi:PE X i ty)(ho:PE X o td):PC X .In i o (WV ty td):=by
 intro pins s σ H Q I h;refine cY (hi pins s σ H _ I h) fun iv s1 ⟨y,H1,I1,ry,q1⟩=>cY (ho pins s1 σ H1 _ I1 q1) fun u s2 ⟨x,H2,I2,rx,a,ov,ex,g,q2⟩=>?_
 subst ex;obtain rfl:u=Value.ref a:=rx;exact WU hu I2 g ry fun s3 I3=>⟨.bl ov.isSome,H2,I3,rfl,q2⟩
theorem Hq(hu:X.A.units+1<cLine)(hi:PE X i ty)(ho:PE X o td):PC X .NotIn i o (LX ty td):=by
 intro pins s σ H Q I h;refine cY (hi pins s σ H _ I h) fun iv s1 ⟨y,H1,I1,ry,q1⟩=>cY (ho pins s1 σ H1 _ I1 q1) fun u s2 ⟨x,H2,I2,rx,a,ov,ex,g,q2⟩=>?_
 subst ex;obtain rfl:u=Value.ref a:=rx;exact LU hu I2 g ry fun s3 I3=>⟨.bl (!ov.isSome),H2,I3,rfl,q2⟩
theorem nX(hu:X.A.units+1<cLine)(ho:PE X o td)(hi:PE X i ty)(hv:PE X value tv)(hs:swapsWith value (some (.Subscript o i pos')) pos.line X.env=pure false):
  PS X (.Assign [.Subscript o i pos'] value pos) (Sx td ty tv):=by
 intro pins s σ H D I h;refine wpAny_Assign_Subscript (cY (hv pins s σ H _ I h) fun r s1 ⟨v,H1,I1,rv,q1⟩=>cY (ho pins s1 σ H1 _ I1 q1) fun u s2 ⟨x,H2,I2,rx,q2⟩=>cY (hi pins s2 σ H2 _ I2 q2) fun iv s3 ⟨y,H3,I3,ry,a,H4,ex,g,q3⟩=>?_) hs;subst ex;obtain rfl:u=Value.ref a:=rx;exact Hn hu I3 g ry rv fun s4 I4=>⟨σ,H4,I4,q3⟩
end
theorem JI{P:Program}{w:World}{H:Hp}(h:Heap)(hb:sysModules<h.objs.size):dn P w H (h.push {cls:= .type "dict",data:= .dict #[]}) h.objs.size (.dT []):=
 ⟨Nat.zero_le _,beq_eq_false_iff_ne.mpr (Ne.symm (Nat.ne_of_lt hb)),[], .nil,_,#[],0,Heap.get?_push_size _ rfl,⟨rfl,rfl,rfl⟩,rfl,rfl,List.nodup_nil⟩
def O_:TE:=fun _ H Q=>∀p,H p=none→Q (.ref p) (upd H p (.dT []))
section
variable{X:Cx}{pos:Pos}
theorem m7:PE X (.Dict [] [] pos) O_:=fun pins s σ H Q I h=>
 wpAny_Dict_empty ⟨.ref s.heap.objs.size,_,I.laid (a:=s.heap.objs.size) (o:= .dT []) (t':=s.toks) (fun _ _ q=>Ο q) (Nat.le_refl _) (JI s.heap I.big),rfl,h _ (I.cC.fresh Ξ)⟩
end
structure M1(X:Cx)(o:Expr)(m:Str)(apos:Pos)(e:Expr)(fg:Pos):Prop where
 base:attributeBase o m X.env (eval o X.env)=eval o X.env
 Ca:((backTo fg (starEach [e] X.env)).all (fun x=>!x.1)&&(backToKw fg (keywordEach [] X.env)).all (fun x=>x.1.isSome)
  &&decide (([e]:List Expr).length+([]:List Keyword).length+(if ([]:List Keyword).isEmpty then 0 else 1)<30))=true
 line:(apos.endLine==fg.line)=true
 trees:backTo fg (starEach [e] X.env)=[(false,eval e X.env)]
def WW(H:Hp)(a:Addr):Prop:=(∃kvs,Rd H a (.dK kvs))∨∃kvs,Rd H a (.dT kvs)
theorem JJ{X:Cx}{pins:List (Addr×Obj)}{σ:St}{H:Hp}{s:Shared}{a:Addr}(I:Inv X pins σ H s)(d:WW H a):
  s.TypeIs (.ref a) "dict"∧(∀b,Value.ref a= .ref b→∃ob,s.heap.get? b=some ob∧ob.dict=none)∧(a==sysModules)=false:=by
 rcases d with⟨kvs,e⟩|⟨kvs,e⟩
 ·obtain⟨_,hd,vs,_,dd⟩:=vG I.cC e;refine⟨dd.typeIs,fun b q=>?_,hd⟩;cases q;obtain⟨ob,_,_,h1,h2,_⟩:=dd;exact⟨ob,h1,h2.2.1⟩
 ·obtain⟨_,hd,xs,_,dd⟩:=vH I.cC e;refine⟨dd.typeIs,fun b q=>?_,hd⟩;cases q;obtain⟨ob,_,_,h1,h2,_⟩:=dd;exact⟨ob,h1,h2.2.1⟩
section
variable{X:Cx}{pins:List (Addr×Obj)}{σ:St}{H:Hp}{s:Shared}{a:Addr}{y d:V}{u r:Value}{o:Option V}{A:Around}{E:Value→Shared→Prop}
theorem Pa{Q:Value→Shared→Prop}(hu:A.units+1<cLine)(I:Inv X pins σ H s)(g:lq H a y o)(ry:RelV y u)(h:∀w' s',Inv X pins σ H s'→RelV (o.getD .cF) w'→Q w' s'):
  wpAny (model X.prog X.w) A (call (.builtin "dict.get") [.ref a,u]) Q E s:=by
 rcases g with⟨kvs,k,e,ey,l⟩|⟨kvs,k,b,e,ey,eb,l⟩
 ·subst ey;obtain⟨z,hd,vs,rel,dd⟩:=vG I.cC e;refine call_meetsIn PySem.F.slot_dict_get dd.typeIs PySem.F.entry_dict_get (PySem.F.args_dict_get_2 _ _) (meets_dict_get (dI X.prog X.w) a (yX ry) hd) ⟨_,dd.mapOf,h _ _ (I.tok _) ?_⟩;rw[l];exact(rel.val k).getD rfl
 ·subst ey;cases(show u=Value.ref b from ry);obtain⟨z,hd,xs,rel,dd⟩:=vH I.cC e;refine call_meetsIn PySem.F.slot_dict_get dd.typeIs PySem.F.entry_dict_get (PySem.F.args_dict_get_2 _ _) (meetsH_dict_get (tupleKind (dI X.prog X.w)) a b hd) ⟨tupleKind_room_in1 hu,k,xs,o7 I.cC eb,dd,h _ _ (I.tok _) ?_⟩;rw[l];exact(rel.val k).getD rfl
end
def Pb(td ty:TE):TE:=fun σ H Q=>td σ H fun x H1=>∃a,x= .ref a∧WW H1 a∧ty σ H1 fun y H2=>∃o,lq H2 a y o∧Q (o.getD .cF) H2
section
variable{X:Cx}{o e f:Expr}{apos fg:Pos}{td ty tx:TE}
theorem JK(hu:X.A.units+1<cLine)(ho:PE X o td)(he:PE X e ty)(m:M1 X o "get" apos e fg):PE X (.Call (.Attribute o "get" apos) [e] [] fg) (Pb td ty):=by
 intro pins s σ H Q I h;refine wpAny_Call_method m.base m.Ca m.line PySem.F.plainAttrs_dict PySem.F.slot_dict_get PySem.F.type_dict_get (cY (ho pins s σ H _ I h) fun u s1 ⟨x,H1,I1,rx,a,ex,d,q1⟩=>?_);subst ex;obtain rfl:u=Value.ref a:=rx;obtain⟨t1,t2,_⟩:=JJ I1 d;refine⟨t1,t2,?_⟩;rw[m.trees];refine Calls.callWith_builtin rfl (Calls.evalArgs_plain (Calls.spliced_cons (cY (he pins s1 σ H1 _ I1 q1) fun iv s2 ⟨y,H2,I2,ry,ov,g,q2⟩=>Calls.spliced_nil ?_)));exact Pa hu I2 g ry fun w' s3 I3 mO=>⟨_,H2,I3,mO,q2⟩
end
section
variable{X:Cx}{pins:List (Addr×Obj)}{σ:St}{H:Hp}{s:Shared}{a:Addr}{kvs:List (Key×V)}{A:Around}{E:Value→Shared→Prop}
end
section
variable{X:Cx}{pins:List (Addr×Obj)}{σ:St}{H:Hp}{s:Shared}{a:Addr}{y:V}{u:Value}{A:Around}{E:Value→Shared→Prop}
end
end L2
namespace HT
open PySem PyProof.Rows
section
open PySem.SeqAt
open PySem.AutoSeq1 (wpAny_loadPart')
open PySem.MeetsSeq PySem.MeetsSeq2 PySem.MeetsSeq3
end
section
variable{prog:Program}{w:World}{A:Around}{E:Value→Shared→Prop}{s:Shared}
def lO(n d:Nat):Option Int→Nat
 |none=>d
 |some v=>if v<0 then(v+(n:Int)).toNat else min v.toNat n
theorem JL(n d:Nat):lO n d none=d:=rfl
theorem JM(n d:Nat)(hd:d≤n)(o:Option Int):lO n d o≤n:=by
 cases o with
 |none=>exact hd
 |some v=>
  show(if v<0 then(v+(n:Int)).toNat else min v.toNat n)≤n;by_cases hv:v<0
  ·rw[VH hv];omega
  ·rw[M9 hv];exact Nat.min_le_right _ _
end
end HT
namespace L2
open PySem PySem.Spec PyProof.Rows
abbrev TO:=St→Hp→(Option Int→Hp→Prop)→Prop
def PO(X:Cx)(e:Option Expr)(t:TO):Prop:=
 ∀(pins:List (Addr×Obj))(s:Shared)(σ:St)(H:Hp)(Q:Option Int→Hp→Prop),Inv X pins σ H s→t σ H Q→
  wpAny (model X.prog X.w) X.A (evalPart e X.env) (fun u s'=>∃o H',Inv X pins σ H' s'∧IsPart u o∧Q o H') X.xe s
def LY:TO:=fun _ H Q=>Q none H
def Sy(t:TE):TO:=fun σ H Q=>t σ H fun x H1=>∃i,x= .int i∧Q (some i) H1
section
variable{X:Cx}{e:Expr}{te:TE}{lo hi:Option Expr}{tl th:TO}{pos p2:Pos}
theorem p8:PO X none LY:=by
 intro pins s σ H Q I h;rw[evalPart_none];exact Δ ⟨none,H,I, .none,h⟩
theorem lP(h:PE X e te):PO X (some e) (Sy te):=by
 intro pins s σ H Q I hw;rw[evalPart_some];refine cY (h pins s σ H _ I hw) fun u s1 ⟨x,H1,I1,r1,q1⟩=>?_
 obtain⟨i,rfl,q⟩:=q1;obtain⟨t,rfl⟩:=r1;exact⟨some i,H1,I1, .int i t,q⟩
def Vw(X:Cx)(r:V→Option Int→Option Int→Hp→VK→Prop):Prop:=
 ∀(pins:List (Addr×Obj))(s:Shared)(σ:St)(H:Hp)(x:V)(v vl vu:Value)(lo hi:Option Int)(sl:Addr)(Q:VK),Inv X pins σ H s→RelV x v→s.heap.IsSliceOf sl vl vu .none→IsPart vl lo→IsPart vu hi→r x lo hi H Q→
  ∃T id,typeLookup (.type T) "__getitem__"=pure (some (.builtin id))∧s.TypeIs v T∧wpAny (model X.prog X.w) X.A (getItem v (.ref sl)) (EP X pins σ Q) X.xe s
def tSl(r:V→Option Int→Option Int→Hp→VK→Prop)(te:TE)(tl th:TO):TE:=fun σ H Q=>te σ H fun x H1=>tl σ H1 fun l H2=>th σ H2 fun u H3=>r x l u H3 Q
theorem lr{r:V→Option Int→Option Int→Hp→VK→Prop}(hr:Vw X r)(he:PE X e te)(hl:PO X lo tl)(hu:PO X hi th):PE X (.Subscript e (.Slice lo hi none p2) pos) (tSl r te tl th):=by
 intro pins s σ H Q I h;refine Subscript_ (cY (he pins s σ H _ I h) fun v s1 ⟨x,H1,I1,r1,q1⟩=>?_);refine wpAny_Slice (cY (hl pins s1 σ H1 _ I1 q1) fun vl s2 ⟨l,H2,I2,pl,q2⟩=>cY (hu pins s2 σ H2 _ I2 q2) fun vu s3 ⟨u,H3,I3,pu,q3⟩=>?_);rw[evalPart_none];refine wpAny_pure ?_;have I4:Inv X pins σ H3 {s3 with heap:=s3.heap.push {cls:= .type "slice",data:= .fields #[vl,vu, .none]}}:=I3.kept (t':=s3.toks) fun b ob q=>Ο q
 obtain⟨T,id,hT,ht,hg⟩:=hr pins {s3 with heap:=s3.heap.push {cls:= .type "slice",data:= .fields #[vl,vu, .none]}} σ H3 x v vl vu l u s3.heap.objs.size Q I4 r1 (Heap.IsSliceOf.new ..) pl pu q3;show wpAny (model X.prog X.w) X.A (subscriptTail e (.Slice lo hi none p2) v (.ref s3.heap.objs.size)) (EP X pins σ Q) X.xe {s3 with heap:=s3.heap.push {cls:= .type "slice",data:= .fields #[vl,vu, .none]}};exact tail_any (ops:=[.ref s3.heap.objs.size,v]) ht hT hg (by with_unfolding_all rfl)
def Ep(xs:List V)(lo hi:Option Int):List V:=(xs.drop (HT.lO xs.length 0 lo)).take (HT.lO xs.length xs.length hi-HT.lO xs.length 0 lo)
theorem CC(xs:List V)(lo hi:Option Int):(Ep xs lo hi).length≤xs.length:=by
 unfold Ep;rw[List.length_take,List.length_drop];omega
end
def JN(n:Nat)(i:Int):Option Nat:=if 0≤i then(if i<n then some i.toNat else none)else if-(n:Int)≤i then some (i+n).toNat else none
def xI{α:Type}(xs:List α)(i:Int):Option α:=(JN xs.length i).bind fun j=>xs[j]?
theorem Gh{n:Nat}{i:Int}{j:Nat}(h:JN n i=some j):seqIndex? i n=some j∧j<n∧-(n:Int)≤i∧i<n:=by
 unfold JN at h;by_cases h0:0≤i
 ·rw[VH h0]at h;by_cases h1:i<n
  ·rw[VH h1]at h;have e:i.toNat=j:=Ρ h;exact⟨by rw[seqIndex_of h0 h1,e],Τ,Τ,h1⟩
  ·rw[M9 h1]at h;cases h
 ·rw[M9 h0]at h;by_cases h1:-(n:Int)≤i
  ·rw[VH h1]at h;have e:(i+n).toNat=j:=Ρ h;exact⟨by rw[seqIndex_neg (Τ) h1,e],Τ,h1,Τ⟩
  ·rw[M9 h1]at h;cases h
theorem zF{α:Type}{xs:List α}{i:Int}{v:α}(h:xI xs i=some v):∃j,seqIndex? i xs.length=some j∧xs[j]?=some v∧j<xs.length∧-(xs.length:Int)≤i∧i<xs.length:=by
 unfold xI at h;cases e:JN xs.length i with
 |none=>rw[e]at h;cases h
 |some j=>
  rw[e]at h;obtain⟨h1,h2,h3,h4⟩:=Gh e;exact⟨j,h1,h,h2,h3,h4⟩
theorem aS{α:Type}{xs:List α}{j:Nat}{v:α}(h:xs[j]?=some v):xI xs (j:Int)=some v:=by
 have hj:j<xs.length:=(Η h).1;have e:JN xs.length (j:Int)=some j:=by
  unfold JN;rw[if_pos (Τ),if_pos (Τ)];simp
 unfold xI;rw[e];exact h
theorem CD{α:Type}(xs:List α)(v:α):xI (xs++[v]) (-1)=some v:=by
 have hl:(xs++[v]).length=xs.length+1:=Xx;have e:JN (xs++[v]).length (-1)=some xs.length:=by
  unfold JN;rw[hl,if_neg Ε,if_pos (Τ)]
  congr 1
  omega
 unfold xI;rw[e];show(xs++[v])[xs.length]?=some v;simp
def LZ(b:Expr):Prop:=∀o i,subscripted b false o i=operate [o,i] (getItem o i)
def Q8(X:Cx)(r:R2):Prop:=
 ∀(value slice:Expr)(pins:List (Addr×Obj))(s:Shared)(σ:St)(H:Hp)(x y:V)(v u:Value)(Q:VK),Inv X pins σ H s→RelV x v→RelV y u→r x y H Q→
  subscripted slice false v u=operate [v,u] (getItem v u)→wpAny (model X.prog X.w) X.A (subscriptTail value slice v u) (EP X pins σ Q) X.xe s
def Vx(X:Cx)(id:String)(r:V→List V→Hp→VK→Prop):Prop:=
 ∀(pins:List (Addr×Obj))(s:Shared)(σ:St)(H:Hp)(x:V)(xs:List V)(v:Value)(us:List Value)(Q:VK),Inv X pins σ H s→RelV x v→Vals xs us→r x xs H Q→
  wpAny (model X.prog X.w) X.A (call (.builtin id) (v::us)) (EP X pins σ Q) X.xe s
section
variable{X:Cx}{a b:Expr}{ta tb:TE}{pos:Pos}
theorem bo{r:R2}(hr:Q8 X r)(ha:PE X a ta)(hb:PE X b tb)(hs:LZ b):PE X (.Subscript a b pos) (Vu r ta tb):=by
 intro pins s σ H Q I h;exact Subscript_ (O1 ha hb I h fun v u s2 x y H2 I2 rx ry q=>hr a b pins s2 σ H2 x y v u Q I2 rx ry q (hs _ _))
inductive Pc(K:PySem.W.Frag)(x:V)(y:V)(H:Hp)(Q:VK):Prop
 |mk (p:_) (xs:_) (i:_) (v:_) (_:x= .ref p) (_:y= .int i) (_:jT K H p xs) (_:xI xs i=some v) (_:Q v H):Pc K x y H Q
inductive Pd(K:PySem.W.Frag)(x:V)(y:V)(H:Hp)(Q:VK):Prop
 |mk (p:_) (xs:_) (i:_) (v:_) (_:x= .ref p) (_:y= .int i) (_:Jc K H p xs) (_:xI xs i=some v) (_:Q v H):Pd K x y H Q
inductive Sz(x:V)(y:V)(H:Hp)(Q:VK):Prop
 |mk (z:_) (i:_) (c:_) (_:x= .str z) (_:y= .int i) (_:z.length≤sizeLine) (_:xI z.cps.toList i=some c) (_:Q (.str ⟨#[c]⟩) H):Sz x y H Q
theorem L5:Q8 X (Pc X.K):=by
 intro value slice pins s σ H x y v u Q I rx ry h hs;obtain⟨p,xs,i,z,rfl,rfl,hq,he,q⟩:=h;cases rx;obtain⟨t,rfl⟩:=ry;obtain⟨its,r,pl,hz⟩:=I.list hq;obtain⟨j,h1,h2,h3,h4,h5⟩:=zF he;obtain⟨w,ew,mO⟩:=r.get h2;have hl:=r.length;have hn:=oZ;have fin:EP X pins σ Q w s:=⟨z,H,I,mO,q⟩
 by_cases h0:0≤i
 ·have hj:i.toNat=j:=by
   rw[seqIndex_of h0 h5]at h1;exact Ρ h1
  exact item_listR pl.isList h0 (Τ) (by rw[hj];simpa using ew) fin hs
 ·have hj:(i+(its.toArray.size:Int)).toNat=j:=by
   rw[seqIndex_neg (Τ) h4]at h1;rw[List.size_toArray,←hl];exact Ρ h1
  exact subscriptTail_builtinR (x:=w) pl.isList.typeIs slot_list_getitem.lookup
   (wpAny_getItem_list_neg (Q:=fun r s'=>r=w∧EP X pins σ Q r s') pl.isList (Τ) (by rw[List.size_toArray]<;>omega) (Τ) (by rw[hj];simpa using ew) ⟨rfl,fin⟩) hs
theorem Pe:Q8 X (Pd X.K):=by
 intro value slice pins s σ H x y v u Q I rx ry h hs;obtain⟨p,xs,i,z,rfl,rfl,hq,he,q⟩:=h;cases rx;obtain⟨t,rfl⟩:=ry;obtain⟨its,r,pl,hz⟩:=I.tuple hq;obtain⟨j,h1,h2,h3,h4,h5⟩:=zF he;obtain⟨w,ew,mO⟩:=r.get h2;have hl:=r.length;have hn:=oZ;have fin:EP X pins σ Q w s:=⟨z,H,I,mO,q⟩
 exact subscriptTail_builtinR (x:=w) pl.typeIs slot_tuple_getitem.lookup
  (getItem_tuple (j:=j) (Q:=fun r s'=>r=w∧EP X pins σ Q r s') pl (Τ) (Τ) (by rw[List.size_toArray,←hl];exact h1) (by simpa using ew) ⟨rfl,fin⟩) hs
theorem zG:Q8 X Sz:=by
 intro value slice pins s σ H x y v u Q I rx ry h hs;obtain⟨z,i,c,rfl,rfl,hz,he,q⟩:=h;obtain⟨t,rfl⟩:=rx;obtain⟨t',rfl⟩:=ry;obtain⟨j,h1,h2,h3,h4,h5⟩:=zF he;have hl:z.cps.toList.length=z.length:=by simp[Str.length]
 rw[hl]at h1 h4 h5;have hn:=oZ;exact tail_any (typeIs_str s z t) slot_str_getitem.lookup (getItem_str (c:=c) (by
  have e1:decide (i< -(2^63:Int))=false:=decide_eq_false (Τ);have e2:decide (i≥2^63)=false:=decide_eq_false (Τ);rw[e1,e2,Bool.or_false]) (by rw[h1];simpa using h2) ⟨.str ⟨#[c]⟩,H,I.tok _,⟨_,rfl⟩,q⟩) hs
theorem Es(its:List Value)(n j:Nat)(u:Value):Obj.mapSeq (·.setIfInBounds j u) {cls:= .type "list",data:= .seq its.toArray n}={cls:= .type "list",data:= .seq (its.set j u).toArray n}:=by
 simp[Obj.mapSeq]
theorem Inv.lst{pins:List (Addr×Obj)}{σ:St}{H:Hp}{s:Shared}{p:Addr}{xs:List V}(I:Inv X pins σ H s)(h:H p=some (.lst xs)):
  ∃(its:List Value)(n:Nat),Vals xs its∧s.heap.get? p=some {cls:= .type "list",data:= .seq its.toArray n}∧xs.length≤sizeLine:=by
 obtain⟨z,its,n,r,e⟩:=I.cC p _ h;exact⟨its,n,r,e,z⟩
theorem Inv.Pf{pins:List (Addr×Obj)}{σ:St}{H:Hp}{s:Shared}{p:Addr}{xs ys:List V}{its its':List Value}{n n':Nat}{f:Obj→Obj}(I:Inv X pins σ H s)(h:H p=some (.lst xs))
  (ho:s.heap.get? p=some {cls:= .type "list",data:= .seq its.toArray n}) (hf:f {cls:= .type "list",data:= .seq its.toArray n}={cls:= .type "list",data:= .seq its'.toArray n'}) (r:Vals ys its') (hz:ys.length≤sizeLine) (t:Nat):
  Inv X pins σ (upd H p (.lst ys)) {s with heap:=s.heap.update p f,toks:=t}:=by
 have e:(s.heap.update p f).get? p=some {cls:= .type "list",data:= .seq its'.toArray n'}:=by
  rw[Heap.get?_update_self f ho (by rw[hf]<;>rfl),hf]
 refine I.write (x:=p) (e:=p) (by rw[h];trivial) (.inl rfl) (fun b u hb q=>(Heap.get?_update_other _ _ (Ne.symm hb)).trans q) ⟨_,e⟩ ?_;exact⟨hz,its',n',r,e⟩
inductive NI(o:V)(i:V)(v:V)(H:Hp)(Q:(Hp→Prop)):Prop
 |mk (p:_) (xs:_) (k:_) (j:_) (_:o= .ref p) (_:i= .int k) (_:H p=some (.lst xs)) (_:JN xs.length k=some j) (_:Q (upd H p (.lst (xs.set j v)))):NI o i v H Q
theorem set_list:R9 X NI:=by
 intro pins s σ H o i v ov iv u Q I ro ri rv h;obtain⟨p,xs,k,j,rfl,rfl,hp,hj,q⟩:=h;cases ro;obtain⟨t,rfl⟩:=ri;obtain⟨its,n,r,ho,hz⟩:=I.lst hp;obtain⟨h1,h2,h3,h4⟩:=Gh hj;have hl:=r.length;have hn:=oZ;have I':Inv X pins σ (upd H p (.lst (xs.set j v))) {s with heap:=s.heap.update p (Obj.mapSeq (·.setIfInBounds j u))}:=
  I.Pf hp ho (Es its n j u) (r.set rv j) (by rw[List.length_set];exact hz) s.toks
 by_cases h0:0≤k
 ·have hk:k.toNat=j:=by
   rw[seqIndex_of h0 h4]at h1;exact Ρ h1
  exact PySem.W.ki_setAt ho h0 (Τ) (by rw[List.size_toArray,←hl];exact h4) (by rw[hk];exact⟨_,I',q⟩)
 ·have hk:(k+(its.toArray.size:Int)).toNat=j:=by
   rw[seqIndex_neg (Τ) h3]at h1;rw[List.size_toArray,←hl];exact Ρ h1
  exact PySem.W.ki_setBack ho (Τ) (by rw[List.size_toArray,←hl];exact h3) (Τ) (by rw[hk];exact⟨_,I',q⟩)
theorem zH(lo hi:Option Int)(n:Nat):(sliceBounds lo hi none n).1=((HT.lO n 0 lo:Nat):Int)∧(sliceBounds lo hi none n).2.1=((HT.lO n n hi:Nat):Int)∧(sliceBounds lo hi none n).2.2=1:=by
 refine⟨?_,?_,rfl⟩
 ·cases lo with
  |none=>simp[sliceBounds,HT.lO]
  |some i=>
   simp only[sliceBounds,HT.lO,Option.getD_none,show(1:Int)>0 by decide,if_true];by_cases h:i<0
   ·simp only[h,if_true]<;>lia
   ·simp only[h,if_false]<;>lia
 ·cases hi with
  |none=>simp[sliceBounds,HT.lO]
  |some i=>
   simp only[sliceBounds,HT.lO,Option.getD_none,show(1:Int)>0 by decide,if_true];by_cases h:i<0
   ·simp only[h,if_true]<;>lia
   ·simp only[h,if_false]<;>lia
theorem xP(its:List Value)(lo hi:Option Int):slicePick its.toArray lo hi none=((its.drop (HT.lO its.length 0 lo)).take (HT.lO its.length its.length hi-HT.lO its.length 0 lo)).toArray:=by
 obtain⟨h1,h2,h3⟩:=zH lo hi its.toArray.size;unfold slicePick;rw[h1,h2,h3];simp only[sliceRange_one,pick_run,List.size_toArray]<;>rfl
inductive Pg(K:PySem.W.Frag)(x:V)(lo:Option Int)(hi:Option Int)(H:Hp)(Q:VK):Prop
 |mk (a:_) (xs:_) (_:x= .ref a) (_:jT K H a xs) (_:∀p,H p=none→Q (.ref p) (upd H p (.lst (Ep xs lo hi)))):Pg K x lo hi H Q
theorem L_:Vw X (Pg X.K):=by
 intro pins s σ H x v vl vu lo hi sl Q I rx hs pl pu h;obtain⟨a,xs,rfl,hx,q⟩:=h;cases rx;obtain⟨its,r,ht,hz⟩:=I.list hx;have hlen:=r.length;refine⟨"list",_,slot_list_getitem.lookup,ht.isList.typeIs,?_⟩;refine wpAny_getItem_list_slice ht.isList hs pl pu .none (Xx) ?_ (by rw[List.size_toArray]<;>omega);rw[xP,←hlen];refine⟨.ref s.heap.objs.size,_,I.laid (t':=s.toks) (o:= .lst (Ep xs lo hi)) (fun b ob q=>Ο q) (Nat.le_refl _) ?_,rfl,q _ (I.cC.fresh Ξ)⟩;exact⟨Nat.le_trans (CC xs lo hi) hz,_,0,(r.drop (HT.lO xs.length 0 lo)).take (HT.lO xs.length xs.length hi-HT.lO xs.length 0 lo),Heap.get?_push_size _ rfl⟩
def f_:V→Bool
 | .cF=>true
 | .bl _=>true
 | .int _=>true
 | .str _=>true
 | _=>false
def kO:V→V→Bool
 | .cF, .cF=>true
 | .bl a, .bl b=>a==b
 | .bl a, .int b=>(if a then 1 else 0)==b
 | .int a, .bl b=>a==(if b then 1 else 0)
 | .int a, .int b=>a==b
 | .str a, .str b=>a==b
 | _,_=>false
theorem sd{A:Around}{s:Shared}{y x:V}{u v:Value}(ry:RelV y u)(rx:RelV x v)(fy:f_ y=true)(fx:f_ x=true):SeqAt.EqAt A s u v (kO y x):=by
 cases y with
 |cF=>
  cases ry;cases x with
  |cF=>cases rx;exact SeqAt.EqAt.same _
  |bl b=>cases rx;exact SeqAt.EqAt.none_bool b
  |int b=>obtain⟨t,rfl⟩:=rx;exact SeqAt.EqAt.none_int b t
  |str b=>obtain⟨t,rfl⟩:=rx;exact SeqAt.EqAt.none_str b t
  | _=>exact absurd (show false=true from fx) Bool.false_ne_true
 |bl a=>
  cases ry;cases x with
  |cF=>cases rx;exact SeqAt.EqAt.bool_none a
  |bl b=>cases rx;exact SeqAt.EqAt.bool_bool a b
  |int b=>obtain⟨t,rfl⟩:=rx;exact SeqAt.EqAt.bool_int a b t
  |str b=>obtain⟨t,rfl⟩:=rx;exact SeqAt.EqAt.bool_str a b t
  | _=>exact absurd (show false=true from fx) Bool.false_ne_true
 |int a=>
  obtain⟨t',rfl⟩:=ry;cases x with
  |cF=>cases rx;exact SeqAt.EqAt.int_none a t'
  |bl b=>cases rx;exact SeqAt.EqAt.int_bool a t' b
  |int b=>obtain⟨t,rfl⟩:=rx;exact SeqAt.EqAt.int_int a t' b t
  |str b=>obtain⟨t,rfl⟩:=rx;exact SeqAt.EqAt.int_str a t' b t
  | _=>exact absurd (show false=true from fx) Bool.false_ne_true
 |str a=>
  obtain⟨t',rfl⟩:=ry;cases x with
  |cF=>cases rx;exact SeqAt.EqAt.str_none a t'
  |bl b=>cases rx;exact SeqAt.EqAt.str_bool a t' b
  |int b=>obtain⟨t,rfl⟩:=rx;exact SeqAt.EqAt.str_int a t' b t
  |str b=>obtain⟨t,rfl⟩:=rx;exact SeqAt.EqAt.str_str a t' b t
  | _=>exact absurd (show false=true from fx) Bool.false_ne_true
 | _=>exact absurd (show false=true from fy) Bool.false_ne_true
def Hr(x:V)(u:Value):Bool:=match u with
 | .none=>kO .cF x
 | .bool b=>kO (.bl b) x
 | .int i _=>kO (.int i) x
 | .str z _=>kO (.str z) x
 | _=>false
theorem zI{x y:V}{u:Value}(r:RelV y u)(f:f_ y=true):Hr x u=kO y x:=by
 cases y with
 |cF=>cases r;rfl
 |bl b=>cases r;rfl
 |int i=>obtain⟨t,rfl⟩:=r;rfl
 |str z=>obtain⟨t,rfl⟩:=r;rfl
 | _=>exact absurd (show false=true from f) Bool.false_ne_true
theorem zJ{x:V}:∀{xs:List V}{us:List Value},Vals xs us→xs.all f_=true→us.any (Hr x)=xs.any fun y=>kO y x
 | _,_, .nil,_=>rfl
 |y::xs,u::us, .cons r t,f=>by
  rw[List.all_cons,Bool.and_eq_true]at f;rw[List.any_cons,List.any_cons,zI r f.1,zJ t f.2]
theorem m8{A:Around}{s:Shared}{x:V}{v:Value}(rx:RelV x v)(fx:f_ x=true):∀{xs:List V}{us:List Value},Vals xs us→xs.all f_=true→∀u∈us,SeqAt.EqAt A s u v (Hr x u)
 | _,_, .nil,_=>fun u hu=>by cases hu
 |y::xs,u::us, .cons r t,f=>fun u' hu=>by
  rw[List.all_cons,Bool.and_eq_true]at f;rcases List.mem_cons.mp hu with rfl|hu
  ·rw[zI r f.1];exact sd r rx f.1 fx
  ·exact m8 rx fx t f.2 u' hu
def Vy(x:V)(xs:List V):Bool:=xs.any fun y=>kO y x
def Ze(K:PySem.W.Frag)(neg:Bool):R2:=fun x y H Q=>∃p xs,y= .ref p∧(jT K H p xs∨Jc K H p xs)∧f_ x=true∧xs.all f_=true∧Q (.bl (if neg then !Vy x xs else Vy x xs)) H
theorem Hs:rX X (compareOp .In) (Ze X.K false):=by
 intro pins s σ H x y v u Q I rx ry h;obtain⟨p,xs,rfl,hq,fx,fs,q⟩:=h;cases ry;rcases hq with hq|hq
 ·obtain⟨its,r,pl,hz⟩:=I.list hq;refine SeqAt.in_listAt (Hr x) pl.isList (fun w hw=>m8 rx fx r fs w (by simpa using hw)) ⟨.bl _,H,I,rfl,?_⟩;rw[show its.toArray.any (Hr x)=its.any (Hr x) by simp,zJ r fs];exact q
 ·obtain⟨its,r,pl,hz⟩:=I.tuple hq;refine SeqAt.in_tupleAt (Hr x) pl (fun w hw=>m8 rx fx r fs w (by simpa using hw)) ⟨.bl _,H,I,rfl,?_⟩;rw[show its.toArray.any (Hr x)=its.any (Hr x) by simp,zJ r fs];exact q
theorem zK:rX X (compareOp .NotIn) (fun x y H Q=>∃i j,x= .str i∧y= .str j∧Q (.bl (!(!(Builtin.Str.occurrences j i 0 j.length 1).isEmpty))) H):=by
 intro pins s σ H x y v u Q I rx ry h;obtain⟨i,j,rfl,rfl,q⟩:=h;obtain⟨t,rfl⟩:=rx;obtain⟨t',rfl⟩:=ry;exact notIn_str ⟨.bl _,H,I,rfl,q⟩
theorem zL:jB X (.builtin "len") (fun xs H Q=>∃p ys,xs=[.ref p]∧(jT X.K H p ys∨Jc X.K H p ys)∧Q (.int ys.length) H):=by
 intro pins s σ H xs us Q I r h;obtain⟨p,ys,rfl,hq,q⟩:=h;obtain⟨u,rfl,rx⟩:=vals1 r;cases rx;have hn:=oZ;rcases hq with hq|hq
 ·obtain⟨its,r',pl,hz⟩:=I.list hq;have hlen:=r'.length;exact Calls.call_len_list pl.isList (by simp only[List.size_toArray]<;>omega) ⟨.int ys.length,H,I.tok _,⟨s.toks+1,by rw[List.size_toArray,hlen]⟩,q⟩
 ·obtain⟨its,r',pl,hz⟩:=I.tuple hq;have hlen:=r'.length;exact len_tuple pl (by simp only[List.size_toArray]<;>omega) ⟨.int ys.length,H,I.tok _,⟨s.toks+1,by rw[List.size_toArray,hlen]⟩,q⟩
theorem jk:jB X (.builtin "len") (fun xs H Q=>∃z,xs=[.str z]∧z.length≤sizeLine∧Q (.int z.length) H):=by
 intro pins s σ H xs us Q I r h;obtain⟨z,rfl,hz,q⟩:=h;obtain⟨u,rfl,t,rfl⟩:=vals1 r;have hn:=oZ;exact len_str (Τ) ⟨.int z.length,H,I.tok _,⟨_,rfl⟩,q⟩
theorem zM:jB X (.type "list") (fun xs H Q=>∃p ys,xs=[.ref p]∧(jT X.K H p ys∨Jc X.K H p ys)∧∀l,H l=none→Q (.ref l) (upd H l (.lst ys))):=by
 intro pins s σ H xs us Q I r h;obtain⟨p,ys,rfl,hq,q⟩:=h;obtain⟨u,rfl,rx⟩:=vals1 r;cases rx;have fin:∀(its:List Value),Vals ys its→ys.length≤sizeLine→∀(h':Heap)(c':Nat),(∀b o',s.heap.get? b=some o'→h'.get? b=some o')→
   h'.get? s.heap.objs.size=some {cls:= .type "list",dict:=none,data:= .seq its.toArray c',slots:=#[]}→EP X pins σ Q (.ref s.heap.objs.size) {s with heap:=h'}:=fun its r' hz h' c' kp e=>
  ⟨.ref s.heap.objs.size,_,I.laid (t':=s.toks) kp Ξ (show dn X.prog X.w _ h' _ (.lst ys)from⟨hz,its,c',r',e⟩),rfl,q _ (I.cC.fresh Ξ)⟩
 rcases hq with hq|hq
 ·obtain⟨its,r',pl,hz⟩:=I.list hq;have hlen:=r'.length;obtain⟨o,ho,hc,n,hd⟩:=pl.isList;exact call_list_seq p (.inl rfl) ho hc hd (fun h' c' kp e=>fin its r' hz h' c' kp e) (by simp only[List.size_toArray]<;>omega)
 ·obtain⟨its,r',pl,hz⟩:=I.tuple hq;have hlen:=r'.length;obtain⟨o,ho,hc,n,hd⟩:=pl;exact call_list_seq p (.inr rfl) ho hc hd (fun h' c' kp e=>fin its r' hz h' c' kp e) (by simp only[List.size_toArray]<;>omega)
def WX(K:PySem.W.Frag)(T:String)(x:V)(H:Hp):Prop:=match x with
 | .str _=>T="str"
 | .int _=>T="int"
 | .ref p=>(T="list"∧∃xs,jT K H p xs)∨(T="tuple"∧∃o,K.lookup p=some o∧o.cls= .type "tuple"∧o.dict=none)∨
   (T="dict"∧((∃kvs,H p=some (.dK kvs))∨∃kvs,H p=some (.dT kvs)))∨(T="set"∧∃S n,H p=some (.set S n))
 | _=>False
theorem JO{pins:List (Addr×Obj)}{σ:St}{H:Hp}{s:Shared}{T:String}{x:V}{v:Value}(I:Inv X pins σ H s)(r:RelV x v)(ty:WX X.K T x H):
  s.TypeIs v T∧∀a,v= .ref a→∃ob,s.heap.get? a=some ob∧ob.dict=none:=by
 cases x with
 |str z=>
  obtain⟨t,rfl⟩:=r;cases(show T="str" from ty);exact⟨typeIs_str s z t,fun _ e=>nomatch e⟩
 |int i=>
  obtain⟨t,rfl⟩:=r;cases(show T="int" from ty);exact⟨typeIs_int s i t,fun _ e=>nomatch e⟩
 |ref p=>
  cases r;rcases ty with⟨rfl,xs,hq⟩|⟨rfl,o,hk,hc,hd⟩|⟨rfl,hk⟩|⟨rfl,S,n,hk⟩
  ·obtain⟨its,_,pl,_⟩:=I.list hq;refine⟨pl.isList.typeIs,fun a e=>?_⟩;cases e;obtain⟨o,n,e,c,hd,_⟩:=pl;exact⟨o,e,hd⟩
  ·refine⟨⟨o,I.pZ p o hk,hc⟩,fun a e=>?_⟩;cases e;exact⟨o,I.pZ _ o hk,hd⟩
  ·have z:∃o,s.heap.get? p=some o∧o.ExactDict:=by
    rcases hk with⟨kvs,hk⟩|⟨kvs,hk⟩
    ·obtain⟨_,_,_,_,o,_,_,e,ex,_⟩:=I.cC p _ hk;exact⟨o,e,ex⟩
    ·obtain⟨_,_,_,_,o,_,_,e,ex,_⟩:=I.cC p _ hk;exact⟨o,e,ex⟩
   obtain⟨o,e,ex⟩:=z;refine⟨⟨o,e,ex.1⟩,fun a e2=>?_⟩;cases e2;exact⟨o,e,ex.2.1⟩
  ·obtain⟨o,_,_,_,e,ex,_⟩:=I.cC p _ hk;refine⟨⟨o,e,ex.1⟩,fun a e2=>?_⟩;cases e2;exact⟨o,e,ex.2.1⟩
 | _=>exact False.elim ty
def SA(K:PySem.W.Frag)(T:String)(r:V→List V→Hp→VK→Prop)(to:TE):TE:=fun σ H Q=>to σ H fun x H1=>WX K T x H1∧r x [] H1 Q
def Zf(K:PySem.W.Frag)(T:String)(r:V→List V→Hp→VK→Prop)(to:TE)(t:TA):TE:=fun σ H Q=>to σ H fun x H1=>WX K T x H1∧t σ H1 fun xs H2=>r x xs H2 Q
variable{o e:Expr}{es:List Expr}{to:TE}{t:TA}{name:Str}{apos fg:Pos}{T id:String}{r:V→List V→Hp→VK→Prop}
theorem Ph(pa:PlainAttrs T)(slot:Slot T name id)(Jd:typeOf (.builtin id)=pure (.type "method_descriptor"))(hm:Vx X id r)(ho:PE X o to)
  (p9:attributeBase o name X.env (eval o X.env)=eval o X.env:=by rfl) (m9:(apos.endLine==fg.line)=true:=by rfl):PE X (.Call (.Attribute o name apos) [] [] fg) (SA X.K T r to):=by
 intro pins s σ H Q I h;refine wpAny_Call_method0_late p9 m9 (cY (ho pins s σ H _ I h) fun v s1 ⟨x,H1,I1,r1,ty,q1⟩=>?_);obtain⟨h1,h2⟩:=JO I1 r1 ty;exact⟨T,id,pa,slot,Jd,h1,h2,Calls.callWith_builtin rfl (PySem.evalArgs_none (hm pins s1 σ H1 x [] v [] Q I1 r1 .nil q1))⟩
theorem SD(pa:PlainAttrs T)(slot:Slot T name id)(Jd:typeOf (.builtin id)=pure (.type "method_descriptor"))(hm:Vx X id r)(ho:PE X o to)(ha:PA X (e::es) t)
  (p9:attributeBase o name X.env (eval o X.env)=eval o X.env:=by rfl)
  (L':((backTo fg (starEach (e::es) X.env)).all (fun x=>!x.1)&&(backToKw fg (keywordEach [] X.env)).all (fun x=>x.1.isSome)
   &&decide ((e::es).length+([]:List Keyword).length+(if ([]:List Keyword).isEmpty then 0 else 1)<30))=true:=by rfl)
  (m9:(apos.endLine==fg.line)=true:=by rfl) (hs:starEach (e::es) X.env=(false,eval e X.env)::starEach es X.env:=by rfl) (Et:(backTo fg (starEach es X.env)).any (·.1)=false:=by rfl):
  PE X (.Call (.Attribute o name apos) (e::es) [] fg) (Zf X.K T r to t):=by
 intro pins s σ H Q I h;refine wpAny_Call_method_late p9 L' m9 rfl (cY (ho pins s σ H _ I h) fun v s1 ⟨x,H1,I1,r1,ty,q1⟩=>?_);obtain⟨h1,h2⟩:=JO I1 r1 ty;refine⟨T,id,pa,slot,Jd,h1,h2,?_⟩;have hA:=ha fg pins s1 σ H1 _ I1 q1;rw[hs]at hA⊢;refine Calls.callWith_builtin (by show(false||(backTo fg (starEach es X.env)).any (·.1))=false;rw[Et]<;>rfl) (Calls.evalArgs_plain ?_);exact cY hA fun us s2 ⟨vs,H2,I2,r2,q2⟩=>hm pins s2 σ H2 x vs v us Q I2 r1 r2 q2
end
def SE(X:Cx)(id:String)(r:V→List V→Hp→VK→Prop):Prop:=
 ∀(pins:List (Addr×Obj))(s:Shared)(σ:St)(H:Hp)(x:V)(xs:List V)(v:Value)(us:List Value)(Q:VK),Inv X pins σ H s→RelV x v→Vals xs us→r x xs H Q→
  wpAny (model X.prog X.w) X.A (call (.builtin id) (v::us)) (EP X pins σ Q) X.xe s
theorem Vals.one:∀{x:V}{us:List Value},Vals [x] us→∃u,us=[u]∧RelV x u
 | _,_, .cons r .nil=>⟨_,rfl,r⟩
theorem Vals.zero:∀{us:List Value},Vals [] us→us=[]
 | _, .nil=>rfl
theorem Vals.reverse{xs:List V}{us:List Value}(h:Vals xs us):Vals xs.reverse us.reverse:=by
 induction h with
 |nil=>exact .nil
 |cons r t ih=>rw[List.reverse_cons,List.reverse_cons];exact Vals.append ih (.cons r .nil)
theorem Vals.rep{xs:List V}{us:List Value}(h:Vals xs us):∀k:Nat,Vals (List.replicate k xs).flatten (List.replicate k us).flatten
 |0=> .nil
 |k+1=>by
  rw[List.replicate_succ,List.replicate_succ,List.flatten_cons,List.flatten_cons];exact Vals.append h (Vals.rep h k)
theorem foldl_rep(its:List Value):∀(k:Nat)(acc:List Value),
  List.foldl (fun x1 x2=>x1++x2) acc.toArray (List.replicate k its.toArray)=(acc++(List.replicate k its).flatten).toArray
 |0,acc=>Xx
 |k+1,acc=>by
  have e:acc.toArray++its.toArray=(acc++its).toArray:=Xx;have e2:(acc++its)++(List.replicate k its).flatten=acc++(List.replicate (k+1) its).flatten:=by
   rw[List.replicate_succ,List.flatten_cons,List.append_assoc]
  rw[←e2,←foldl_rep its k (acc++its),←e,List.replicate_succ,List.foldl_cons]
section
variable{X:Cx}{pins:List (Addr×Obj)}{σ:St}{H:Hp}{s:Shared}{l b:Addr}{xs ys zs:List V}
theorem Inv.Pj{its its':List Value}{n:Nat}{f:Array Value→Array Value}{t':Nat}(I:Inv X pins σ H s)(hH:H l=some (.lst xs))
  (e:s.heap.get? l=some {cls:= .type "list",data:= .seq its.toArray n}) (hf:f its.toArray=its'.toArray) (hv:Vals ys its') (hz:ys.length≤sizeLine):
  Inv X pins σ (upd H l (.lst ys)) {s with heap:=s.heap.update l (Obj.mapSeq f),toks:=t'}:=by
 have q:=PySem.IsL.update e f;rw[hf]at q;refine I.write (x:=l) (e:=l) (by rw[hH];exact trivial) (.inl rfl) (fun b' u hb hu=>(Heap.get?_update_other s.heap (Obj.mapSeq f) (Ne.symm hb)).trans hu) ⟨_,q⟩ ?_;exact⟨hz,its',_,hv,q⟩
theorem Inv.SF{its:List Value}{t':Nat}(I:Inv X pins σ H s)(hv:Vals ys its)(hz:ys.length≤sizeLine):
  Inv X pins σ (upd H s.heap.objs.size (.lst ys)) {s with heap:=s.heap.push {cls:= .type "list",data:= .seq its.toArray},toks:=t'}:=
 I.laid (fun _ _ q=>Ο q) (Nat.le_refl _) ⟨hz,its,0,hv,Heap.get?_push_size _ rfl⟩
theorem Inv.fresh(I:Inv X pins σ H s):H s.heap.objs.size=none:=I.cC.fresh Ξ
theorem Inv.zN(I:Inv X pins σ H s)(hH:H l=some (.lst xs)):xs.length≤sizeLine∧∃(its:List Value)(n:Nat),Vals xs its∧xs.length=its.length∧s.heap.get? l=some {cls:= .type "list",data:= .seq its.toArray n}:=by
 obtain⟨z,its,n,r,e⟩:=I.cC l _ hH;exact⟨z,its,n,r,r.length,e⟩
theorem CH{n:Nat}(h:n≤sizeLine):Builtin.List.listTooLong n=false:=by
 unfold Builtin.List.listTooLong;exact decide_eq_false (Τ)
end
section
variable{X:Cx}
inductive Gi(x:V)(vs:List V)(H:Hp)(Q:VK):Prop
 |mk (l:_) (xs:_) (y:_) (_:x= .ref l) (_:vs=[y]) (_:H l=some (.lst xs)) (_:xs.length<sizeLine) (_:Q .cF (upd H l (.lst (xs++[y])))):Gi x vs H Q
theorem dF:SE X "list.append" Gi:=by
 intro pins s σ H x vs v us Q I rx rv h;obtain⟨l,xs,y,rfl,rfl,hH,hz,q⟩:=h;cases rx;obtain⟨u,rfl,ru⟩:=rv.one;obtain⟨z,its,n,r,hl,e⟩:=I.zN hH;refine call_meets F.slot_list_append ⟨_,e,rfl⟩ F.entry_list_append (F.args_list_append_2 _ _) (PySem.list_append l its.toArray n u (by rw[List.size_toArray];omega)) ⟨e,?_⟩;refine⟨.cF,_,I.Pj (its':=its++[u]) hH e XD (r.append (.cons ru .nil)) ?_,rfl,q⟩;rw[List.length_append,List.length_singleton];omega
def Ma:V→List V→Hp→VK→Prop:=fun x vs H Q=>∃l b xs zs,x= .ref l∧vs=[.ref b]∧H l=some (.lst xs)∧H b=some (.lst zs)∧xs.length+zs.length≤sizeLine∧Q .cF (upd H l (.lst (xs++zs)))
theorem se:SE X "list.extend" Ma:=by
 intro pins s σ H x vs v us Q I rx rv h;obtain⟨l,b,xs,zs,rfl,rfl,hH,hB,hz,q⟩:=h;cases rx;obtain⟨u,rfl,ru⟩:=rv.one;cases ru;obtain⟨z,its,n,r,hl,e⟩:=I.zN hH;obtain⟨z2,kP,n2,r2,Q9,e2⟩:=I.zN hB;have hsz:its.toArray.size+kP.toArray.size≤sizeLine:=by rw[List.size_toArray,List.size_toArray];omega
 have JP:¬(!its.toArray.isEmpty&&Builtin.List.listTooLong (its.toArray.size+kP.toArray.size))=true:=by
  rw[CH hsz,Bool.and_false];exact Bool.false_ne_true
 refine call_meets F.slot_list_extend ⟨_,e,rfl⟩ F.entry_list_extend (F.args_list_extend_2 _ _)
  (AutoSeq1.list_extend_list_list_0 l its.toArray n b kP.toArray n2 JP (by rw[List.size_toArray];omega) (Τ)) ⟨e,e2,?_⟩
 refine⟨.cF,_,I.Pj (its':=its++kP) hH e XD (r.append r2) ?_,rfl,q⟩;rw[List.length_append];omega
def JQ:V→List V→Hp→VK→Prop:=fun x vs H Q=>∃l xs,x= .ref l∧vs=[]∧H l=some (.lst xs)∧Q .cF (upd H l (.lst xs.reverse))
theorem Eu:SE X "list.reverse" JQ:=by
 intro pins s σ H x vs v us Q I rx rv h;obtain⟨l,xs,rfl,rfl,hH,q⟩:=h;cases rx;have WY:=rv.zero;subst WY;obtain⟨z,its,n,r,hl,e⟩:=I.zN hH;refine call_meets F.slot_list_reverse ⟨_,e,rfl⟩ F.entry_list_reverse (F.args_list_reverse_1 _) (AutoSeq1.list_reverse_list_0 l its.toArray n (by rw[List.size_toArray];omega)) ⟨e,?_⟩;refine⟨.cF,_,I.Pj (its':=its.reverse) hH e XD r.reverse ?_,rfl,q⟩;rw[List.length_reverse];omega
inductive SG(x:V)(y:V)(H:Hp)(Q:VK):Prop
 |mk (l:_) (b:_) (xs:_) (zs:_) (_:x= .ref l) (_:y= .ref b) (_:H l=some (.lst xs)) (_:H b=some (.lst zs)) (_:xs.length+zs.length≤sizeLine) (_:∀p,H p=none→Q (.ref p) (upd H p (.lst (xs++zs)))):SG x y H Q
theorem sf:rX X (binaryOp .Add) SG:=by
 intro pins s σ H x y v u Q I rx ry h;obtain⟨l,b,xs,zs,rfl,rfl,hH,hB,hz,q⟩:=h;cases rx;cases ry;obtain⟨z,its,n,r,hl,e⟩:=I.zN hH;obtain⟨z2,kP,n2,r2,Q9,e2⟩:=I.zN hB;refine PySem.P.add_list e e2 ?_ (by rw[List.size_toArray,List.size_toArray];omega);have ea:its.toArray++kP.toArray=(its++kP).toArray:=Xx;rw[ea];exact⟨.ref _,_,I.SF (t':=s.toks) (r.append r2) (by rw[List.length_append];omega),rfl,q _ I.fresh⟩
def WZ:R2:=fun x y H Q=>∃l k xs,x= .ref l∧y= .int k∧H l=some (.lst xs)∧-(2^63)≤k∧k<2^63∧xs.length*k.toNat≤sizeLine∧
 ∀p,H p=none→Q (.ref p) (upd H p (.lst (List.replicate k.toNat xs).flatten))
theorem len_rep{α:Type}(xs:List α)(k:Nat):(List.replicate k xs).flatten.length=k*xs.length:=by
 induction k with
 |zero=>simp
 |succ k ih=>rw[List.replicate_succ,List.flatten_cons,List.length_append,ih,Nat.succ_mul,Nat.add_comm]
theorem JR:rX X (binaryOp .Mult) WZ:=by
 intro pins s σ H x y v u Q I rx ry h;obtain⟨l,k,xs,rfl,rfl,hH,h1,h2,hz,q⟩:=h;cases rx;obtain⟨t,rfl⟩:=ry;obtain⟨z,its,n,r,hl,e⟩:=I.zN hH;have hlen:its.toArray.size*k.toNat≤sizeLine:=by rw[List.size_toArray,←hl];exact hz
 have W0:¬its.toArray.size*k.toNat>(2^63-1)/8:=by
  have:(sizeLine:Nat)≤(2^63-1)/8:=QY;omega
 have W4:¬(!Builtin.List.listFitsIndex k)=true:=by
  rw[fitsIndex_both h1 h2];exact Bool.false_ne_true
 have JP:¬Builtin.List.listTooLong (its.toArray.size*k.toNat)=true:=by
  rw[CH hlen];exact Bool.false_ne_true
 have Ht:List.foldl (fun x1 x2=>x1++x2) #[] (List.replicate (if its.toArray.isEmpty=true then 0 else k.toNat) its.toArray)=(List.replicate k.toNat its).flatten.toArray:=by
  have f0:∀m:Nat,List.foldl (fun x1 x2=>x1++x2) #[] (List.replicate m its.toArray)=(List.replicate m its).flatten.toArray:=fun m=>by
   have:=foldl_rep its m [];rw[List.nil_append]at this;exact this
  rw[f0];cases its with
  |nil=>simp
  |cons a r'=>rw[if_neg XD]
 refine wpAny_binaryOp_repeat_ref (T:="list") (U:="int") (QY) ⟨_,e,rfl⟩ (fun s'=>typeIs_int s' k t) noFill_list_mul F.fills_int_mul F.slot_int_rmul repeat_list F.slot_int_index.lookup
  (call_meets F.slot_int_rmul (typeIs_int s k t) F.entry_int_rmul (F.args_int_rmul_2 _ _) (int___rmul___int_list k t l its.toArray n)
   ⟨e,rfl,⟨_,e,rfl⟩,call_meets F.slot_list_mul ⟨_,e,rfl⟩ F.entry_list_mul (F.args_list_mul_2 _ _) (AutoListH.list___mul___list_int_3 l its.toArray n k t W4 W0 JP) ⟨e,?_⟩⟩)
 rw[Ht];exact⟨.ref _,_,I.SF (t':=s.toks) (r.rep k.toNat) (by rw[len_rep,Nat.mul_comm];exact hz),rfl,q _ I.fresh⟩
end
section
variable{prog:Program}{w:World}{A:Around}{E:Value→Shared→Prop}{s:Shared}
end
section
variable{X:Cx}
end
end L2
namespace Zg
open PySem PySem.W PySem.Calls PyProof.Rows
theorem uB{P:Params}{h:Heap}:∀(ns:List Int)(vs:List Value),WellAll P h vs (ns.map WData.int)→IntsAre vs ns:=by
 intro ns
 induction ns with
 |nil=>
  intro vs w;rw[List.map_nil]at w;cases w;exact .nil
 |cons n ns ih=>
  intro vs w;rw[List.map_cons]at w;cases w with
  |cons a b=>
   cases a;exact .cons _ _ (ih _ b)
theorem Hu{l:OpenLaw}{n:Nat}(hn:l.most=some n){P:Params}{h:Heap}{args:List WData}{vals:List Value}
  (Mb:l.row.toRowW.claim.pre args=true) (Gj:WellAll P h vals args):
  ∃a vs ns,vals=[Value.ref a]∧args=[WData.list (ns.map WData.int)]∧h.get? a=some {cls:= .type "list",data:= .seq vs.toArray}∧IntsAre vs ns∧ns.length≤n:=by
 have SI:WShape.hasAll [] args [.list .int]=true:=(pre_splitW Mb).1;have hc:l.pre.holds [] {args:=args}=true:=(pre_splitW Mb).2;obtain⟨d,r,rfl,h1,h2⟩:=hasAllW_cons SI;obtain rfl:=hasAllW_nil h2;obtain⟨xs,rfl,h3⟩:=hasW_list h1;obtain⟨ns,rfl⟩:=items_int h3;have hlen:ns.length≤n:=by
  unfold OpenLaw.pre at hc;have h4:(WTm.not (.lt (.lit (.int (n:Int))) (.len (.arg 0)))).holds [] {args:=[.list (ns.map .int)]}=true:=by
   have h4:=(holds_andW hc).1;rw[hn]at h4;exact h4
  have h5:=condW_of h4 (w_not (w_lt w_lit (w_len_list (w_arg rfl))));rw[List.length_map]at h5;refine Nat.le_of_not_lt fun q=>?_
  have q':(n:Int)<((ns.length:Nat):Int):=Τ;first
   |(rw[decide_eq_true q']at h5;exact absurd h5 Ε)
   |(simp at h5;omega)
 cases Gj with
 |cons w1 w2=>
  cases w2;cases w1 with
  |list ho Pk=>exact⟨_,_,ns,rfl,rfl,ho,uB ns _ Pk,hlen⟩
theorem Hv(l:OpenLaw)(args:List WData):l.row.toRowW.claim.post args (.bool true) args=true:=
 postW_of (r:=l.row.toRowW) (X:=(true==true))
  (show WShape.has [] (.bool true) .bool=true by first|rfl|decide|simp[WShape.has,WShape.arms,WShape.armsAll])
  (show(WTm.eq .res (.lit (.bool true))).value [] {args:=args,res:=some (.bool true),after:=args}=some (.bool (true==true))from w_eq_bool (w_res rfl) w_lit) rfl
theorem CI{l:OpenLaw}{n:Nat}{q:Program}{loose:List Str}{XP:(Str→Option Value)→Heap→Prop}{YP:World→Heap→Prop}{d:DefRec}
  (hn:l.most=some n) (SJ:d.params.defaults=[])
  (call:∀(w:World)(dB cM:Shared)(mg mb:Str→Option Value)(fa:Addr)(o:Obj)(pm cd doc:Value)(a:Addr)(vs:List Value)(ns:List Int),
   Ground q loose [] XP w dB mg mb cM.heap→YP w cM.heap→
   cM.heap.get? fa=some o→o.data= .func (docDef d.name d.params d.body d.scope pm cd doc)→cM.heap.CodeRec cd d.name→mg d.name=some (.ref fa)→
   cM.heap.get? a=some {cls:= .type "list",data:= .seq vs.toArray}→IntsAre vs ns→ns.length≤n→cM.gens=#[]→
   codeAny (model l.prog w) callerA (.call (.ref fa) ⟨[.ref a],[]⟩) (fun r s'=>r= .ok (.ret (.bool true))∧OldK cM.heap s'.heap∧s'.os=cM.os∧AllBare s'.gens) cM):
  WalkO q loose XP YP l.row.toRowW d [] (fun f vs=>PySem.call f vs):=by
 intro w dB cM mg mb G Y fa o pm cd doc dV kV ho hd Hf hD SK hg args vals as Mb aaJ hrd Gj hlo;obtain rfl:dV= .none:=Dflts.none hD SJ;obtain rfl:kV= .none:=Dflts.noKw hD;obtain⟨a,vs,ns,rfl,rfl,Pl,hints,hlen⟩:=Hu hn Mb Gj;refine enter_call (codeAny_mono (call w dB cM mg mb fa o pm cd doc a vs ns G Y ho (fd_plain hd) Hf SK Pl hints hlen hg) fun r s' hq=>?_);obtain⟨rfl,h2,h3,h4⟩:=hq;exact⟨.inl ⟨.bool true, .bool true,[],rfl,fun _=>rfl, .bool true,Hv l _,fun _=>⟨List.Pairwise.nil,fun _ hm=>(nomatch hm)⟩⟩,h2,h3,h4⟩
section
variable{prog:Program}{w:World}{A:Around}{E:Value→Shared→Prop}{s:Shared}{K:Frag}
def ledger(h:Heap)(L d:Addr):List (Addr×Obj):=(List.range h.objs.size).filterMap fun a=>if a=L∨a=d then none else(h.get? a).map fun o=>(a,o)
end
end Zg
namespace L2
open PySem PySem.Spec PyProof.Rows
theorem yZ:∀{vs:List Value}{ns:List Int},IntsAre vs ns→Vals (ns.map V.int) vs
 | _,_, .nil=> .nil
 | _,_, .cons n t h=> .cons ⟨t,rfl⟩ (yZ h)
def Pn(H:Hp):Prop:=∀b,H b=none∨∃o xs,H b=some (.ve o (.lst xs))
theorem JS{cm:Bool}{P:Program}{w:World}{K:PySem.W.Frag}{mg mb:Str→Option Value}{CX:JE}{k:Nat}{fa a:Addr}{fd:FuncData}{x:Str}{sp:Sp}{cM:Shared}{vs:List Value}{ns:List Int}
  (KX:K.In cM.heap) (Vz:cM.heap.Ns mainGlobals mg) (hb:cM.heap.Ns builtinsNs mb) (hbb:∀x:Str,x≠"__name__"→mb x=bootBuiltins x) (W5:cM.heap.NoLimit) (hg:cM.gens=#[])
  (ha:cM.heap.get? a=some {cls:= .type "list",data:= .seq vs.toArray}) (hi:IntsAre vs ns) (hl:ns.length≤sizeLine) (hr:dY cm k callerA)
  (F:∀base:Heap,K.In base→base.Ns mainGlobals mg→bE P w K mg base CX cm k fa fd [x] sp) (SM:∀(s:Shared)(u:Value),BindsTo s fd ⟨[u],[]⟩ [(x,u)])
  (Lp:∀H:Hp,Pn H→jT K H a (ns.map V.int)→sp [.ref a] H (fun v _=>v= .bl true) fun _ _ _=>False)
  (W6:∀H e s',CX [] H cM (fun _ _ _=>False) e s'→False):
  codeAny (model P w) callerA (.call (.ref fa) ⟨[.ref a],[]⟩) (fun r s'=>r= .ok (.ret (.bool true))∧OldK cM.heap s'.heap∧s'.os=cM.os∧AllBare s'.gens) cM:=by
 have rv:=yZ hi;have W7:=hi.length;have core:∀H:Hp,Pn H→jT K H a (ns.map V.int)→mM P w H cM.heap→(∀b,H b≠none→b=a)→(H a≠none→K.lookup a=none)→
   codeAny (model P w) callerA (.call (.ref fa) ⟨[.ref a],[]⟩) (fun r s'=>r= .ok (.ret (.bool true))∧OldK cM.heap s'.heap∧s'.os=cM.os∧AllBare s'.gens) cM:=by
  intro H hO hS cC hA hK;have Gk:∀{b:Addr}{o:Obj},cM.heap.get? b=some o→H b=none→(zx cM.heap H).get? b=some o:=fun e n=>Jp e n
  have Sq:∀{b:Addr}{o:Obj}{es:Array DictEntry}{ep:Nat},cM.heap.get? b=some o→o.data= .dict es ep→H b=none:=fun{b o es ep} e d=>by
   cases q:H b with
   |none=>rfl
   |some u=>
    have e':b=a:=hA b (by rw[q];simp);subst e';rw[ha]at e;cases e;have d':Data.seq vs.toArray _=Data.dict es ep:=d;cases d'
  have VA:∀{b:Addr}{m:Str→Option Value},cM.heap.Ns b m→(zx cM.heap H).Ns b m:=fun{b m} ⟨o,es,ep,e,d,r⟩=>⟨o,es,ep,Gk e (Sq e d),d,r⟩
  have Zh:K.In (zx cM.heap H):=fun b o e=>Gk (KX b o e) (by
   cases q:H b with
   |none=>rfl
   |some u=>
    have e':b=a:=hA b (by rw[q];simp);subst e';rw[hK (by rw[q];simp)]at e;cases e)
  have hM:Mod K mg (zx cM.heap H):=⟨Zh,VA Vz,⟨mb,VA hb,hbb⟩,let ⟨mc,h1,h2⟩:=W5;⟨mc,VA h1,h2⟩⟩
  have e0:El P w K mg (zx cM.heap H) callerA [] cM H:=⟨rfl,hM,fun b o e=>LC e,Nat.le_of_eq (He _ _),trivial,fun b hb=>absurd (show b∈([]:List Addr)from hb) (Xx),cC, .of_eq hg⟩
  refine codeAny_mono ((F _ Zh (VA Vz)).run callerA [] cM H ⟨[.ref a],[]⟩ [.ref a] [.ref a] _ _ hr e0 (SM cM (.ref a)) (.cons rfl .nil) (Lp H hO hS)) fun r s' h=>?_
  cases r with
  |error e=>exact(W6 H e s' h).elim
  |ok fl=>
   cases fl with
   |next=>exact False.elim h
   |brk=>exact False.elim h
   |cont=>exact False.elim h
   |ret u=>
    obtain⟨v,H',os,bare,un,W8,r',q⟩:=h;have q':v= .bl true:=q;subst q';obtain rfl:u=Value.bool true:=r';refine⟨rfl,OldK.of_keep fun b o e=>?_,os,bare⟩;cases q:H b with
    |none=>exact un.keep b o e q (by intro z;exact absurd (show b∈([]:List Addr)from z) (Xx)) (Xx)
    |some u=>
     rcases hO b with z|⟨ob,xs,z⟩
     ·rw[q]at z;cases z
     ·have z2:=un.mV b ob _ z;obtain⟨e1,_⟩:=cC b _ z;obtain⟨e2,_⟩:=W8 b _ z2;rw[e]at e1;cases e1;exact e2
 cases hk:K.lookup a with
 |some o=>
  have e:=KX a o hk;rw[ha]at e;cases e;refine core (fun _=>none) (fun _=> .inl rfl) (.inr ⟨_,vs.toArray,_,hk,rfl,rfl,rfl,by rw[List.size_toArray,W7];exact hl,by simpa using rv⟩) (fun b u z=>by have z':(none:Option HO)=some u:=z;cases z') (fun b z=>absurd rfl z) fun z=>absurd rfl z
 |none=>
  refine core (fun b=>if b=a then some (.ve {cls:= .type "list",data:= .seq vs.toArray} (.lst (ns.map V.int)))else none) (fun b=>?_) (.inl (.inr ⟨{cls:= .type "list",data:= .seq vs.toArray},if_pos rfl⟩)) (fun b u z=>?_) (fun b z=>?_) fun _=>hk
  ·by_cases hb:b=a
   ·exact .inr ⟨_,_,VH hb⟩
   ·exact .inl (M9 hb)
  ·by_cases hb:b=a
   ·have z':=(VH hb).symm.trans z;cases z';subst hb;exact⟨ha,by rw[List.length_map];exact hl,vs,_,rv,ha⟩
   ·have z':=(M9 hb).symm.trans z;cases z'
  ·by_cases hb:b=a
   ·exact hb
   ·exact absurd (M9 hb) z
theorem Mc{cm:Bool}{l:PySem.W.OpenLaw}{n k:Nat}{q:Program}{loose:List Str}{XP:(Str→Option Value)→Heap→Prop}{YP:World→Heap→Prop}{d:DefRec}{K:Params→PySem.W.Frag}{CX:World→JE}{sp:World→Sp}{x:Str}
  (hn:l.most=some n) (B_:n≤sizeLine) (SJ:d.params.defaults=[]) (hr:dY cm k callerA)
  (hY:∀(w:World)(h:Heap),YP w h→(K w.params).In h)
  (F:∀(w:World)(mg:Str→Option Value)(fa:Addr)(h:Heap),(K w.params).In h→h.Ns mainGlobals mg→mg d.name=some (.ref fa)→
   ∃fd:FuncData,(∀(s:Shared)(u:Value),BindsTo s fd ⟨[u],[]⟩ [(x,u)])∧
    ∀base:Heap,(K w.params).In base→base.Ns mainGlobals mg→bE l.prog w (K w.params) mg base (CX w) cm k fa fd [x] (sp w))
  (Lp:∀(w:World)(H:Hp)(a:Addr)(ns:List Int),ns.length≤n→Pn H→jT (K w.params) H a (ns.map V.int)→sp w [.ref a] H (fun v _=>v= .bl true) fun _ _ _=>False)
  (W6:∀(w:World)(H:Hp)(s:Shared)(e:Value)(s':Shared),CX w [] H s (fun _ _ _=>False) e s'→False):
  PySem.W.WalkO q loose XP YP l.row.toRowW d [] (fun f vs=>PySem.call f vs):=by
 refine Zg.CI hn SJ fun w dB cM mg mb fa o pm cd doc a vs ns G Y ho hd Hf SK Pl hints hlen hg=>?_
 have KX:=hY w _ Y;obtain⟨fd,hb,hF⟩:=F w mg fa _ KX G.T.g SK;exact JS KX G.T.g G.T.b G.T.builtins G.T.nolimit hg Pl hints (Nat.le_trans hlen B_) hr hF hb (fun H hO hS=>Lp w H a ns hlen hO hS) fun H e s'=>W6 w H cM e s'
def inClass(s:Stmt)(j:Nat):Stmt:=match s with
 | .ClassDef _ _ _ body _ _ _ _ _ _ _=>body.getD j (.Pass ⟨0,0,0,0⟩)
 | _=> .Pass ⟨0,0,0,0⟩
def fo(s:Stmt):Arguments:=match s with
 | .FunctionDef _ a _ _ _ _ _ _ _ _=>a
 | _=>{posonlyargs:=[],args:=[],vararg:=none,kwonlyargs:=[],kw_defaults:=[],kwarg:=none,defaults:=[]}
def d4(s:Stmt):List Stmt:=match s with
 | .FunctionDef _ _ b _ _ _ _ _ _ _=>b
 | _=>[]
def aw(s:Stmt):Scope:=match s with
 | .FunctionDef _ _ _ _ _ _ sc _ _ _=>sc
 | _=>{kind:= .function,names:=[],isGenerator:=false,isCoroutine:=false}
abbrev E0:XK:=fun _ _ _=>False
structure lu(K:PySem.W.Frag)(x qual:Str)(st:Stmt)(f:Addr)(fd:FuncData):Prop where
 ex:∃(oc:Value)(od:Option Addr)(kV doc pm:Value)(an:Option Addr)(iy ct:Value)(Gg:Array (Option Value)),
  fd=PySem.W.fnOf x qual (fo st) (d4 st) (aw st) .none kV doc pm an iy ct∧K.lookup f=some ⟨oc,od, .func fd,Gg⟩∧PySem.W.codeIn K iy qual=true
 kp:PySem.W.keepIn K (.ref f)=true
section
variable{P:Program}{w:World}{K:PySem.W.Frag}{mg:Str→Option Value}{base:Heap}
theorem lu.binds{x qual:Str}{st:Stmt}{f:Addr}{fd:FuncData}{ps:List Str}(F:lu K x qual st f fd)
  (h:∀(kV doc pm:Value)(an:Option Addr)(iy ct:Value)(us:List Value),us.length=ps.length→bindArgs (PySem.W.fnOf x qual (fo st) (d4 st) (aw st) .none kV doc pm an iy ct) ⟨us,[]⟩=pure (ps.zip us)):Binds K fd ps []:=by
 obtain⟨oc,od,kV,doc,pm,an,iy,ct,Gg,rfl,lk,Hf⟩:=F.ex;exact .all (h kV doc pm an iy ct)
theorem JT{x qual:Str}{st:Stmt}{f:Addr}{oc:Value}{od an:Option Addr}{Gg:Array (Option Value)}{kV doc pm iy ct:Value}(l:K.lookup f=some ⟨oc,od, .func (PySem.W.fnOf x qual (fo st) (d4 st) (aw st) .none kV doc pm an iy ct),Gg⟩)
  (c:PySem.W.codeIn K iy qual=true) (k:PySem.W.keepIn K (.ref f)=true):lu K x qual st f (PySem.W.fnOf x qual (fo st) (d4 st) (aw st) .none kV doc pm an iy ct):=⟨⟨oc,od,kV,doc,pm,an,iy,ct,Gg,rfl,l,c⟩,k⟩
end
section
variable{X:Cx}
theorem pv(i:Nat){x:Str}{pos:Pos}(hN:X.N[i]?=some x:=by rfl)(hv:Wv X.env.scope x:=by first|exact Or.inl rfl|exact Or.inr (Or.inl rfl)|exact Or.inr (Or.inr rfl))(hd:(x==("__debug__":Str))=false:=by decide)
  (Hf:(x==("__classdict__":Str))=false:=by decide):PE X (.Name x pos) (OR i):=OS hN hv hd Hf
end
theorem m_{A B:Prop}(h:B):if false=true then A else B:=by
 rw[M9 Bool.false_ne_true];exact h
theorem jD{A B:Prop}(h:A):if true=true then A else B:=by
 rw[if_pos rfl];exact h
theorem bQ{c A B:Prop}[Decidable c](h1:c→A)(h2:¬c→B):if c then A else B:=by
 by_cases h:c
 ·rw[VH h];exact h1 h
 ·rw[M9 h];exact h2 h
def av(H H':Hp):Prop:=∀b o,H b=some o→H' b=some o
theorem av.refl(H:Hp):av H H:=fun _ _ h=>h
theorem av.trans{H H1 H2:Hp}(a:av H H1)(b:av H1 H2):av H H2:=fun c o h=>b c o (a c o h)
theorem av.free{H H':Hp}(e:av H H'){l:Addr}(h:H' l=Option.none):H l=Option.none:=by
 cases q:H l with
 |none=>rfl
 |some o=>
  rw[e l o q]at h;cases h
theorem av.seq{K:PySem.W.Frag}{H H':Hp}{a:Addr}{xs:List V}(e:av H H')(h:jT K H a xs):jT K H' a xs:=by
 rcases h with(h|⟨o,h⟩)|h
 ·exact .inl (.inl (e _ _ h))
 ·exact .inl (.inr ⟨o,e _ _ h⟩)
 ·exact .inr h
section
variable{κ:Type}[DecidableEq κ]
theorem CJ{kvs:List (κ×V)}{k:κ}(h:b_ kvs k=none):¬k∈kvs.map (·.1):=by
 intro m;obtain⟨p,hp,e⟩:=List.mem_map.mp m;have q:(kvs.any fun kv=>decide (kv.1=k))=true:=List.any_eq_true.mpr ⟨p,hp,decide_eq_true e⟩;rw[iW,h]at q;exact absurd q XD
theorem Gm{kvs:List (κ×V)}{k:κ}{v:V}(h:b_ kvs k=some v):k∈kvs.map (·.1):=by
 have q:(kvs.any fun kv=>decide (kv.1=k))=true:=by
  rw[iW,h];all_goals rfl
 obtain⟨p,hp,e⟩:=List.any_eq_true.mp q;exact List.mem_map.mpr ⟨p,hp,of_decide_eq_true e⟩
end
end L2
namespace L2
open PySem PySem.Spec PyProof.Rows PySem.W
def de(P:Program)(w:World):JE:=fun outer H s E e s'=>
 ∃(ea:Addr)(cls a0:Value)(B:Heap)(H':Hp),e= .ref ea∧s'.os=s.os∧AllBare s'.gens∧Heap.FlyingW B outer ea cls a0 s'.heap∧
  Un (mW outer) [] H H' s.heap s'.heap∧mM P w H' B∧(∀b o,s.heap.get? b=some o→H b=none→b∉mW outer→B.get? b=some o)∧(∀b o,s.heap.get? b=some o→b∉mW outer→∃o',B.get? b=some o')∧E cls none H'
theorem a9{P:Program}{w:World}{X:Cx}:Passes (de P w) X (fun _=>E0):=fun _ _ _ _ _ _ _ ⟨_,_,_,_,_,_,_,_,_,_,_,_,_,h⟩=>h.elim
structure VB(X:Cx)(E:St→XK):Prop where
 raise:∀(pins:List (Addr×Obj))(σ:St)(H:Hp)(s:Shared)(h':Heap)(e:Addr)(cls:Value)(args:List Value),Inv X pins σ H s→Heap.MadeExcOf s.heap h' e cls args→E σ cls none H→X.xe (.ref e) {s with heap:=h'}
 pass:Passes (de X.prog X.w) X E
 own:PassesOwn (model X.prog X.w) X.A X.env X.xe
theorem mM.hide{P:Program}{w:World}{H:Hp}{h:Heap}{as:List Addr}(ok:mM P w H h)(hf:∀b∈as,H b=none):mM P w H (hideAll h as):=fun a o e=>
 (ok a o e).pY (fun b u hb q=>hideAll_get _ q fun hm=>by
  rcases hb with rfl|hb
  ·rw[hf _ hm]at e;cases e
  ·rw[hf _ hm]at hb;cases hb) (fun b q=>q) fun b xs q=>q
section
variable{P:Program}{w:World}{K:PySem.W.Frag}{mg:Str→Option Value}{base:Heap}{N:List Str}{qual:Str}{scope:Scope}{f:Addr}{cd:Value}{A:Around}{outer:List Env}{s:Shared}{H:Hp}{E:XK}{cm:Bool}
theorem vJ{P:Program}{w:World}{H:Hp}{h:Heap}{a:Addr}{o:HO}(x:dn P w H h a o):∃q,h.get? a=some q:=by
 cases o with
 |lst xs=>obtain⟨_,its,n,_,e⟩:=x;exact⟨_,e⟩
 |tup xs=>obtain⟨_,its,_,o,e,_⟩:=x;exact⟨_,e⟩
 |dK kvs=>obtain⟨_,_,vs,_,o,es,ep,e,_⟩:=x;exact⟨_,e⟩
 |dT kvs=>obtain⟨_,_,xs,_,o,es,ep,e,_⟩:=x;exact⟨_,e⟩
 |set S n=>obtain⟨o,es,ep,t,e,_⟩:=x;exact⟨_,e⟩
 |ins C dx fs=>obtain⟨_,_,_,e,_⟩:=x;exact⟨_,e⟩
 |own y=>exact x
 |xd fs=>obtain⟨mA,⟨o,es,ep,e,_⟩,_⟩:=x;exact⟨_,e⟩
 |met f y=>exact⟨_,x⟩
 |Vm lo hi=>obtain⟨t,u,v,e⟩:=x;exact⟨_,e⟩
 |ve o u=>exact⟨_,x.1⟩
 |LB ps=>exact⟨_,x⟩
 |ext φ=>exact x.2.1
theorem Gp:VB (Eo (de P w) cm P w K mg base N qual scope f cd A outer s H E) (fun _=>E):=by
 refine⟨?_,?_,PassesOwn.leaving⟩
 ·intro pins σ H1 s1 h' e cls args I hx hE;have Po:(A.deeper (envOfC qual scope s.heap.objs.size f cd)).frames=some (envOfC qual scope s.heap.objs.size f cd::outer):=I.ok.frames;have xG:s1.heap.FunFrames base (envOfC qual scope s.heap.objs.size f cd::outer):=I.stack;have Hw:∀env∈(envOfC qual scope s.heap.objs.size f cd::outer),∀b,env.frame=some b→b∈(envOfC qual scope s.heap.objs.size f cd::outer).filterMap (·.frame):=fun env he b hb=>List.mem_filterMap.mpr ⟨env,he,hb⟩
  have F8:∀b∈(envOfC qual scope s.heap.objs.size f cd::outer).filterMap (·.frame),H1 b=none:=I.zy;show wpAny (model P w) (A.deeper (envOfC qual scope s.heap.objs.size f cd)) (leaving (envOfC qual scope s.heap.objs.size f cd) (.ref e)) (fun _ zB=>de P w outer H s E (.ref e) zB) (fun e' zB=>de P w outer H s E e' zB) {s1 with heap:=h'};have Ew:∀b o,s.heap.get? b=some o→b∉mW outer→b∉(envOfC qual scope s.heap.objs.size f cd::outer).filterMap (·.frame):=fun b o q hb hm=>by
   obtain⟨env,he,hf⟩:=List.mem_filterMap.mp hm;rcases List.mem_cons.mp he with rfl|he
   ·have z:s.heap.objs.size=b:=Option.some.inj hf;exact absurd (Λ q) (by rw[z];exact Nat.lt_irrefl _)
   ·exact hb (List.mem_filterMap.mpr ⟨env,he,hf⟩)
  refine wpAny_leaves_madeW (s:={s1 with heap:=h'}) (h:=s1.heap) (base:=hideAll s1.heap ((envOfC qual scope s.heap.objs.size f cd::outer).filterMap (·.frame))) (L:=s.heap.objs.size) Po rfl (fun b o q=>of_hideAll _ q) (funFrames_hide xG Hw) hx fun h2 t x1 x2 x3 x4=>?_
  have bs:Un (mW outer) [] H H1 s.heap s1.heap:=I.base;have kB:∀b o,s.heap.get? b=some o→H b=none→b∉mW outer→(hideAll s1.heap ((envOfC qual scope s.heap.objs.size f cd::outer).filterMap (·.frame))).get? b=some o:=fun b o q hn hb=>
   hideAll_get _ (bs.keep b o q hn hb XD) (Ew b o q hb)
  have hB:mM P w H1 (hideAll s1.heap ((envOfC qual scope s.heap.objs.size f cd::outer).filterMap (·.frame))):=I.cC.hide F8;refine⟨e,cls, .ref t,_,H1,rfl,I.os,I.bare,x1,?_,hB,kB,fun b o q hb=>?_,hE⟩
  rotate_left
  ·obtain⟨o',e1⟩:=bs.there b o q XD;exact⟨o',hideAll_get _ e1 (Ew b o q hb)⟩
  refine⟨fun b o q hn hb _=>x1.1 b o (kB b o q hn hb),fun b o q hn hb _=>?_,fun b o q hn _=>bs.free b o q hn XD,fun b o q _=>?_,bs.cO,bs.mV,bs.oY⟩
  ·obtain⟨sl,e1⟩:=bs.slot b o q hn hb XD;have NJ:s1.heap.FunFrames base outer:=xG.2.2;obtain⟨_,o2,e2,Ex⟩:=NJ.mem hb;rw[e1]at e2;cases e2;obtain⟨DT,e3⟩:=x4 b _ (hx.keeps _ _ e1) Ex;exact⟨DT,e3⟩
  ·cases q1:H1 b with
   |some u=>
    obtain⟨oo,z⟩:=vJ (hB b u q1);exact⟨oo,x1.1 b oo z⟩
   |none=>
    cases q0:H b with
    |none=>
     by_cases hb:b∈mW outer
     ·obtain⟨sl,e1⟩:=bs.slot b o q q0 hb XD;have NJ:s1.heap.FunFrames base outer:=xG.2.2;obtain⟨_,o2,e2,Ex⟩:=NJ.mem hb;rw[e1]at e2;cases e2;obtain⟨DT,e3⟩:=x4 b _ (hx.keeps _ _ e1) Ex;exact⟨_,e3⟩
     ·exact⟨o,x1.1 b o (kB b o q q0 hb)⟩
    |some u=>
     obtain⟨o',e1⟩:=bs.there b o q XD;by_cases hb:b∈mW outer
     ·have NJ:s1.heap.FunFrames base outer:=xG.2.2;obtain⟨_,o2,e2,Ex⟩:=NJ.mem hb;obtain⟨DT,e3⟩:=x4 b _ (hx.keeps _ _ e2) Ex;exact⟨_,e3⟩
     ·exact⟨o',x1.1 b o' (hideAll_get _ e1 (Ew b o q hb))⟩
 ·rintro pins σ H1 s1 e s2 I ⟨ea,cls,a0,B,H',rfl,os,bare,Md,un,hB,kB,tB,hE⟩;have Po:(A.deeper (envOfC qual scope s.heap.objs.size f cd)).frames=some (envOfC qual scope s.heap.objs.size f cd::outer):=I.ok.frames;show wpAny (model P w) (A.deeper (envOfC qual scope s.heap.objs.size f cd)) (leaving (envOfC qual scope s.heap.objs.size f cd) (.ref ea)) (fun _ zB=>de P w outer H s E (.ref ea) zB) (fun e' zB=>de P w outer H s E e' zB) s2;have Md:Heap.FlyingW B (envOfC qual scope s.heap.objs.size f cd::outer) ea cls a0 s2.heap:=Md;have un:Un (mW (envOfC qual scope s.heap.objs.size f cd::outer)) [] H1 H' s1.heap s2.heap:=un;have kB:∀b o,s1.heap.get? b=some o→H1 b=none→b∉mW (envOfC qual scope s.heap.objs.size f cd::outer)→B.get? b=some o:=kB;have Ew:∀b o,s.heap.get? b=some o→b∉mW outer→b∉mW (envOfC qual scope s.heap.objs.size f cd::outer):=fun b o q hb hm=>by
   obtain⟨env,he,hf⟩:=List.mem_filterMap.mp hm;rcases List.mem_cons.mp he with rfl|he
   ·have z:s.heap.objs.size=b:=Option.some.inj hf;exact absurd (Λ q) (by rw[z];exact Nat.lt_irrefl _)
   ·exact hb (List.mem_filterMap.mpr ⟨env,he,hf⟩)
  have hup:∀b,b∈mW outer→b∈mW (envOfC qual scope s.heap.objs.size f cd::outer):=fun b hb=>by
   obtain⟨env,he,hf⟩:=List.mem_filterMap.mp hb;exact List.mem_filterMap.mpr ⟨env,List.mem_cons_of_mem _ he,hf⟩
  have bs:Un (mW outer) [] H H1 s.heap s1.heap:=I.base;refine wpAny_leaves_onW (L:=s.heap.objs.size) Po rfl Md fun h2 x1 x4=>?_
  have Zi:∀b o,s.heap.get? b=some o→H b=none→b∉mW outer→B.get? b=some o:=fun b o q hn hb=>kB b o (bs.keep b o q hn hb XD) (bs.free b o q hn XD) (Ew b o q hb)
  have NJ:s2.heap.FunFrames B outer:=Md.2.2.1.2.2;refine⟨ea,cls,a0,B,H',rfl,os.trans I.os,bare,x1,?_,hB,Zi,fun b o q hb=>?_,hE⟩
  rotate_left
  ·obtain⟨o',e1⟩:=bs.there b o q XD;exact tB b o' e1 (Ew b o q hb)
  refine⟨fun b o q hn hb _=>x1.1 b o (Zi b o q hn hb),fun b o q hn hb _=>?_,fun b o q hn _=>?_,fun b o q _=>?_,fun b xs q=>un.cO b xs (bs.cO b xs q),fun b o u q=>un.mV b o u (bs.mV b o u q),fun b ps q=>?_⟩
  ·obtain⟨sl,e1⟩:=bs.slot b o q hn hb XD;obtain⟨sl1,e2⟩:=un.slot b _ e1 (bs.free b o q hn XD) (hup b hb) (Xx);obtain⟨_,o2,e3,Ex⟩:=NJ.mem hb;rw[e2]at e3;cases e3;obtain⟨DT,e4⟩:=x4 b _ e2 Ex;exact⟨DT,e4⟩
  ·by_cases hb:b∈mW outer
   ·obtain⟨sl,e1⟩:=bs.slot b o q hn hb XD;exact un.free b _ e1 (bs.free b o q hn XD) (Xx)
   ·exact un.free b o (bs.keep b o q hn hb XD) (bs.free b o q hn XD) (Xx)
  ·obtain⟨o',e1⟩:=bs.there b o q XD;obtain⟨o2,e2⟩:=un.there b o' e1 XD;by_cases hb:b∈mW outer
   ·obtain⟨_,o3,e3,Ex⟩:=NJ.mem hb;obtain⟨DT,e4⟩:=x4 b _ e3 Ex;exact⟨_,e4⟩
   ·obtain⟨o3,e3⟩:=tB b o' e1 (Ew b o q hb);exact⟨o3,x1.1 b o3 e3⟩
  ·obtain⟨more,z⟩:=bs.oY b ps q;obtain⟨SN,z2⟩:=un.oY b _ z;exact⟨more++SN,by rw[z2,Array.append_assoc]⟩
end
end L2
namespace L2
open PySem PySem.Spec PyProof.Rows PySem.W PySem.Calls Builtin Builtin.ObjectAttr Builtin.Getset_descriptor
section
variable{prog:Program}{w:World}{A:Around}{E:Value→Shared→Prop}{K:Frag}{x C:Addr}{o:Obj}{hh:Heap}{g:Array GenState}{d:Drawn}{t:Nat}{os:OsState}
theorem y4{M:Model}{h:Heap}(hx:h.get? x=some o)(hc:o.cls= .ref C):Looks M h (typeOf (.ref x)) (.ref C):=by
 rw[←hc];exact(Looks.ld hx).andThen .now
theorem zO{tp:Value}{R:Result→Shared→Prop}(X:K.In hh)(hx:hh.get? x=some o)(hc:o.cls= .ref C)(hm:mroIn K C (.type "object")=some true)
  (h:R (.ok (.ret (.ref C))) ⟨hh,g,d,t,os⟩):codeAny (model prog w) A (.call (.builtin "getset_descriptor.__get__") ⟨[.builtin "object.__class__", .ref x,tp],[]⟩) R ⟨hh,g,d,t,os⟩:=by
 have L0:=y4 (M:=model prog w) hx hc;have L1:=looks_mroIn (M:=model prog w) X hm;refine codeAny_call_builtin KF.slot_gs.plain KF.entry_gs (KF.slot_gs.check _ _ _ _ _ _ _ _ KF.type_class (KF.args_gs _ _ _) ?_);unfold Builtin.«getset_descriptor.__get__» descrGet;rw[dga_obj];refine wpAny_bind (Δ ?_);unfold descrGetter descrCheckInstance descrNameAndClass isInstance;simp only[KF.owner_class]
 repeat lk
 refine⟨Code.quiet_builtin _ (by decide+kernel),codeAny_builtin KF.entry_class ?_⟩;unfold Builtin.«object.__class__» shownTypeOf
 repeat lk
 exact h
theorem JU{tk:Tok}{Q:PySem.Fin→Shared→Prop}(X:K.In hh)(hx:hh.get? x=some o)(hc:o.cls= .ref C)(ha:findIn K (.ref C) "__class__"=some (some (.builtin "object.__class__")))(hm:mroIn K C (.type "object")=some true)
  (hq:Q (.done (.ret (.ref C))) ⟨hh,g,d,t,os⟩):wpAny (model prog w) A (Builtin.«object.__getattribute__» ⟨[.ref x, .str "__class__" tk],[]⟩) Q E ⟨hh,g,d,t,os⟩:=by
 have L0:=y4 (M:=model prog w) hx hc;have L1:=looks_findIn (M:=model prog w) X ha;have hT5:(⟨hh,g,d,t,os⟩:Shared).TypeIs (.builtin "object.__class__") "getset_descriptor":=F.typeOf_object_class;have f5:=F.typeOf_object_class;have f6:=F.slot_gs_get.lookup;have f7:=F.slot_gs_set.lookup
 repeat (any_goals (first|assumption|with_reducible refine L0.at ?_|with_reducible refine L1.at ?_|(with_reducible refine wpAny_loadPart_at hx ?_;rw[hc])|wp_step))
 refine zO X hx hc hm ?_
 repeat (any_goals (first|assumption|wp_step))
theorem Me{tk:Tok}{R:Result→Shared→Prop}(X:K.In hh)(hx:hh.get? x=some o)(hc:o.cls= .ref C)(ha:findIn K (.ref C) "__class__"=some (some (.builtin "object.__class__")))(hm:mroIn K C (.type "object")=some true)
  (hb:mroIn K C (.type "BaseException")=some true) (hq:R (.ok (.ret (.ref C))) ⟨hh,g,d,t,os⟩):
  codeAny (model prog w) A (.call (.builtin "BaseException.__getattribute__") ⟨[.ref x, .str "__class__" tk],[]⟩) R ⟨hh,g,d,t,os⟩:=by
 have L0:=y4 (M:=model prog w) hx hc;have L1:=looks_mroIn (M:=model prog w) X hb;have hk:builtinKind "BaseException.__getattribute__"=some .slot:=by decide+kernel
 have Pp:splitId "BaseException.__getattribute__"=some ("BaseException","__getattribute__"):=by decide+kernel
 have L2:Looks (model prog w) hh (isInstance (.ref x) (.type "BaseException")) true:=by
  unfold isInstance;exact L0.andThen L1
 refine codeAny_call_builtin F.attr_ValueError.ga.plain F.entry_bexc_ga ?_;have Q_:=@check_slot (model prog w) A.in1 (fun e s'=>R (.error e) s') ⟨hh,g,d,t,os⟩ "BaseException.__getattribute__" "BaseException" "__getattribute__" (.ref x) [.str "__class__" tk] [];refine Q_ hk Pp L2 (F.args_bexc_ga _ _) ?_;exact JU X hx hc ha hm hq
theorem SO{tk:Tok}{Q:Value→Shared→Prop}(X:K.In hh)(hx:hh.get? x=some o)(hc:o.cls= .ref C)(ha:findIn K (.ref C) "__class__"=some (some (.builtin "object.__class__")))(hm:mroIn K C (.type "object")=some true)
  (hb:mroIn K C (.type "BaseException")=some true) (W9:findIn K (.ref C) "__getattribute__"=some (some (.builtin "BaseException.__getattribute__"))) (Mf:findIn K (.ref C) "__getattr__"=some none)
  (hq:Q (.ref C) ⟨hh,g,d,t,os⟩):wpAny (model prog w) A (getAttrBy (.ref x) (.str "__class__" tk) false) Q E ⟨hh,g,d,t,os⟩:=by
 have L0:=y4 (M:=model prog w) hx hc;have L1:=looks_findIn (M:=model prog w) X W9;have L2:=looks_findIn (M:=model prog w) X Mf;have f3:=F.attr_ValueError.ga.bind (.ref x);have Cb:(Value.builtin "BaseException.__getattribute__"==Value.builtin "object.__getattribute__")=false:=by decide+kernel
 have mT:(onTheHeap (Value.ref C)&&Value.builtin "BaseException.__getattribute__"==Value.builtin "object.__getattribute__")=false:=by rw[Cb];rfl
 repeat (any_goals (first|assumption|with_reducible refine L0.at ?_|with_reducible refine L1.at ?_|with_reducible refine L2.at ?_|wp_step))
 refine Me X hx hc ha hm hb ?_
 repeat (any_goals (first|assumption|wp_step))
theorem JV{Q:Option Value→Shared→Prop}(X:K.In hh)(hx:hh.get? x=some o)(hc:o.cls= .ref C)(ha:findIn K (.ref C) "__class__"=some (some (.builtin "object.__class__")))(hm:mroIn K C (.type "object")=some true)
  (hb:mroIn K C (.type "BaseException")=some true) (W9:findIn K (.ref C) "__getattribute__"=some (some (.builtin "BaseException.__getattribute__"))) (Mf:findIn K (.ref C) "__getattr__"=some none)
  (hq:Q (some (.ref C)) ⟨hh,g,d,t+1,os⟩):wpAny (model prog w) A (getAttr? (.ref x) "__class__") Q E ⟨hh,g,d,t,os⟩:=by
 unfold getAttr? getAttrBy?
 repeat (any_goals (first|assumption|with_reducible apply SO X hx hc ha hm hb W9 Mf|wp_step))
end
structure sg(K:Frag)(C:Addr):Prop where
 ex:excIn K C [.type "ValueError", .type "Exception", .type "BaseException", .type "object"] "ValueError.__new__"=true
 cl:findIn K (.ref C) "__class__"=some (some (.builtin "object.__class__"))
 ob:mroIn K C (.type "object")=some true
 be:mroIn K C (.type "BaseException")=some true
 ga:findIn K (.ref C) "__getattribute__"=some (some (.builtin "BaseException.__getattribute__"))
 gn:findIn K (.ref C) "__getattr__"=some none
 tu:instIn K (.ref C) (.type "tuple")=some false
 kp:keepIn K (.ref C)=true
theorem sg.cls{K:Frag}{C:Addr}(c:sg K C):∃cd,clsIn K C=some cd:=by
 have h:=c.ob;unfold mroIn at h;cases e:clsIn K C with
 |none=>rw[e]at h;cases h
 |some cd=>exact⟨cd,rfl⟩
theorem sg.isType{K:Frag}{C:Addr}{M:Model}{h:Heap}(c:sg K C)(X:K.In h):Looks M h (PySem.isType (.ref C)) true:=by
 obtain⟨cd,LM⟩:=c.cls;unfold clsIn at LM;split at LM
 ·rename_i c' d' cd' R1 ho
  intro A' Q' E' s' k q;unfold PySem.isType loadHead;exact Θ (wpAny_loadPart (k _ _ (X _ _ ho)) (Δ q))
 ·cases LM
def ExcAt(x C:Addr)(h:Heap):Prop:=∃o,h.get? x=some o∧o.cls= .ref C
theorem JW{K:Frag}{x C:Addr}(c:sg K C):KitX K (.ref x) (.ref C) (ExcAt x C) where
 ty:=fun _ _ _ ⟨_,hx,hc⟩=>y4 hx hc
 it:=fun _ _ X _=>c.isType X
 ne:=fun h tp dd its n sl X htp=>by
  obtain⟨cd,LM⟩:=c.cls;refine Bool.eq_false_iff.mpr fun q=>?_
  have e:C=tp:=Value.ref.inj (beq_iff_eq.mp q);subst e;unfold clsIn at LM;split at LM
  ·rename_i c' d' cd' R1 ho
   have z:=(X _ _ ho).symm.trans htp;cases z
  ·cases LM
 ca:=fun{_ _ _ _ _ s} X ⟨o,hx,hc⟩ k=>by
  obtain⟨hp,g,d,t,os⟩:=s;exact JV X hx hc c.cl c.ob c.be c.ga c.gn k
abbrev HO.exc(x C:Addr):HO:= .ext (ExcAt x C)
theorem Ey{X:Cx}{pins:List (Addr×Obj)}{σ:St}{H:Hp}{s:Shared}{A:Around}{E:Value→Shared→Prop}{Q:Value→Shared→Prop}{x C:Addr}{D:Value}{b:Bool}(I:Inv X pins σ H s)(ha:H x=some (.exc x C))(c:sg X.K C)
  (e:kitOne X.K (.ref C) D=some b) (h:∀tk,Q (.bool b) {s with toks:=tk}):wpAny (model X.prog X.w) A (call (.builtin "isinstance") [.ref x,D]) Q E s:=
 kia_one (JW c) I.pZ (I.cC x _ ha).1 e (fun z=>nomatch z) h
theorem vK{M:Model}{A:Around}{E:Value→Shared→Prop}{s:Shared}{K:Frag}{x C D:Addr}{b:Bool}{Q:Bool→Shared→Prop}(X:K.In s.heap)(hx:ExcAt x C s.heap)(c:sg K D)(hm:mroIn K C (.ref D)=some b)
  (h:Q b s):wpAny M A (excMatches (.ref x) (.ref D)) Q E s:=by
 obtain⟨o,hx,hc⟩:=hx;obtain⟨hp,g,d,t,os⟩:=s;have L0:=y4 (M:=M) hx hc;have L1:=looks_instIn (M:=M) X c.tu;have L2:=c.isType (M:=M) X;have L3:=looks_mroIn (M:=M) X c.be;have L4:=looks_mroIn (M:=M) X hm;unfold excMatches isExcClass
 repeat (first|with_reducible refine L1.at ?_|with_reducible refine L2.at ?_|with_reducible refine L3.at ?_|with_reducible refine L4.at ?_|with_reducible refine L0.at ?_|wp_step)
 cases b<;>(repeat (first|assumption|wp_step))
end L2
namespace L2
open PySem PySem.Spec PyProof.Rows PySem.W PySem.Calls
theorem Mg{K:Frag}{h:Heap}{C:Addr}{Zj:List Value}{newId:String}(X:K.In h)(q:excIn K C Zj newId=true):
  ∃bm N nm qn bs hdct sn sub ab col dd k0 k1 k2 k3 k5 mN,h.get? C=some (excClassObj nm qn C N bs bm hdct sn sub ab col dd k0 k1 k2 k3 k5 newId)∧h.Ns N mN∧mN "__init__"=none∧OwnTail h Zj bm:=by
 unfold excIn at q;split at q
 ·rename_i dd cd sl ho
  split at q
  ·rename_i C' bm k0 k1 k2 k3 n k5 hm hs
   simp only[Bool.and_eq_true,beq_iff_eq,Bool.not_eq_true']at q;obtain⟨⟨⟨⟨⟨rfl,rfl⟩,SQ⟩,ht⟩,cC⟩,VC⟩:=q;obtain⟨nm,bs,mro,ns,qn,hd,sn,sub,ab,col,del⟩:=cd;dsimp only at hm SQ cC VC;subst hm SQ;have W_:sl=#[k0,k1,k2,k3,some (.builtin n),k5]:=by
    obtain⟨l⟩:=sl;simp only at hs;rw[hs]
   subst W_;exact⟨bm,ns,nm,qn,bs,hd,sn,sub,ab,col,dd,k0,k1,k2,k3,k5,_,X _ _ ho, .of_isNs (isNs_of_in X cC),nsMap_none_of_in X cC VC,tail_of_in X ht⟩
  ·cases q
 ·cases q
section
variable{X:Cx}{x:Str}{np fg pos:Pos}{e:Expr}{es:List Expr}{t:TA}{C:Addr}{E:St→XK}
def Pq(C:Addr)(E:St→XK)(t:TA):TS:=fun _ σ H=>t σ H fun vs H1=>vs.length≤sizeLine∧E σ (.ref C) none H1
theorem d7(hX:VB X E)(hc:X.calm=true)(hg:Gl X x)(hm:X.mg x=some (.ref C))(c:sg X.K C)(ha:PA X (e::es) t)(xO:(x==("__debug__":Str))=false:=by decide)
  (he:starEach (e::es) X.env=(false,eval e X.env)::starEach es X.env:=by rfl) (uk:(backTo fg (starEach es X.env)).any (·.1)=false:=by rfl):
  PS X (.Raise (some (.Call (.Name x np) (e::es) [] fg)) none pos) (Pq C E t):=by
 intro pins s σ H D I h;obtain⟨bm,N,nm,qn,bs,hdct,sn,sub,ab,col,dd,k0,k1,k2,k3,k5,mN,hC,hN,VC,T⟩:=Mg I.ok.mod.Q0 c.ex;refine wpAny_Raise_call_subT (C:=C) (nm:=nm) (q:=qn) (N:=N) (bs:=bs) (bm:=bm) (hdct:=hdct) (sn:=sn) (sub:=sub) (ab:=ab) (col:=col) (dd:=dd) (k0:=k0) (k1:=k1) (k2:=k2) (k3:=k3) (k5:=k5)
  F.excBase_ValueError (mN:=mN) (T.hasType F.excBase_ValueError.hasBase) (I.ok.hd hc) (by rw[he];show(false||(backTo fg (starEach es X.env)).any (·.1))=false;rw[uk];rfl) VC (nU I hg hm ⟨rfl,?_⟩ xO)
 have hq:=cY (ha fg pins s σ H _ I h) fun us s2 ⟨vs,H2,I2,r2,q2⟩=>show us.length≤sizeLine∧(∀b o,X.base.get? b=some o→s2.heap.get? b=some o)∧∀h' e,Heap.MadeExcOf s2.heap h' e (.ref C) us→X.xe (.ref e) {s2 with heap:=h'}from
  ⟨by rw[←r2.length];exact q2.1,I2.bk,fun h' e hx=>hX.raise pins σ H2 s2 h' e (.ref C) us I2 hx q2.2⟩
 rw[he]at hq⊢;exact evalArgs_plain (wpAny_mono hq (fun vs s2 h2=>⟨rfl,h2.1,h2.2.1 _ _ hC,hN.keeps h2.2.1,T.keeps h2.2.1,h2.2.2⟩) fun _ _ y=>y)
end
section
variable{X:Cx}{e v1 v2:Expr}{es:List Expr}{te:TE}{pos:Pos}
def W'(te:TE):TE:=fun σ H Q=>te σ H fun x H1=>(∃y,x= .str y∧y.length≤sizeLine∧Q (.str y) H1)∨∃i:Int,x= .int i∧i.natAbs.log2<1920∧Q (.str (toString i)) H1
theorem kQ(h:PE X e te):PE X (.FormattedValue e (-1) none pos) (W' te):=by
 intro pins s σ H Q I hq;refine FormattedValue_plain (cY (h pins s σ H _ I hq) fun u s1 ⟨x,H1,I1,r1,q1⟩=>?_);rcases q1 with⟨y,rfl,hy,q⟩|⟨i,rfl,hi,q⟩
 ·obtain⟨t,rfl⟩:=r1;exact formatField_str (fun t' tk=>⟨.str y,H1,I1.tok _,⟨_,rfl⟩,q⟩) hy
 ·obtain⟨t,rfl⟩:=r1;exact formatField_int_small hi ⟨.str (toString i),H1,I1.tok _,⟨_,rfl⟩,q⟩
abbrev TJ:=Str→TE
def PJ(X:Cx)(es:List Expr)(t:TJ):Prop:=
 ∀(acc:Str)(pins:List (Addr×Obj))(s:Shared)(σ:St)(H:Hp)(Q:VK),Inv X pins σ H s→t acc σ H Q→wpAny (model X.prog X.w) X.A (joinParts acc (evalEach es X.env)) (EP X pins σ Q) X.xe s
def SR:TJ:=fun acc _ H Q=>acc.length≤sizeLine∧Q (.str acc) H
def Pt(te:TE)(t:TJ):TJ:=fun acc σ H Q=>te σ H fun x H1=>∃y,x= .str y∧(acc++y).length≤sizeLine∧t (acc++y) σ H1 Q
theorem nc:PJ X [] SR:=fun acc _ s σ H Q I h=>joinParts_nil ⟨.str acc,H,I.tok _,⟨_,rfl⟩,h.2⟩ h.1
theorem cy{t:TJ}(h1:PE X e te)(h2:PJ X es t):PJ X (e::es) (Pt te t):=by
 intro acc pins s σ H Q I h;refine joinParts_cons (cY (h1 pins s σ H _ I h) fun u s1 ⟨x,H1,I1,r1,y,e,hl,q⟩=>?_);subst e;obtain⟨tk,rfl⟩:=r1;exact⟨hl,h2 _ pins s1 σ H1 Q I1 q⟩
theorem gI{t:TJ}(h:PJ X (v1::v2::es) t):PE X (.JoinedStr (v1::v2::es) pos) (t Str.empty):=fun pins s σ H Q I hq=>JoinedStr_many (h Str.empty pins s σ H Q I hq)
end
abbrev Cx.mJ(X:Cx)(e:Addr):Cx:={X with A:=X.A.mark (some (.ref e)),calm:=false,xe:=fun _ _=>False}
theorem dY.mark{cm:Bool}{k:Nat}{A:Around}(r:dY cm k A)(v:Option Value):dY false k (A.mark v):=⟨(fun z=>nomatch z),r.dp,r.un⟩
theorem Cx.Ok.mJ{X:Cx}(ok:X.Ok)(e:Addr):(X.mJ e).Ok:=
 ⟨ok.mod,ok.kind,ok.glob,ok.blt,ok.above,ok.inj,ok.has,ok.RZ,(fun z=>nomatch z),ok.frames,ok.Vo,ok.Y9,ok.bs,ok.LF,ok.Jq,ok.LG,ok.uA,ok.OM⟩
theorem Inv.mJ{X:Cx}{pins:List (Addr×Obj)}{σ:St}{H:Hp}{s:Shared}(I:Inv X pins σ H s)(e:Addr):Inv (X.mJ e) pins σ H s:=⟨I.ok.mJ e,I.os,I.bare,I.base,I.loc,I.cell,I.free,I.jg,I.pin,I.cC,I.len⟩
theorem Inv.vh{X:Cx}{pins:List (Addr×Obj)}{σ:St}{H:Hp}{s:Shared}{e:Addr}(ok:X.Ok)(I:Inv (X.mJ e) pins σ H s):Inv X pins σ H s:=⟨ok,I.os,I.bare,I.base,I.loc,I.cell,I.free,I.jg,I.pin,I.cC,I.len⟩
def JX(X:Cx)(pins:List (Addr×Obj))(σ:St)(H:Hp)(s:Shared)(ea C:Addr)(B:Heap)(a0:Value):Prop:=
 ∃Hp sp,Inv X pins σ Hp sp∧s.os=sp.os∧AllBare s.gens∧Un (mW X.stack) [] Hp H sp.heap s.heap∧mM X.prog X.w H B∧(∀b o,sp.heap.get? b=some o→Hp b=none→b∉mW X.stack→B.get? b=some o)∧
  (∀b o,sp.heap.get? b=some o→b∉mW X.stack→∃o',B.get? b=some o')∧B.StaysIn s.heap∧B.get? ea=none∧s.heap.FunFrames B X.stack∧ExcAt ea C s.heap∧(∃ob vs,s.heap.get? ea=some ob∧ob.data= .fields vs)
section
variable{X:Cx}{pins:List (Addr×Obj)}{σ:St}{H:Hp}{s:Shared}{ea C:Addr}{B:Heap}{a0:Value}
theorem JX.inv(f:JX X pins σ H s ea C B a0):Inv X pins σ H s:=by
 obtain⟨Hp,sp,I,os,bare,un,hB,kB,tB,st,en,ff,ex⟩:=f;exact I.Nv (ch:=[]) os un (hB.kept st) bare fun b z=>absurd z XD
theorem JX.turn{h2:Heap}{a1:Value}(f:JX X pins σ H s ea C B a0)(fl:Heap.FlyingW B X.stack ea (.ref C) a1 h2)(up:s.heap.UpToSlots h2):JX X pins σ H {s with heap:=h2} ea C B a1:=by
 obtain⟨Hp,sp,I,os,bare,un,hB,kB,tB,st,en,ff,ex⟩:=f;obtain⟨ob,e1,e2⟩:=fl.there;obtain⟨oe,vs,e3,_,e4,_⟩:=fl.first;refine⟨Hp,sp,I,os,bare,⟨fun b o q hn hb _=>fl.1 b o (kB b o q hn hb),fun b o q hn hb _=>?_,un.free,fun b o q _=>?_,un.cO,un.mV,un.oY⟩,hB,kB,tB,fl.1,en,fl.2.2.1,⟨ob,e1,e2⟩,oe,vs,e3,e4⟩
 ·obtain⟨sl,q1⟩:=un.slot b o q hn hb XD;obtain⟨_,o2,q2,Ex⟩:=ff.mem hb;rw[q1]at q2;cases q2;obtain⟨DT,q3⟩:=up b _ q1 Ex;exact⟨DT,q3⟩
 ·by_cases hb:b∈mW X.stack
  ·obtain⟨_,o2,q2,Ex⟩:=ff.mem hb;obtain⟨DT,q3⟩:=up b _ q2 Ex;exact⟨_,q3⟩
  ·obtain⟨o3,q3⟩:=tB b o q hb;exact⟨o3,fl.1 b o3 q3⟩
theorem JX.fresh(f:JX X pins σ H s ea C B a0):H ea=none∧(∀o,X.dB.heap.get? ea=some o→ea∈X.ex)∧ea≠X.env.locals∧(∀x c,X.env.cells.lookup x=some c→c≠ea)∧(∀p∈X.pn++pins,p.1≠ea):=by
 have I0:=f.inv;obtain⟨Hp,sp,I,os,bare,un,hB,kB,tB,st,en,ff,ex,ob,vs,eo,ed⟩:=f;have nf:ea∉mW X.stack:=fun hm=>by
  obtain⟨_,o2,q2,Ex⟩:=ff.mem hm;rw[eo]at q2;cases q2;exact Ex vs ed
 have np:∀o,sp.heap.get? ea≠some o:=fun o q=>by
  obtain⟨o3,q3⟩:=tB ea o q nf;rw[en]at q3;cases q3
 refine⟨?_,?_,fun z=>?_,fun x c e z=>?_,fun p hp z=>?_⟩
 ·cases q:H ea with
  |none=>rfl
  |some u=>
   obtain⟨o,z⟩:=vJ (hB ea u q);rw[en]at z;cases z
 ·intro o q;by_cases hx:ea∈X.ex
  ·exact hx
  ·obtain⟨o',z⟩:=I.base.there ea o q hx;exact absurd z (np o')
 ·obtain⟨m,⟨oL,_,_,Js,_⟩,_⟩:=I.loc;exact np oL (z▸Js)
 ·obtain⟨v,o,ho,_⟩:=I.cell x c e;exact np o (z▸ho)
 ·exact np p.2 (z▸(I.pin p hp).1)
theorem Inv.SS{o:HO}(I:Inv X pins σ H s)(hn:H ea=none)(h0:∀o,X.dB.heap.get? ea=some o→ea∈X.ex)(hl:ea≠X.env.locals)(hc:∀x c,X.env.cells.lookup x=some c→c≠ea)(hp:∀p∈X.pn++pins,p.1≠ea)
  (new:dn X.prog X.w (upd H ea o) s.heap ea o):Inv X pins σ (upd H ea o) s:=by
 have ne:∀b u,H b=some u→b≠ea:=fun b u e z=>by rw[z,hn]at e;cases e
 refine⟨I.ok,I.os,I.bare,⟨I.base.keep,I.base.slot,fun b ob q n hx=>?_,I.base.there,fun b xs q=>?_,fun b ob u q=>?_,fun b ps q=>?_⟩,I.loc,I.cell,?_,fun x c e=>?_,fun p Zk=>?_,fun b u e=>?_,I.len⟩
 ·rw[aj (fun z=>hx (by rw[z]at q⊢;exact h0 ob q))];exact I.base.free b ob q n hx
 ·have q1:=I.base.cO b xs q;rw[aj (ne _ _ q1)];exact q1
 ·have q1:=I.base.mV b ob u q;rw[aj (ne _ _ q1)];exact q1
 ·obtain⟨more,q1⟩:=I.base.oY b ps q;exact⟨more,by rw[aj (ne _ _ q1)];exact q1⟩
 ·rw[aj (Ne.symm hl)];exact I.free
 ·rw[aj (hc x c e)];exact I.jg x c e
 ·obtain⟨e,n,r⟩:=I.pin p Zk;exact⟨e,by rw[aj (hp p Zk)];exact n,r⟩
 ·by_cases hb:b=ea
  ·subst hb;rw[af]at e;cases e;exact new
  ·rw[aj hb]at e;refine(I.cC b u e).pY (fun _ _ _ q=>q) (fun c q=>?_) fun c xs q=>?_
   ·rw[aj (ne _ _ q)];exact q
   ·rw[aj (ne _ _ q)];exact q
theorem JX.tracked(f:JX X pins σ H s ea C B a0):Inv X pins σ (upd H ea (.exc ea C)) s:=by
 obtain⟨h1,h2,h3,h4,h5⟩:=f.fresh;have I:=f.inv;obtain⟨Hp,sp,_,os,bare,un,hB,kB,tB,st,en,ff,⟨o,e1,e2⟩,_⟩:=f;exact I.SS h1 h2 h3 h4 h5 ⟨⟨o,e1,e2⟩,⟨o,e1⟩,fun a b ⟨o',q1,q2⟩ k=>⟨o',k o' q1,q2⟩⟩
theorem jl{M:Model}{A:Around}{E:Value→Shared→Prop}{i:Nat}{n:Str}{pos:Pos}{Q:Unit→Shared→Prop}(I:Inv X pins σ H s)(hN:X.N.Nodup)(hi:X.N[i]?=some n)(hk:X.env.scope.names.lookup n=some .local)
  (h:∀s',Inv X pins (σ.set i none) H s'→Q () s'):wpAny M A (do bindName X.env n .none;unbindBehindTheSuite X.env n pos) Q E s:=by
 obtain⟨m,hn,hl⟩:=id I.loc;have OP:(X.env.scope.kind== .class||(X.env.scope.kind== .module&&X.env.locals !=X.env.globals))=false:=by rw[I.ok.kind];rfl
 have LH:i<σ.length:=by rw[I.len];exact(Η hi).1
 have Jr:=I.Jr;refine wpAny_nameGoes_keeps hk hn OP fun h' v D_ hs=>?_
 obtain⟨oL,_,_,Js,_⟩:=id hn;refine h _ ⟨I.ok,I.os,I.bare,⟨fun b o e n hb hx=>?_,fun b o e n hb hx=>?_,I.base.free,fun b o e hx=>?_,I.base.cO,I.base.mV,I.base.oY⟩,⟨_,D_,fun j y v' e1 e2 e3=>?_⟩,fun y c e=>?_,I.free,I.jg,fun p hp=>?_,fun b ob e=>?_,by simpa using I.len⟩
 ·exact(hs.2 b (Nat.ne_of_lt (Nat.lt_of_lt_of_le (Λ e) I.ok.above))).trans (I.base.keep b o e n hb hx)
 ·obtain⟨sl,e1⟩:=I.base.slot b o e n hb hx;exact⟨sl,(hs.2 b (Nat.ne_of_lt (Nat.lt_of_lt_of_le (Λ e) I.ok.above))).trans e1⟩
 ·obtain⟨o',e1⟩:=I.base.there b o e hx;exact⟨o',(hs.2 b (Nat.ne_of_lt (Nat.lt_of_lt_of_le (Λ e) I.ok.above))).trans e1⟩
 ·by_cases hj:j=i
  ·subst hj;rw[List.getElem?_set_self LH]at e2;cases e2
  ·rw[List.getElem?_set_ne (Ne.symm hj)]at e2;obtain⟨u',r',q⟩:=hl j y v' e1 e2 e3;refine⟨u',r',?_⟩;rcases q with⟨k,e⟩|⟨k,c,e,z⟩
   ·refine .inl ⟨k,?_⟩;have:y≠n:=fun e=>hj (vy hN e1 (e▸hi))
    simp[this,e]
   ·exact .inr ⟨k,c,e,z.sameBut hs (Jr y c e)⟩
 ·obtain⟨w',z⟩:=I.cell y c e;exact⟨w',z.sameBut hs (Jr y c e)⟩
 ·obtain⟨e,n,ne,nf,d⟩:=I.pin p hp;exact⟨(hs.2 p.1 ne).trans e,n,ne,nf,d⟩
 ·refine(I.cC b ob e).pY (fun c w' hc q=>(hs.2 c ?_).trans q) (fun _ q=>q) fun _ _ q=>q
  rintro rfl;rcases hc with rfl|hc
  ·rw[I.free]at e;cases e
  ·rw[I.free]at hc;cases hc
end
abbrev TH:=Addr→TS
def PH(X:Cx)(hs:List ExceptHandler)(t:TH):Prop:=
 ∀(pins:List (Addr×Obj))(s:Shared)(σ:St)(H:Hp)(D:Ends)(ea C:Addr)(B:Heap)(a0:Value),JX X pins σ H s ea C B a0→Heap.FlyingW B X.stack ea (.ref C) a0 s.heap→t C D σ H→
  wpAny (model X.prog X.w) X.A (handleBy (.ref ea) X.env hs) (SP X pins D) X.xe s
def Ends.drop(D:Ends)(i:Nat):Ends:={nx:=fun σ H=>D.nx (σ.set i none) H,rt:=D.rt,bk:=fun σ H=>D.bk (σ.set i none) H,ct:=fun σ H=>D.ct (σ.set i none) H}
def hAs(K:Frag)(Dc:Addr)(i:Nat)(ts:TS)(tr:TH):TH:=fun C D σ H=>∃b,mroIn K C (.ref Dc)=some b∧
 if b=true then ∀ea,H ea=none→ts (D.drop i) (σ.set i (some (.ref ea))) (upd H ea (.exc ea C))else tr C D σ H
def Pu:TH:=fun _ _ _ _=>False
section
variable{X:Cx}{x n:Str}{np pos:Pos}{b0:Stmt}{mJ:List Stmt}{rest:List ExceptHandler}{ts:TS}{tr:TH}{Dc:Addr}{i:Nat}
theorem JY{hs:List ExceptHandler}:PH X hs Pu:=fun _ _ _ _ _ _ _ _ _ _ _ h=>h.elim
theorem SU(hg:Gl X x)(hm:X.mg x=some (.ref Dc))(c:sg X.K Dc)(hN:X.N.Nodup)(hi:X.N[i]?=some n)(hk:X.env.scope.names.lookup n=some .local)(hs:∀ea,Ea (X.mJ ea) (b0::mJ) ts)(hr:PH X rest tr)
  (xO:(x==("__debug__":Str))=false:=by decide):PH X (.ExceptHandler (some (.Name x np)) (some n) (b0::mJ) pos::rest) (hAs X.K Dc i ts tr):=by
 intro pins s σ H D ea C B a0 f fl h;obtain⟨b,hb,h⟩:=h;have I:=f.inv;have ex:ExcAt ea C s.heap:=by obtain⟨_,_,_,_,_,_,_,_,_,_,_,_,ex,_⟩:=f;exact ex
 refine wpAny_handleBy_cons (codeAny_handlers_test (nU (I.mJ ea) hg hm (vK I.pZ ex c hb ?_) xO)) (by intro q;cases q);cases b with
 |false=>exact hr pins s σ H D ea C B a0 f fl h
 |true=>
  refine codeAny_handlers_suite_as ?_;refine lands_againW fl fun h6 fl6 up6=>?_
  have f6:=f.turn fl6 up6;have I6:=f6.tracked;have hn6:=f6.fresh.1;refine vz (v:= .ref ea) I6 hN hi (.inl hk) rfl (fun s7 I7=>?_) (.inr hk);refine wpAny_mono (hs ea pins s7 _ _ (D.drop i) (I7.mJ ea) (h ea hn6)) (fun fl s8 q=>?_) fun _ _ z=>False.elim z
  cases fl with
  |next=>
   obtain⟨bG,H',I8,q⟩:=q;exact jl (I8.vh I.ok) hN hi hk fun s9 I9=>⟨_,H',I9,q⟩
  |brk=>
   obtain⟨bG,H',I8,q⟩:=q;exact jl (I8.vh I.ok) hN hi hk fun s9 I9=>⟨_,H',I9,q⟩
  |cont=>
   obtain⟨bG,H',I8,q⟩:=q;exact jl (I8.vh I.ok) hN hi hk fun s9 I9=>⟨_,H',I9,q⟩
  |ret u=>
   obtain⟨v,bG,H',I8,r,q⟩:=q;exact jl (I8.vh I.ok) hN hi hk fun s9 I9=>⟨v,_,H',I9,r,q⟩
abbrev Cx.p_(X:Cx)(pn:List (Addr×Obj))(xe:Value→Shared→Prop):Cx:={X with pn:=pn,xe:=xe}
theorem Cx.Ok.p_{X:Cx}(ok:X.Ok)(pn:List (Addr×Obj))(xe:Value→Shared→Prop):(X.p_ pn xe).Ok:=
 ⟨ok.mod,ok.kind,ok.glob,ok.blt,ok.above,ok.inj,ok.has,ok.RZ,ok.hd,ok.frames,ok.Vo,ok.Y9,ok.bs,ok.LF,ok.Jq,ok.LG,ok.uA,ok.OM⟩
theorem Inv.p_{pins:List (Addr×Obj)}{σ:St}{H:Hp}{s:Shared}(I:Inv X pins σ H s)(xe:Value→Shared→Prop):Inv (X.p_ (X.pn++pins) xe) [] σ H s:=
 ⟨I.ok.p_ _ xe,I.os,I.bare,I.base,I.loc,I.cell,I.free,I.jg,fun p hp=>I.pin p (by simpa using hp),I.cC,I.len⟩
theorem Inv.qb{pins Co:List (Addr×Obj)}{σ:St}{H:Hp}{s:Shared}{xe:Value→Shared→Prop}(ok:X.Ok)(I:Inv (X.p_ (X.pn++pins) xe) Co σ H s):Inv X pins σ H s:=
 ⟨ok,I.os,I.bare,I.base,I.loc,I.cell,I.free,I.jg,fun p hp=>I.pin p (List.mem_append_left _ hp),I.cC,I.len⟩
def Xa(tb:(St→XK)→TS)(th:TH):TS:=fun D σ H=>∃E:St→XK,tb E D σ H∧∀bG cls od H',E bG cls od H'→∃C,cls= .ref C∧th C D bG H'
theorem Px{body:List Stmt}{h0:ExceptHandler}{tb:(St→XK)→TS}{th:TH}(Po:X.stack=X.env::X.outer)(hf:X.env.frame=some X.env.locals)
  (hb:∀(E:St→XK)(pn:List (Addr×Obj))(xe:Value→Shared→Prop),Passes (de X.prog X.w) (X.p_ pn xe) E→PassesOwn (model X.prog X.w) X.A X.env xe→Ea (X.p_ pn xe) body (tb E)) (hh:PH X (h0::rest) th):PS X (.Try body (h0::rest) [] [] pos) (Xa tb th):=by
 intro pins s σ H D I h;obtain⟨E,h1,h2⟩:=h;refine wpAny_Try_except ?_;have key:∀(bG:St)(H':Hp)(s':Shared)(e:Value)(s2:Shared),Inv X pins bG H' s'→de X.prog X.w X.stack H' s' (E bG) e s2→wpAny (model X.prog X.w) X.A (noteFrame e X.env) (fun _ s3=>wpAny (model X.prog X.w) X.A (setFlight e none) (fun _ s4=>wpAny (model X.prog X.w) X.A (handleBy e X.env (h0::rest)) (SP X pins D) X.xe s4) X.xe s3) X.xe s2:=by
  rintro bG H' s' e s2 I' ⟨ea,cls,a0,B,H2,rfl,os,bare,fl,un,hB,kB,tB,hE⟩;obtain⟨C,rfl,ht⟩:=h2 _ _ _ _ hE;obtain⟨ob,q1,q2⟩:=fl.there;obtain⟨oe,vs,q3,_,q4,_⟩:=fl.first;have f:JX X pins bG H2 s2 ea C B a0:=⟨H',s',I',os,bare,un,hB,kB,tB,fl.1,fl.2.1,fl.2.2.1,⟨ob,q1,q2⟩,oe,vs,q3,q4⟩
  have Xb:X.A.frames=some (X.env::X.outer):=by rw[I'.ok.frames,Po]
  rw[Po]at fl;refine wpAny_looks_onW Xb hf fl fun h4 SV up4=>?_
  refine wpAny_landsW SV fun h5 Xc up5=>?_
  rw[←Po]at Xc;exact hh pins _ bG H2 D ea C B a0 (f.turn Xc (up4.trans up5)) Xc ht
 have ok:=I.ok;refine wpAny_mono (hb E (X.pn++pins) _ (fun Co bG H' s' e s2 I' hx=>key bG H' s' e s2 (I'.qb ok) hx) PassesOwn.looking [] s σ H D (I.p_ _) h1) (fun f s2 q=>?_) fun e s2 q=>q
 cases f with
 |next=>obtain⟨bG,H',I8,q⟩:=q;exact wpAny_execs_nil ⟨bG,H',I8.qb ok,q⟩
 |brk=>obtain⟨bG,H',I8,q⟩:=q;exact⟨bG,H',I8.qb ok,q⟩
 |cont=>obtain⟨bG,H',I8,q⟩:=q;exact⟨bG,H',I8.qb ok,q⟩
 |ret u=>obtain⟨v,bG,H',I8,r,q⟩:=q;exact⟨v,bG,H',I8.qb ok,r,q⟩
end
def gu(env:Env):List (Str×NameKind)→List (Str×Addr)→List (Str×Addr)
 |[],acc=>acc
 |(n,k)::r,acc=>if k= .free then gu env r ((n,(env.cells.lookup n).getD 0)::acc)else gu env r acc
theorem zP{env:Env}{scope:Scope}(h:∀x∈scope.names,x.2= .free→∃c,env.cells.lookup x.1=some c):closureFor scope env=pure (gu env scope.names []):=by
 unfold closureFor
 suffices H:∀(l:List (Str×NameKind))(acc:List (Str×Addr)),(∀x∈l,x.2= .free→∃c,env.cells.lookup x.1=some c)→
   (forIn l acc fun(x:Str×NameKind)(cs:List (Str×Addr))=>if (x.2==NameKind.free)=true then do let c←cellOf env x.1;pure (ForInStep.yield ((x.1,c)::cs))else pure (ForInStep.yield cs):Sem (List (Str×Addr)))=pure (gu env l acc) by
  have:=H scope.names [] h;simpa using this
 intro l
 induction l with
 |nil=>intro acc _;rfl
 |cons x r ih=>
  intro acc hl;obtain⟨n,k⟩:=x;rw[List.forIn_cons];by_cases hk:k= .free
  ·subst hk;obtain⟨c,hc⟩:=hl (n, .free) List.mem_cons_self rfl;have OQ:env.cells.lookup n=some c:=hc;simp only[beq_self_eq_true,if_true,cellOf,OQ,gu,Option.getD_some];show(pure _>>=_)=_;rw[pure_bind];exact ih _ fun y hy=>hl y (List.mem_cons_of_mem _ hy)
  ·have hb:(k==NameKind.free)=false:=by simpa using hk
   simp only[hb,Bool.false_eq_true,if_false,gu,hk];rw[pure_bind];exact ih _ fun y hy=>hl y (List.mem_cons_of_mem _ hy)
theorem lz{env:Env}{x:Str}{c:Addr}:∀{l:List (Str×NameKind)}{acc:List (Str×Addr)},(∀y∈l,y.2= .free→∃c,env.cells.lookup y.1=some c)→
  (∀y d,acc.lookup y=some d→env.cells.lookup y=some d)→(gu env l acc).lookup x=some c→env.cells.lookup x=some c
 |[],acc,_,ha,h=>ha x c h
 |(n,k)::r,acc,hl,ha,h=>by
  unfold gu at h;have hr:∀y∈r,y.2= .free→∃c,env.cells.lookup y.1=some c:=fun y hy=>hl y (List.mem_cons_of_mem _ hy)
  split at h
  ·rename_i hk
   obtain⟨d,hd⟩:=hl (n,k) List.mem_cons_self hk;refine lz hr (fun y e he=>?_) h;rw[List.lookup_cons]at he;split at he
   ·rename_i q
    have q':y=n:=by simpa using q
    subst q';have Q2:env.cells.lookup y=some d:=hd;rw[Q2,Option.getD_some]at he;cases he;exact Q2
   ·exact ha y e he
  ·exact lz hr ha h
theorem qc{env:Env}{x:Str}:∀{l:List (Str×NameKind)}{acc:List (Str×Addr)},((x,NameKind.free)∈l∨∃c,acc.lookup x=some c)→∃c,(gu env l acc).lookup x=some c
 |[],acc,h=>by
  rcases h with h|h
  ·simp at h
  ·exact h
 |(n,k)::r,acc,h=>by
  unfold gu;split
  ·rename_i hk
   refine qc ?_;rcases h with h|⟨c,h⟩
   ·rcases List.mem_cons.mp h with e|e
    ·injection e with e1 e2;subst e1;exact .inr ⟨(env.cells.lookup x).getD 0,by simp[List.lookup_cons]⟩
    ·exact .inl e
   ·by_cases q:x=n
    ·subst q;exact .inr ⟨(env.cells.lookup x).getD 0,by simp[List.lookup_cons]⟩
    ·refine .inr ⟨c,?_⟩;rw[List.lookup_cons];have:(x==n)=false:=by simpa using q
     rw[this];exact h
  ·rename_i hk
   refine qc ?_;rcases h with h|h
   ·rcases List.mem_cons.mp h with e|e
    ·injection e with e1 e2;exact absurd e2.symm hk
    ·exact .inl e
   ·exact .inr h
theorem qd{env:Env}{x:Str}:∀{names:List (Str×NameKind)},names.lookup x=some .free→
  (names.map fun(n,k)=>if (k==NameKind.free&&env.scope.kind== .function&&env.kindOf n==some .cell)then(n,NameKind.cell)else(n,k)).lookup x=some .cell∨
  (names.map fun(n,k)=>if (k==NameKind.free&&env.scope.kind== .function&&env.kindOf n==some .cell)then(n,NameKind.cell)else(n,k)).lookup x=some .free
 |[],h=>by simp at h
 |(n,k)::r,h=>by
  have ih:=@qd env x r;show List.lookup x ((if (k==NameKind.free&&env.scope.kind== .function&&env.kindOf n==some .cell)=true then(n,NameKind.cell)else(n,k))::_)=_∨List.lookup x ((if (k==NameKind.free&&env.scope.kind== .function&&env.kindOf n==some .cell)=true then(n,NameKind.cell)else(n,k))::_)=_;rw[List.lookup_cons]at h;by_cases hc:(k==NameKind.free&&env.scope.kind== .function&&env.kindOf n==some .cell)=true
  ·rw[VH hc,List.lookup_cons];cases hx:x==n with
   |true=>exact .inl rfl
   |false=>rw[hx]at h;exact ih h
  ·rw[M9 hc,List.lookup_cons];cases hx:x==n with
   |true=>rw[hx]at h;exact .inr h
   |false=>rw[hx]at h;exact ih h
theorem qe{env:Env}{x:Str}:∀{names:List (Str×NameKind)},(∀y∈names,y.2≠ .cell)→
  ((names.map fun(n,k)=>if (k==NameKind.free&&env.scope.kind== .function&&env.kindOf n==some .cell)then(n,NameKind.cell)else(n,k)).lookup x=some .cell∨
  (names.map fun(n,k)=>if (k==NameKind.free&&env.scope.kind== .function&&env.kindOf n==some .cell)then(n,NameKind.cell)else(n,k)).lookup x=some .free)→(x,NameKind.free)∈names
 |[],_,h=>by simp at h
 |(n,k)::r,hc,h=>by
  have ih:=@qe env x r fun y hy=>hc y (List.mem_cons_of_mem _ hy)
  have h2:List.lookup x ((if (k==NameKind.free&&env.scope.kind== .function&&env.kindOf n==some .cell)=true then(n,NameKind.cell)else(n,k))::_)=_∨List.lookup x ((if (k==NameKind.free&&env.scope.kind== .function&&env.kindOf n==some .cell)=true then(n,NameKind.cell)else(n,k))::_)=_:=h;clear h;by_cases hq:(k==NameKind.free&&env.scope.kind== .function&&env.kindOf n==some .cell)=true
  ·rw[VH hq,List.lookup_cons]at h2;cases hx:x==n with
   |true=>
    have e:x=n:=by simpa using hx
    subst e;have hk:k= .free:=by
     rw[Bool.and_eq_true,Bool.and_eq_true]at hq;simpa using hq.1.1
    subst hk;exact List.mem_cons_self
   |false=>rw[hx]at h2;exact List.mem_cons_of_mem _ (ih h2)
  ·rw[M9 hq,List.lookup_cons]at h2;cases hx:x==n with
   |true=>
    rw[hx]at h2;have e:x=n:=by simpa using hx
    subst e;rcases h2 with h|h
    ·have h':some k=some NameKind.cell:=h;exact absurd (Ρ h') (hc (x,k) List.mem_cons_self)
    ·have h':some k=some NameKind.free:=h;rw[Ρ h'];exact List.mem_cons_self
   |false=>rw[hx]at h2;exact List.mem_cons_of_mem _ (ih h2)
def gR(X:Cx)(scope:Scope)(N:List Str)(dB:Shared)(fC:Hp)(C:Addr)(fp:List Addr)(pn:List (Addr×Obj)):Cx:=
 {X with N:=N,dB:=dB,fC:=fC,env:=compEnvC scope (gu X.env scope.names []) C X.env,outer:=X.stack,ex:=fp,fn:=fun _=>false,pn:=pn,xe:=fun _ _=>False}
structure bK(N:List Str)(sc:Scope)(scope:Scope)(ls:List Str)(js:List Nat)(cs:List Str):Prop where
 kind:scope.kind= .function
 NK:∀x∈scope.names,x.2≠ .cell
 names:∀x∈scope.names,x.2= .local→scope.names.lookup x.1=some .local
 loc:∀x∈ls,scope.names.lookup x=some .local
 at_:cs=js.filterMap (N[·]?)
 len:cs.length=js.length
 Xd:∀x∈cs,scope.names.lookup x=some .free∧(sc.names.lookup x=some .cell∨sc.names.lookup x=some .free)
 free:∀x∈scope.names,x.2= .free→(sc.names.lookup x.1=some .cell∨sc.names.lookup x.1=some .free)
 nd:(ls++cs).Nodup
section
variable{X:Cx}{pins:List (Addr×Obj)}{σ:St}{H:Hp}{s:Shared}{scope:Scope}{ls cs:List Str}{js:List Nat}{fp:List Addr}
theorem bK.has(S:bK X.N X.env.scope scope ls js cs)(ok:X.Ok):∀x∈scope.names,x.2= .free→∃c,X.env.cells.lookup x.1=some c:=fun x hx hf=>ok.has x.1 (S.free x hx hf)
def nh(ls:List Str)(js:List Nat)(σ:St):St:=ls.map (fun _=>none)++js.map fun j=>(σ[j]?).join
theorem Mh(S:bK X.N X.env.scope scope ls js cs)(I:Inv X pins σ H s)(hf:∀b∈fp,i8 X pins H b)(hl:∀b∈fp,b<s.heap.objs.size):(gR X scope (ls++cs) s H s.heap.objs.size fp (X.pn++pins)).Ok:=by
 have vL:∀{x:Str}{c:Addr},(gu X.env scope.names []).lookup x=some c→X.env.cells.lookup x=some c:=fun{x c} h=>lz (S.has I.ok) (fun y d h=>by simp at h) h
 refine⟨I.ok.mod,S.kind,I.ok.glob,I.ok.blt,Nat.le_refl _,fun x y c h1 h2=>I.ok.inj x y c (vL h1) (vL h2),fun x h=>qc (.inl (qe S.NK h)),(fun x c h=>Bool.noConfusion (show false=true from h)),I.ok.hd,I.ok.frames, .inl rfl,fun b hb=>⟨Nat.ne_of_lt (hl b hb),fun x c h=>(hf b hb).2.2.2.2.1 x c (vL h)⟩,
  I.bs,Nat.le_trans I.ok.LF I.sz,fun b o e hb=>?_,fun b hb hm=>?_,I.stack,I.zy⟩
 ·rcases(hf b hb).2.2.2.1 with z|z
  ·exact I.ok.Jq b o e z
  ·exact absurd (Nat.lt_of_lt_of_le (Λ e) I.ok.LF) (Nat.not_lt.mpr z)
 ·rcases List.mem_cons.mp (I.vx b hm)with z|z
  ·exact(hf b hb).2.1 z
  ·exact(hf b hb).2.2.1 z
theorem JZ{h1:Heap}{m:Str→Option Value}(S:bK X.N X.env.scope scope ls js cs)(I:Inv X pins σ H s)(hf:∀b∈fp,i8 X pins H b)(hl:∀b∈fp,b<s.heap.objs.size)
  (hn:h1.Ns s.heap.objs.size m) (hk:∀b o,s.heap.get? b=some o→h1.get? b=some o):
  Inv (gR X scope (ls++cs) s H s.heap.objs.size fp (X.pn++pins)) [] (nh ls js σ) H {s with heap:=h1}:=by
 have vL:∀{x:Str}{c:Addr},(gu X.env scope.names []).lookup x=some c→X.env.cells.lookup x=some c:=fun{x c} h=>lz (S.has I.ok) (fun y d h=>by simp at h) h
 have len:(nh ls js σ).length=(ls++cs).length:=by
  unfold nh;rw[List.length_append,List.length_append,List.length_map,List.length_map,S.len]
 refine⟨Mh S I hf hl,rfl,I.bare,Un.kept hk,⟨m,hn,fun i x v e1 e2 e3=>?_⟩,fun x c e=>?_,I.cC.fresh Ξ,fun x c e=>I.jg x c (vL e),fun p hp=>?_,I.cC.kept hk,len⟩
 ·have e1:(ls++cs)[i]?=some x:=e1;unfold nh at e2;by_cases hi:i<ls.length
  ·rw[ζ (by simpa using hi),List.getElem?_map]at e2;cases q:ls[i]? with
   |none=>rw[q]at e2;cases e2
   |some y=>rw[q]at e2;cases e2
  ·have Mi:ls.length≤i:=Nat.not_lt.mp hi;rw[θ (by simpa using Mi),List.getElem?_map,List.length_map]at e2;rw[θ Mi]at e1;obtain⟨Zl,DU⟩:=S.Xd x (Ψ e1);cases q:js[i-ls.length]? with
   |none=>rw[q]at e2;cases e2
   |some j=>
    rw[q]at e2;have e2:(σ[j]?).join=some v:=Ρ e2;have eN:X.N[j]?=some x:=by
     have aux:∀(js:List Nat)(cs:List Str)(i:Nat),cs=js.filterMap (X.N[·]?)→cs.length=js.length→∀j x,js[i]?=some j→cs[i]?=some x→X.N[j]?=some x:=by
      intro js
      induction js with
      |nil=>intro cs i _ _ j x hj _;simp at hj
      |cons a r ih=>
       intro cs i he hl j x hj hx;rw[List.filterMap_cons]at he;cases qa:X.N[a]? with
       |none=>
        rw[qa]at he;have hle:=List.length_filterMap_le (X.N[·]?) r;simp only at he;rw[he,List.length_cons]at hl
        lia
       |some y=>
        rw[qa]at he;simp only at he;subst he;cases i with
        |zero=>
         simp at hj hx;subst hj hx;exact qa
        |succ i=>exact ih _ i rfl (by simpa using hl) j x (by simpa using hj) (by simpa using hx)
     exact aux js cs _ S.at_ S.len j x q e1
    obtain⟨mX,_,hlX⟩:=I.loc;have e2':σ[j]?=some (some v):=by
     cases z:σ[j]? with
     |none=>rw[z]at e2;cases e2
     |some w=>rw[z]at e2;rw[show w=some v from e2]
    obtain⟨u,r,l⟩:=hlX j x v eN e2' (DU.elim (fun z=> .inr (.inl z)) fun z=> .inr (.inr z));refine⟨u,r,?_⟩;rcases l with⟨z,_⟩|⟨_,c,z1,o,z2,z3⟩
    ·have z:X.env.scope.names.lookup x=some .local:=z;rcases DU with w|w<;>(rw[z]at w;cases w)
    ·refine .inr ⟨qd Zl,c,?_,o,hk c o z2,z3⟩;obtain⟨c',OQ⟩:=qc (env:=X.env) (l:=scope.names) (acc:=[]) (x:=x) (.inl (PySem.mem_of_lookup Zl));have:=vL OQ;rw[z1]at this;cases this;exact OQ
 ·obtain⟨v,o,z1,z2⟩:=I.cell x c (vL e);exact⟨v,o,hk c o z1,z2⟩
 ·have hp:p∈X.pn++pins:=by simpa[gR]using hp
  obtain⟨e,n,ne,nf,d⟩:=I.pin p hp;refine⟨hk _ _ e,n,Nat.ne_of_lt (Λ e),fun hm=>?_,d⟩;rcases List.mem_cons.mp (I.vx p.1 hm)with z|z
  ·exact ne z
  ·exact nf z
end
section
variable{prog:Program}{w:World}{A:Around}{R:Result→Shared→Prop}{s:Shared}
theorem zQ{elt target iter:Expr}{ifs:List Expr}{scope:Scope}{pos:Pos}{it acc:Value}{env:Env}(L:Nat→Shared→Prop)
  (turn:∀n s,L n s→wpAny (model prog w) A (pyNext it) (fun r cM=>match r with
   |none=>R (.ok .next) cM
   |some v=>wpAny (model prog w) A (letOwnedTupleGo target it v) (fun _ NL=>wpAny (model prog w) A (assign target env v) (fun _ r4=>
     wpAny (model prog w) A (forIn ifs true fun c r=>if r=true then do let ok←isTrue c env (eval c env);pure (ForInStep.yield ok)else pure (ForInStep.yield r)) (fun ok Ho=>
      if ok=true then wpAny (model prog w) A (eval elt env) (fun x SW=>
       wpAny (model prog w) A (call (.builtin "list.append") [acc,x]) (fun _ SX=>∃m,m<n∧L m SX) (fun _ _=>False) SW) (fun _ _=>False) Ho
      else ∃m,m<n∧L m Ho) (fun _ _=>False) r4) (fun _ _=>False) NL) (fun _ _=>False) cM) (fun _ _=>False) s)
  (n:Nat) (h:L n s):codeAny (model prog w) A (.compLoop (.ListComp elt [⟨target,iter,ifs,0⟩] scope pos) 0 it acc env) R s:=by
 refine codeAny_loop rfl L (fun n s hI=>?_) n h;show wpAny _ A ((compTurn (.ListComp elt [⟨target,iter,ifs,0⟩] scope pos) 0 it acc env).onRaise (fun x=>do noteFrame x env;theTreesLotGoes x)) _ _ s;refine wpAny_noted ?_;rw[compTurn_list];refine wpAny_mono (E:=fun _ _=>False) ?_ (fun _ _ q=>q) fun _ _ z=>False.elim z
 refine wpAny_bind (wpAny_standAt (Θ (wpAny_mono (turn n s hI) (fun r cM zD=>?_) fun _ _ h'=>h')));cases r with
 |none=>exact Δ zD
 |some v=>
  refine wpAny_bind (wpAny_mono zD (fun _ NL zD=>?_) fun _ _ h'=>h');refine wpAny_bind (wpAny_mono zD (fun _ r4 zE=>Θ (wpAny_mono zE (fun ok Ho LW=>?_) fun _ _ h'=>h')) fun _ _ h'=>h');cases ok with
  |false=>exact Δ ⟨rfl,LW⟩
  |true=>
   exact Θ (Θ (wpAny_mono LW (fun x SW Xe=>Θ (wpAny_mono Xe (fun _ SX Xf=>Δ (Δ ⟨rfl,Xf⟩)) fun _ _ h'=>h')) fun _ _ h'=>h'))
end
def SY(X:Cx)(ifs:List Expr)(t:TT):Prop:=
 ∀(pins:List (Addr×Obj))(s:Shared)(σ:St)(H:Hp)(Q:Bool→Hp→Prop),Inv X pins σ H s→t σ H Q→
  wpAny (model X.prog X.w) X.A (forIn ifs true fun c r=>if r=true then do let ok←isTrue c X.env (eval c X.env);pure (ForInStep.yield ok)else pure (ForInStep.yield r)) (TP X pins σ Q) X.xe s
def Py:TT:=fun _ H Q=>Q true H
theorem fS{X:Cx}:SY X [] Py:=fun _ _ _ H _ I h=>wpAny_tests_nil ⟨H,I,h⟩
theorem zR{X:Cx}{c:Expr}{t:TT}(h:PT X c t):SY X [c] t:=fun pins s σ H Q I hq=>wpAny_tests_one (h pins s σ H Q I hq)
def vM(J:It)(ls:List Str)(js:List Nat)(g:TG)(tt:TT)(te:TE)(σ:St)(H1:Hp)(D:Addr)(Q:VK):Prop:=
 ∃W:Nat→Nat→List V→St→Hp→Prop,(∃m,W 0 m [] (nh ls js σ) (upd H1 D (.lst [])))∧∀i m ys bG H',W i m ys bG H'→
 (J.stop i H'∧Q (.ref D) H')∨(J.go i H'∧∃N:List V→St→Hp→Prop,(∀Cc gh H2,N Cc gh H2→∃m',m'<m∧W (i+1) m' Cc gh H2)∧∀x H2,J.Lo i H' x H2→g x bG H2 fun gh H3=>tt gh H3 fun b H4=>
  if b=true then te gh H4 fun y H5=>H5 D=some (.lst ys)∧ys.length<sizeLine∧N (ys++[y]) gh (upd H5 D (.lst (ys++[y])))else N ys gh H4)
def J0(wi:TI)(ls:List Str)(js:List Nat)(g:TG)(tt:TT)(te:TE):TE:=fun σ H Q=>wi σ H fun J H1=>∀D,H1 D=none→vM J ls js g tt te σ H1 D Q
section
variable{X:Cx}{tg iter elt:Expr}{ifs:List Expr}{scope:Scope}{pos:Pos}{wi:TI}{g:TG}{tt:TT}{te:TE}{ls cs:List Str}{js:List Nat}
theorem y6{pins:List (Addr×Obj)}{s:Shared}{σ:St}{H:Hp}{Q:VK}{use:Option (Value→Sem Unit)}{QQ:Value→Shared→Prop}(hc:X.calm=true)(S:bK X.N X.env.scope scope ls js cs)(hi:PI X tg iter wi)
  (hg:∀dB fC C fp pn,PG (gR X scope (ls++cs) dB fC C fp pn) tg g) (ht:∀dB fC C fp pn,SY (gR X scope (ls++cs) dB fC C fp pn) ifs tt) (he:∀dB fC C fp pn,PE (gR X scope (ls++cs) dB fC C fp pn) elt te)
  (I:Inv X pins σ H s) (h:J0 wi ls js g tt te σ H Q)
  (Xg:∀(D C:Addr)(H':Hp)(s':Shared)(m:Str→Option Value),Inv X pins σ H' s'→Q (.ref D) H'→s'.heap.Ns C m→i8 X pins H' C→compPost (model X.prog X.w) X.A X.xe use QQ (.ref D) C (.ok .next) s')
  (hs:∀x,foldedSetIterable iter X.env x=pure x:=by intro _;rfl):
  wpAny (model X.prog X.w) X.A (comprehension (.ListComp elt [⟨tg,iter,ifs,0⟩] scope pos) scope X.env (firstIterPos [⟨tg,iter,ifs,0⟩] pos) (newList []) false (eval iter X.env) use) QQ X.xe s:=by
 refine wpAny_comprehension_free rfl hs (zP (S.has I.ok)) S.kind S.names (cY (hi pins s σ H _ I h) fun v s1 h1=>cY h1 fun WM s2 h2=>?_);obtain⟨it,fp,tn,J,H2,rfl,I2,T,F_,f2,hW⟩:=h2;have Zm:∀b∈fp,b<s2.heap.objs.size:=fun b hb=>by
  obtain⟨o,e,_⟩:=T.obj 0 _ F_ b hb;exact Λ e
 refine wpAny_newObj_type ?_;have hD:H2 s2.heap.objs.size=none:=I2.cC.fresh Ξ;obtain⟨W,⟨m0,w0⟩,turn⟩:=hW _ hD;have I3:Inv X pins σ (upd H2 s2.heap.objs.size (.lst [])) {s2 with heap:=s2.heap.push {cls:= .type "list",dict:=none,data:= .seq ([]:List Value).toArray}}:=
  I2.laid (t':=s2.toks) (fun b u e=>Ο e) (Nat.le_refl _) ⟨Nat.zero_le _,[],0, .nil,Heap.get?_push_size _ rfl⟩
 have f3:∀b∈fp,i8 X pins (upd H2 s2.heap.objs.size (.lst [])) b:=fun b hb=>⟨by rw[aj (Nat.ne_of_lt (Zm b hb))];exact(f2 b hb).1,(f2 b hb).2⟩
 generalize hH3:upd H2 s2.heap.objs.size (.lst [])=H3 at I3 f3 w0;generalize Zn:({s2 with heap:=s2.heap.push {cls:= .type "list",dict:=none,data:= .seq ([]:List Value).toArray}}:Shared)=s3 at I3;have Zo:∀b∈fp,b<s3.heap.objs.size:=fun b hb=>by
  rw[←Zn];show b<(s2.heap.push _).objs.size;rw[Heap.size_push];exact Nat.lt_succ_of_lt (Zm b hb)
 have Vs:tn 0 s3.heap:=T.keep 0 _ _ F_ fun b hb o e=>by rw[←Zn];exact Ο e
 refine wpAny_newFunctionEnv S.NK (by intro y hy;simp at hy) (fun h4 Vz S7=>?_) S.kind;have k4:∀b o,s3.heap.get? b=some o→h4.get? b=some o:=fun b o e=>S7.extBut b o (Nat.ne_of_lt (Λ e)) (Ο e)
 have I4:=JZ (h1:=h4) S I3 f3 Zo Vz k4;have I4':=I4.tok (s3.toks+([]:List (Str×Value)).length);have Zp:tn 0 h4:=T.keep 0 _ _ Vs fun b hb o e=>k4 b o e
 show codeAny (model X.prog X.w) X.A (.compStart (.ListComp elt [⟨tg,iter,ifs,0⟩] scope pos) 0 (.ref it) (.ref s2.heap.objs.size) (compEnvC scope (gu X.env scope.names []) s3.heap.objs.size X.env)) (compPost (model X.prog X.w) X.A X.xe use QQ (.ref s2.heap.objs.size) s3.heap.objs.size) _;have Ee:∀{H':Hp},(∀b∈fp,H' b=none)→∀b∈fp,i8 (gR X scope (ls++cs) s3 H3 s3.heap.objs.size fp (X.pn++pins)) [] H' b:=fun{H'} hn b hb=>by
  obtain⟨q1,q2,q3,q4,q5,q6⟩:=f3 b hb;refine⟨hn b hb,Nat.ne_of_lt (Zo b hb),fun hm=>?_, .inl hb,fun x c e=>q5 x c (lz (S.has I.ok) (fun y d z=>by simp at z) e),fun p hp=>q6 p (by simpa[gR]using hp)⟩;rcases List.mem_cons.mp (I3.vx b hm)with z|z
  ·exact q2 z
  ·exact q3 z
 have loop:codeAny (model X.prog X.w) X.A (.compLoop (.ListComp elt [⟨tg,iter,ifs,0⟩] scope pos) 0 (.ref it) (.ref s2.heap.objs.size) (compEnvC scope (gu X.env scope.names []) s3.heap.objs.size X.env)) (compPost (model X.prog X.w) X.A X.xe use QQ (.ref s2.heap.objs.size) s3.heap.objs.size)
   {s3 with heap:=h4,toks:=s3.toks+([]:List (Str×Value)).length}:=by
  refine zQ (fun n s'=>∃i bG H',Inv (gR X scope (ls++cs) s3 H3 s3.heap.objs.size fp (X.pn++pins)) [] bG H' s'∧tn i s'.heap∧(∀b∈fp,H' b=none)∧∃ys,W i n ys bG H') ?_ m0 ⟨0,_,_,I4',Zp,fun b hb=>(f3 b hb).1,[],w0⟩;rintro n s5 ⟨i,VD,H5,I5,Q7,Vt,ys,w5⟩;rcases turn i n ys VD H5 w5 with⟨stop,qn⟩|⟨go,N,hN,step⟩
  ·refine cY (T.done (gR X scope (ls++cs) s3 H3 s3.heap.objs.size fp (X.pn++pins)) rfl rfl rfl hc i [] s5 VD H5 (fun _ _=>False) I5 (Ee Vt) Q7 stop) fun r s6 ⟨hr,I6⟩=>?_
   subst hr;obtain⟨m,hm,_⟩:=id I6.loc;have un:Un (mW X.stack) fp H3 H5 s3.heap s6.heap:=I6.base;have I7:Inv X pins σ H5 s6:=I3.Nv (ch:=fp) I6.os un I6.cC I6.bare fun b hb=>by
    obtain⟨q1,q2,q3,q4,q5,q6⟩:=f3 b hb;exact⟨q4,q2,q5,q6⟩
   have fc:i8 X pins H5 s3.heap.objs.size:=I3.xN Ξ I6.free;exact Xg _ _ H5 s6 m I7 qn hm fc
  ·refine cY (T.item (gR X scope (ls++cs) s3 H3 s3.heap.objs.size fp (X.pn++pins)) rfl rfl rfl hc i [] s5 VD H5 (fun _ _=>False) I5 (Ee Vt) Q7 go) fun r s6 ⟨u,hr,h6⟩=>?_
   subst hr;refine cY h6 fun _ s7 ⟨x,H7,I7,r7,y7,Xh,fr7⟩=>?_
   have I7':=I7.pinned (Ee fr7) (T.obj _ _ Xh);refine cY (hg _ _ _ _ _ _ s7 VD H7 x u _ I7' r7 (step x H7 y7)) fun _ s8 ⟨VE,H8,I8,q8⟩=>?_
   refine cY (ht _ _ _ _ _ _ s8 VE H8 _ I8 q8) fun b s9 ⟨H9,I9,q9⟩=>?_
   have again:∀{Cc:List V}{bG:St}{H':Hp}{s':Shared},Inv (gR X scope (ls++cs) s3 H3 s3.heap.objs.size fp (X.pn++pins)) ([]++vB fp s7.heap) bG H' s'→N Cc bG H'→
     ∃m,m<n∧∃i bG H',Inv (gR X scope (ls++cs) s3 H3 s3.heap.objs.size fp (X.pn++pins)) [] bG H' s'∧tn i s'.heap∧(∀b∈fp,H' b=none)∧∃ys,W i m ys bG H':=fun{Cc bG H' s'} I' n'=>by
    obtain⟨m',S8,w'⟩:=hN Cc bG H' n';refine⟨m',S8,i+1,bG,H',I'.m4,T.keep _ _ _ Xh fun b hb o e=>(I'.pin (b,o) (δ (δ (iq hb e)))).1,fun b hb=>?_,Cc,w'⟩;obtain⟨o,e,d⟩:=T.obj _ _ Xh b hb;exact(I'.pin (b,o) (δ (δ (iq hb e)))).2.1
   cases b with
   |false=>exact again I9 q9
   |true=>
    refine cY (he _ _ _ _ _ _ s9 VE H9 _ I9 q9) fun u2 J1 ⟨y,DV,I10,r10,hys,hz,q10⟩=>?_
    refine cY (dF _ J1 VE DV (.ref s2.heap.objs.size) [y] (.ref s2.heap.objs.size) [u2] (fun _ H'=>N (ys++[y]) VE H') I10 rfl (.cons r10 .nil) ⟨_,ys,y,rfl,rfl,hys,hz,q10⟩) fun _ Ez ⟨_,Hx,I11,_,q11⟩=>?_
    exact again I11 q11
 exact codeAny_compStart_list loop (T.self _ 0 _ _ _ Zp loop)
theorem gi(hc:X.calm=true)(S:bK X.N X.env.scope scope ls js cs)(hi:PI X tg iter wi)
  (hg:∀dB fC C fp pn,PG (gR X scope (ls++cs) dB fC C fp pn) tg g) (ht:∀dB fC C fp pn,SY (gR X scope (ls++cs) dB fC C fp pn) ifs tt) (he:∀dB fC C fp pn,PE (gR X scope (ls++cs) dB fC C fp pn) elt te)
  (hs:∀x,foldedSetIterable iter X.env x=pure x:=by intro _;rfl):PE X (.ListComp elt [⟨tg,iter,ifs,0⟩] scope pos) (J0 wi ls js g tt te):=by
 intro pins s σ H Q I h;rw[eval_ListComp];refine y6 (use:=none) hc S hi hg ht he I h (fun D C H' s' m I' q hm fc=>⟨m,hm,fun h' S7=>?_⟩) hs;obtain⟨q1,q2,q3,q4,q5,q6⟩:=fc;exact⟨.ref D,H',I'.turned (t':=s'.toks) (fun b o hb e=>S7.extBut b o hb e) q1 (Ne.symm (Ne.symm q2)) q4 q5 q6,rfl,q⟩
theorem vi{x:Str}{i:Nat}{pos' S9:Pos}(hc:X.calm=true)(hN:X.N.Nodup)(Mi:X.N[i]?=some x)(hx:X.env.scope.names.lookup x=some .local)(S:bK X.N X.env.scope scope ls js cs)(hi:PI X tg iter wi)
  (hg:∀dB fC C fp pn,PG (gR X scope (ls++cs) dB fC C fp pn) tg g) (ht:∀dB fC C fp pn,SY (gR X scope (ls++cs) dB fC C fp pn) ifs tt) (he:∀dB fC C fp pn,PE (gR X scope (ls++cs) dB fC C fp pn) elt te)
  (hsw:swapsWith (.ListComp elt [⟨tg,iter,ifs,0⟩] scope pos) (some (.Name x pos')) S9.line X.env=pure true:=by rfl)
  (hs:∀x,foldedSetIterable iter X.env x=pure x:=by intro _;rfl):PS X (.Assign [.Name x pos'] (.ListComp elt [⟨tg,iter,ifs,0⟩] scope pos) S9) (OY (J0 wi ls js g tt te) (F9 i)):=by
 intro pins s σ H D I h;rw[exec_Assign_Name_used _ _ _ _ hsw];refine wpAny_bind (wpAny_standAt (Θ ?_));show wpAny _ X.A (do let _←comprehension (.ListComp elt [⟨tg,iter,ifs,0⟩] scope pos) scope X.env (firstIterPos [⟨tg,iter,ifs,0⟩] pos) (newList []) false (eval iter X.env) (some (assign (.Name x pos') X.env))) _ _ s;refine wpAny_bind (wpAny_mono (y6 (use:=some (assign (.Name x pos') X.env)) (QQ:=fun _ s'=>SP X pins D .next s') hc S hi hg ht he I h (fun Dl C H' s' m I' q hm fc=>?_) hs) (fun _ s' hq=>Δ (Δ hq)) fun _ _ e=>e);show wpAny _ X.A (assign (.Name x pos') X.env (.ref Dl)) _ _ _;obtain⟨q1,q2,q3,q4,q5,q6⟩:=fc;refine wpAny_assign_Name (yQ (v:= .ref Dl) I' hN Mi (.inl hx) rfl (fun s2 I2 ⟨a,S7,ha⟩=>?_) (.inr hx));have gO:C≠a:=by
  rcases ha with rfl|ha
  ·exact q2
  ·exact fun z=>q5 x a ha z.symm
 refine⟨m,hm.sameBut S7 gO,fun h' Xi=>?_⟩;exact⟨_,H',I2.turned (t':=s2.toks) (fun b o hb e=>Xi.extBut b o hb e) q1 q2 q4 q5 q6,q⟩
end
def Pz(z:Str):It:=⟨fun i _=>i<z.length,fun i H x H'=>H'=H∧∃c,z.cps.toList[i]?=some c∧x= .str ⟨#[c]⟩,fun i _=>z.length≤i⟩
theorem J2{P:Program}{w:World}{K:Frag}{tg:Expr}{it:Addr}{z:Str}{ty:String}{t:Tok}(Jd:ty="str_ascii_iterator"∨ty="str_iterator"):Turn P w K tg (Pz z) [it] it (fun i h=>h.IsStrIter it ty z t i) where
 mem:=Xx
 obj:=fun i h st b hb=>by
  have e:b=it:=by simpa using hb
  subst e;obtain⟨o,e,c,d⟩:=st;exact⟨o,e,fun v z=>by rw[d]at z;cases z⟩
 keep:=fun i h h' st k=>let ⟨o,ho,r⟩:=st;⟨o,k it (Xx) o ho,r⟩
 item:=by
  intro X hP hw hK hc i pins s σ H E I hf st hg;subst hP hw hK;obtain⟨f0,f1,f2,f3,f4,f5⟩:=hf it (Xx);have hg:i<z.cps.size:=hg;have key:∀h',h'.IsStrIter it ty z t (i+1)→Heap.SameBut it s.heap h'→∃u,some (Value.str ⟨#[z.cps[i]]⟩ s.toks)=some u∧
    wpAny (model X.prog X.w) X.A (letOwnedTupleGo tg (.ref it) u) (fun _ s2=>∃x H',Inv X pins σ H' s2∧RelV x u∧(Pz z).Lo i H x H'∧s2.heap.IsStrIter it ty z t (i+1)∧∀b∈[it],H' b=none) E {s with heap:=h',toks:=s.toks+1}:=fun h' jh sb=>by
   have I1:Inv X pins σ H {s with heap:=h',toks:=s.toks+1}:=I.turned (fun b o hb e=>(sb.2 b hb).trans e) f0 f1 f3 f4 f5;obtain⟨o,e,c,d⟩:=id jh;refine⟨_,rfl,Cr (s:={s with heap:=h',toks:=s.toks+1}) e c d (by rcases Jd with rfl|rfl<;>decide) ⟨.str ⟨#[z.cps[i]]⟩,H,I1,⟨_,rfl⟩,⟨rfl,z.cps[i],by simp[hg],rfl⟩,jh,fun b hb=>(hf b hb).1⟩⟩
  rcases Jd with rfl|rfl
  ·exact wpAny_pyNext_ascii_item st (c:=z.cps[i]) (by simp[hg]) key
  ·exact wpAny_pyNext_wide_item st (c:=z.cps[i]) (by simp[hg]) key
 done:=by
  intro X hP hw hK hc i pins s σ H E I hf st hg;subst hP hw hK;obtain⟨f0,f1,f2,f3,f4,f5⟩:=hf it (Xx);have hg:z.cps.size≤i:=hg;rcases Jd with rfl|rfl
  ·exact wpAny_pyNext_ascii_end (I.ok.hd hc) st (by simp[hg]) fun h' eb=>⟨rfl,I.turned (t':=s.toks) (fun b o hb e=>eb b o hb e) f0 f1 f3 f4 f5⟩
  ·exact wpAny_pyNext_wide_end (I.ok.hd hc) st (by simp[hg]) fun h' eb=>⟨rfl,I.turned (t':=s.toks) (fun b o hb e=>eb b o hb e) f0 f1 f3 f4 f5⟩
 self:=fun _ _ _ _ _ st h=>by
  rcases Jd with rfl|rfl
  ·exact wpAny_pyIter_striter_ascii st h
  ·exact wpAny_pyIter_striter_wide st h
section
variable{X:Cx}{tg:Expr}
def Xj(tl:TE):TI:=fun σ H R=>tl σ H fun x H1=>∃z,x= .str z∧R (Pz z) H1
theorem J3{l:Expr}{tl:TE}(hl:PE X l tl):PI X tg l (Xj tl):=by
 intro pins s σ H R I h;refine cY (hl pins s σ H _ I h) fun v s1 ⟨x,H1,I1,r1,q1⟩=>?_
 obtain⟨z,e,q⟩:=q1;subst e;obtain⟨t,rfl⟩:=r1;refine wpAny_pyIter_strU ?_;refine⟨s1.heap.objs.size,[s1.heap.objs.size],_,_,H1,rfl,I1.kept (t':=s1.toks) fun b o e=>Ο e,J2 (ty:=strIterType z) (t:=t) (by unfold strIterType;split<;>simp),⟨_,Heap.get?_push_size _ rfl,rfl,rfl⟩,fun b hb=>?_,q⟩;have e:b=s1.heap.objs.size:=by simpa using hb
 subst e;exact I1.xN Ξ (I1.cC.fresh Ξ)
end
theorem Mj{z:Str}{g:TG}{tb:TS}{D:Ends}{σ:St}{H:Hp}(Pv:Nat→St→Hp→Prop)(h0:Pv 0 σ H)
  (hs:∀i c σ H,z.cps.toList[i]?=some c→Pv i σ H→g (.str ⟨#[c]⟩) σ H fun gh H2=>tb {D with nx:=Pv (i+1),ct:=Pv (i+1),bk:=D.nx} gh H2) (hd:∀σ H,Pv z.length σ H→D.nx σ H):
  ∃W:Nat→Nat→St→Hp→Prop,(∃m,W 0 m σ H)∧∀i m σ H,W i m σ H→
   ((Pz z).stop i H∧D.nx σ H)∨((Pz z).go i H∧∃N:St→Hp→Prop,(∀bG H',N bG H'→∃m',m'<m∧W (i+1) m' bG H')∧∀x H',(Pz z).Lo i H x H'→g x σ H' fun gh H2=>tb {D with nx:=N,ct:=N,bk:=D.nx} gh H2):=by
 refine⟨fun i m σ H=>m=z.length-i∧i≤z.length∧Pv i σ H,⟨z.length,Xx,Nat.zero_le _,h0⟩,?_⟩;rintro i m σ H ⟨rfl,hi,p⟩;by_cases jv:i<z.length
 ·refine .inr ⟨jv,Pv (i+1),fun bG H' p'=>⟨z.length-(i+1),by lia,rfl,jv,p'⟩,fun x H' y=>?_⟩;obtain⟨e,c,hc,ex⟩:=y;subst e ex;exact hs i c σ _ hc p
 ·have e:i=z.length:=by lia
  subst e;exact .inl ⟨Nat.le_refl _,hd σ H p⟩
theorem qf{J:It}{n:Nat}{ls:List Str}{js:List Nat}{g:TG}{tt:TT}{te:TE}{σ:St}{H1:Hp}{D:Addr}{Q:VK}(Pv:Nat→List V→St→Hp→Prop)
  (h0:Pv 0 [] (nh ls js σ) (upd H1 D (.lst []))) (hgo:∀i ys σ H,i<n→Pv i ys σ H→J.go i H) (xG:∀ys σ H,Pv n ys σ H→J.stop n H)
  (hs:∀i ys σ H x H2,i<n→Pv i ys σ H→J.Lo i H x H2→g x σ H2 fun gh H3=>tt gh H3 fun b H4=>if b=true then te gh H4 fun y H5=>H5 D=some (.lst ys)∧ys.length<sizeLine∧Pv (i+1) (ys++[y]) gh (upd H5 D (.lst (ys++[y])))else Pv (i+1) ys gh H4)
  (hd:∀ys σ H,Pv n ys σ H→Q (.ref D) H):
  vM J ls js g tt te σ H1 D Q:=by
 refine⟨fun i m ys σ H=>m=n-i∧i≤n∧Pv i ys σ H,⟨n,Xx,Nat.zero_le _,h0⟩,?_⟩;rintro i m ys σ H ⟨rfl,hi,p⟩;by_cases jv:i<n
 ·exact .inr ⟨hgo i ys σ H jv p,Pv (i+1),fun Cc gh H2 p'=>⟨n-(i+1),by lia,rfl,jv,p'⟩,fun x H2 y=>hs i ys σ H x H2 jv p y⟩
 ·have e:i=n:=by lia
  subst e;exact .inl ⟨xG ys σ H p,hd ys σ H p⟩
theorem d8{K:Frag}{a:Addr}{xs:List V}{ls:List Str}{js:List Nat}{g:TG}{tt:TT}{te:TE}{σ:St}{H1:Hp}{D:Addr}{Q:VK}(Pv:Nat→List V→St→Hp→Prop)
  (h0:Pv 0 [] (nh ls js σ) (upd H1 D (.lst []))) (hl:∀i ys σ H,i≤xs.length→Pv i ys σ H→jT K H a xs)
  (hs:∀i x ys σ H,xs[i]?=some x→Pv i ys σ H→g x σ H fun gh H3=>tt gh H3 fun b H4=>if b=true then te gh H4 fun y H5=>H5 D=some (.lst ys)∧ys.length<sizeLine∧Pv (i+1) (ys++[y]) gh (upd H5 D (.lst (ys++[y])))else Pv (i+1) ys gh H4)
  (hd:∀ys σ H,Pv xs.length ys σ H→Q (.ref D) H):
  vM (Q5 K a) ls js g tt te σ H1 D Q:=
 qf (n:=xs.length) Pv h0 (fun i ys σ H hi p=>⟨xs,xs[i],hl i ys σ H (Nat.le_of_lt hi) p,by simp[hi]⟩) (fun ys σ H p=>⟨xs,hl _ ys σ H Ξ p,Nat.le_refl _⟩)
  (fun i ys σ H x H2 hi p y=>by
   obtain⟨e,y⟩:=y;subst e;exact hs i x ys σ _ (y xs (hl i ys σ _ (Nat.le_of_lt hi) p)) p) hd
theorem EA{lo:Int}{n:Nat}{ls:List Str}{js:List Nat}{g:TG}{tt:TT}{te:TE}{σ:St}{H1:Hp}{D:Addr}{Q:VK}(Pv:Nat→List V→St→Hp→Prop)
  (h0:Pv 0 [] (nh ls js σ) (upd H1 D (.lst [])))
  (hs:∀i ys σ H,i<n→Pv i ys σ H→g (.int (lo+i)) σ H fun gh H3=>tt gh H3 fun b H4=>if b=true then te gh H4 fun y H5=>H5 D=some (.lst ys)∧ys.length<sizeLine∧Pv (i+1) (ys++[y]) gh (upd H5 D (.lst (ys++[y])))else Pv (i+1) ys gh H4)
  (hd:∀ys σ H,Pv n ys σ H→Q (.ref D) H):
  vM (O0 lo n) ls js g tt te σ H1 D Q:=
 qf (n:=n) Pv h0 (fun i ys σ H hi p=>hi) (fun ys σ H p=>Nat.le_refl _)
  (fun i ys σ H x H2 hi p y=>by
   obtain⟨e,y⟩:=y;subst e y;exact hs i ys σ _ hi p) hd
theorem J4{z:Str}{ls:List Str}{js:List Nat}{g:TG}{tt:TT}{te:TE}{σ:St}{H1:Hp}{D:Addr}{Q:VK}(Pv:Nat→List V→St→Hp→Prop)
  (h0:Pv 0 [] (nh ls js σ) (upd H1 D (.lst [])))
  (hs:∀i c ys σ H,z.cps.toList[i]?=some c→Pv i ys σ H→g (.str ⟨#[c]⟩) σ H fun gh H3=>tt gh H3 fun b H4=>if b=true then te gh H4 fun y H5=>H5 D=some (.lst ys)∧ys.length<sizeLine∧Pv (i+1) (ys++[y]) gh (upd H5 D (.lst (ys++[y])))else Pv (i+1) ys gh H4)
  (hd:∀ys σ H,Pv z.length ys σ H→Q (.ref D) H):
  vM (Pz z) ls js g tt te σ H1 D Q:=
 qf (n:=z.length) Pv h0 (fun i ys σ H hi p=>hi) (fun ys σ H p=>Nat.le_refl _)
  (fun i ys σ H x H2 hi p y=>by
   obtain⟨e,c,hc,ex⟩:=y;subst e ex;exact hs i c ys σ _ hc p) hd
theorem y8(z:Str)(lo hi:Option Int):(Txt.slice z lo hi).cps.toList=(z.cps.toList.drop (HT.lO z.length 0 lo)).take (HT.lO z.length z.length hi-HT.lO z.length 0 lo):=by
 have aaX:=HT.JM z.length 0 (Nat.zero_le _) lo;have aaS:=HT.JM z.length z.length Ξ hi;have ix:Builtin.Str.strSliceIndices lo hi 1 z.length=(List.range (HT.lO z.length z.length hi-HT.lO z.length 0 lo)).map (HT.lO z.length 0 lo+·):=by
  rw[←sliceRange_one];have pos:(1:Int)>0:=QY;cases lo with
  |none=>
   cases hi with
   |none=>rfl
   |some j=>
    simp only[Builtin.Str.strSliceIndices,HT.lO,pos,if_true]
    congr 1
    by_cases h:j<0
    ·simp only[h,if_true];lia
    ·simp only[h,if_false];lia
  |some i=>
   have e1:max 0 (min (if i<0 then i+(z.length:Int)else i) (z.length:Int))=((HT.lO z.length 0 (some i):Nat):Int):=by
    simp only[HT.lO];by_cases h:i<0
    ·simp only[h,if_true];lia
    ·simp only[h,if_false];lia
   cases hi with
   |none=>
    simp only[Builtin.Str.strSliceIndices,pos,if_true];rw[e1];rfl
   |some j=>
    have e2:max 0 (min (if j<0 then j+(z.length:Int)else j) (z.length:Int))=((HT.lO z.length z.length (some j):Nat):Int):=by
     simp only[HT.lO];by_cases h:j<0
     ·simp only[h,if_true];lia
     ·simp only[h,if_false];lia
    simp only[Builtin.Str.strSliceIndices,pos,if_true];rw[e1,e2]
 have hp:=pick_run z.cps (HT.lO z.length 0 lo) (HT.lO z.length z.length hi-HT.lO z.length 0 lo);unfold Txt.slice;rw[ix];split
 ·rename_i h
  simp only[List.length_map,List.length_range,beq_self_eq_true,Bool.true_and,beq_iff_eq]at h;have h0:HT.lO z.length 0 lo=0:=by lia
  have h1:HT.lO z.length z.length hi=z.length:=by lia
  rw[h0,h1,List.drop_zero,Nat.sub_zero,List.take_of_length_le (by simp[Str.length])]
 ·rw[←hp]
theorem si(z:Str)(lo hi:Option Int):(Txt.slice z lo hi).length≤z.length:=Txt.slice_le z lo hi
section
variable{X:Cx}
def Xk:V→Option Int→Option Int→Hp→VK→Prop:=fun x lo hi H Q=>∃z,x= .str z∧z.length≤sizeLine∧Q (.str (Txt.slice z lo hi)) H
theorem vN:Vw X Xk:=by
 intro pins s σ H x v vl vu lo hi sl Q I rx hs pl pu h;obtain⟨z,rfl,hz,q⟩:=h;obtain⟨t,rfl⟩:=rx;refine⟨"str",_,F.slot_str_getitem.lookup,typeIs_str _ _ _,?_⟩;have go:∀l u:Option (Int×Tok),vl=partValue l→vu=partValue u→l.map (·.1)=lo→u.map (·.1)=hi→wpAny (model X.prog X.w) X.A (getItem (.str z t) (.ref sl)) (EP X pins σ Q) X.xe s:=by
  rintro l u rfl rfl rfl rfl;obtain⟨o,h1,h2,h3⟩:=hs;refine wpAny_getItem_str_slice (l:=l) (u:=u) (st:=none) ⟨o,h1,h2,h3⟩ rfl ?_;exact post_val_or_str ⟨Nat.le_trans (Txt.slice_le z _ _) hz,fun t' k=>⟨.str (Txt.slice z (l.map (·.1)) (u.map (·.1))),H,I.tok _,⟨_,rfl⟩,q⟩⟩
 cases pl with
 |none=>
  cases pu with
  |none=>exact go none none rfl rfl rfl rfl
  |int j tj=>exact go none (some (j,tj)) rfl rfl rfl rfl
 |int i ti=>
  cases pu with
  |none=>exact go (some (i,ti)) none rfl rfl rfl rfl
  |int j tj=>exact go (some (i,ti)) (some (j,tj)) rfl rfl rfl rfl
theorem y9:rX X (compareOp .LtE) (fun x y H Q=>∃i j,x= .str i∧y= .str j∧Q (.bl (!decide (j.cps.toList<i.cps.toList))) H):=by
 intro pins s σ H x y v u Q I rx ry h;obtain⟨i,j,rfl,rfl,q⟩:=h;obtain⟨t,rfl⟩:=rx;obtain⟨t',rfl⟩:=ry;exact P.le_str (cq I q rfl)
theorem Ml{bs:List Bool}{us:List Value}(r:Vals (bs.map V.bl) us)(i:Nat)(v:Value)(h:us[i]?=some v):v= .bool (bs.getD i false):=by
 induction bs generalizing us i with
 |nil=>cases r;simp at h
 |cons b r' ih=>
  cases r with
  |cons r0 rr=>
   cases i with
   |zero=>
    have h0:some _=some v:=h;cases h0;exact r0
   |succ i=>simpa using ih rr i (by simpa using h)
theorem all_range(bs:List Bool):(List.range bs.length).all (fun i=>bs.getD i false)=bs.all id:=by
 rw[Bool.eq_iff_iff,List.all_eq_true,List.all_eq_true];constructor
 ·intro h b hb;obtain⟨i,hi,rfl⟩:=List.mem_iff_getElem.mp hb;have:=h i (by simpa using hi);simpa[hi]using this
 ·intro h i hi;have hi:i<bs.length:=by simpa using hi
  simpa[hi]using h bs[i] (List.getElem_mem hi)
def S_(K:Frag)(f:List Bool→Bool):List V→Hp→VK→Prop:=fun xs H Q=>∃a bs,xs=[.ref a]∧jT K H a (bs.map V.bl)∧Q (.bl (f bs)) H
theorem J5(hc:X.calm=true):jB X (.builtin "all") (S_ X.K fun bs=>bs.all id):=by
 intro pins s σ H xs us Q I r h;obtain⟨a,bs,rfl,hq,q⟩:=h;cases r with
 |cons r rr=>
  cases rr;cases r;obtain⟨its,rv,p,hz⟩:=I.list hq;have hl:=rv.length;rw[List.length_map]at hl;refine call_all_walk (wpAny_pyIter_list p.isList ?_);have gO:a≠s.heap.objs.size:=by
   obtain⟨o,n,e,_⟩:=p;exact Nat.ne_of_lt (Λ e)
  refine⟨s.heap.objs.size,_,_,_,_,_,fun i=>bs.getD i false,rfl,Walks.list (A:=X.A.in1) (show X.A.in1.handled=none from I.ok.hd hc) _ a gO its.toArray,⟨⟨_,Heap.get?_push_size _ rfl,rfl,rfl⟩,p.isList.at fun o e=>Ο e⟩,fun i v s1 Q1 E1 hv q1=>?_,fun h' tk hk=>?_⟩
  ·have hv:=Ml rv i v (by simpa using hv);subst hv;exact wpAny_truthy_bool q1
  ·rw[List.size_toArray,←hl,all_range];refine⟨.bl (bs.all id),H,I.kept fun b o e=>hk b o (fun z=>?_) (Ο e),rfl,q⟩;have z:b=s.heap.objs.size:=by simpa using z
   exact absurd (z▸Λ e) (Nat.lt_irrefl _)
def J6:V→Option Value
 | .ty n=>some (.type n)
 | .ref C=>some (.ref C)
 | _=>none
theorem y_{c:V}{cv u:Value}(h:J6 c=some cv)(r:RelV c u):u=cv:=by
 cases c<;>first
  |(cases h;done)
  |(cases h;exact r)
inductive PB(K:Frag)(xs:List V)(H:Hp)(Q:VK):Prop
 |mk (x:_) (c:_) (t:_) (b:_) (cv:_) (_:xs=[x,c]) (_:J6 c=some cv) (_:r_ K H x t) (_:kitOne K t cv=some b) (_:Q (.bl b) H):PB K xs H Q
theorem J7:jB X (.builtin "isinstance") (PB X.K):=by
 intro pins s σ H xs us Q I r h;obtain⟨x,c,t,b,cv,rfl,rc,ty,hk,q⟩:=h;cases r with
 |cons r1 rr=>
  cases rr with
  |cons r2 rr=>
   cases rr;cases y_ rc r2;exact Hk I r1 ty hk fun tk=>⟨.bl b,H,I.tok _,rfl,q⟩
inductive J8(K:Frag)(xs:List V)(H:Hp)(Q:VK):Prop
 |mk (x:_) (C:_) (c:_) (b:_) (cv:_) (_:xs=[.ref x,c]) (_:H x=some (.exc x C)) (_:sg K C) (_:J6 c=some cv) (_:kitOne K (.ref C) cv=some b) (_:Q (.bl b) H):J8 K xs H Q
theorem Hy:jB X (.builtin "isinstance") (J8 X.K):=by
 intro pins s σ H xs us Q I r h;obtain⟨x,C,c,b,cv,rfl,hx,e,rc,hk,q⟩:=h;cases r with
 |cons r1 rr=>
  cases rr with
  |cons r2 rr=>
   cases rr;cases r1;cases y_ rc r2;exact Ey I hx e hk fun tk=>⟨.bl b,H,I.tok _,rfl,q⟩
end
section
variable{P:Program}{w:World}{K:Frag}{mg:Str→Option Value}{base:Heap}
abbrev VF(P:Program)(w:World)(K:Frag)(mg:Str→Option Value)(base:Heap)(cm:Bool)(N:List Str)(qual:Str)(scope:Scope)(f:Addr)(cd:Value)(A:Around)(outer:List Env)(s:Shared)(H:Hp)(E:XK):Cx:=
 Eo (de P w) cm P w K mg base N qual scope f cd A outer s H E
theorem lu.gv{cm:Bool}{x qual:Str}{st:Stmt}{f:Addr}{fd:FuncData}{N ps:List Str}{k:Nat}{sp:Sp}(F:lu K x qual st f fd)(S:aP N ps (aw st))(len:∀vs H Q E,sp vs H Q E→vs.length=ps.length)
  (Cv:∀(iy:Value)(A:Around)(outer:List Env)(s:Shared)(H:Hp)(vs:List V)(Q:VK)(E:XK),dY cm k (A.deeper (envOfC qual (aw st) s.heap.objs.size f iy))→sp vs H Q E→
   VB (VF P w K mg base cm N qual (aw st) f iy A outer s H E) (fun _=>E)→
   ∃t,Ea (VF P w K mg base cm N qual (aw st) f iy A outer s H E) (d4 st) t∧t {nx:=fun _ H'=>Q .cF H',rt:=Q} (start N vs) H):bE P w K mg base (de P w) cm (k+1) f fd ps sp:=by
 obtain⟨oc,od,kV,doc,pm,an,iy,ct,Gg,rfl,lk,Hf⟩:=F.ex;exact NC lk Hf S len fun A outer s H vs Q E hr Lp=>Cv iy A outer s H vs Q E hr Lp Gp
end
theorem dY.loose{cm:Bool}{k:Nat}{A:Around}(r:dY cm k A):dY false k A:=⟨(fun z=>nomatch z),r.dp,r.un⟩
def cG(P:Program)(w:World)(K:Frag)(mg:Str→Option Value)(base:Heap)(cm:Bool)(k:Nat)(x:Str)(ps:List Str)(sp:Sp):Prop:=
 ∃f fd,bE P w K mg base (de P w) cm k f fd ps sp∧mg x=some (.ref f)∧keepIn K (.ref f)=true∧Binds K fd ps []
theorem J9{P:Program}{w:World}{K:Frag}{mg:Str→Option Value}{base:Heap}{cm:Bool}{k:Nat}{x y:Str}{ps:List Str}{sp:Sp}{st:Stmt}{f:Addr}{fd:FuncData}(F:lu K x y st f fd)(hm:mg x=some (.ref f))(b:Binds K fd ps [])
  (ok:bE P w K mg base (de P w) cm k f fd ps sp):cG P w K mg base cm k x ps sp:=⟨f,fd,ok,hm,F.kp,b⟩
section
variable{X:Cx}{cm:Bool}{k:Nat}{x:Str}{ps:List Str}{sp:Sp}{E:St→XK}{e:Expr}{es:List Expr}{t:TA}{p pos:Pos}
theorem aY(D:cG X.prog X.w X.K X.mg X.base cm k x ps sp)(hr:dY cm k X.A)(hx:Passes (de X.prog X.w) X E)(ha:PA X (e::es) t)(hg:Gl X x:=by rfl)(xO:(x==("__debug__":Str))=false:=by decide)
  (he:starEach (e::es) X.env=(false,eval e X.env)::starEach es X.env:=by rfl) (uk:(backTo pos (starEach es X.env)).any (·.1)=false:=by rfl):PE X (.Call (.Name x p) (e::es) [] pos) (NB sp [] E t):=by
 obtain⟨f,fd,ok,hm,hk,hb⟩:=D;exact LP ok hr hg hm hk hb .nil hx ha xO he uk
theorem cz{v:V}(h:∃u,X.mg x=some u∧RelV v u)(hg:Gl X x:=by rfl)(hd:(x==("__debug__":Str))=false:=by decide):PE X (.Name x pos) (tC v):=by
 obtain⟨u,h1,h2⟩:=h;exact d3 hg h1 h2 hd
end
theorem zS{σ:St}{H:Hp}{A B:Hp→Prop}(h:A H):Py σ H (fun b H4=>if b=true then A H4 else B H4):=by
 show if true=true then A H else B H
 exact jD h
theorem kR{i:Nat}{x:V}{σ:St}{H:Hp}{A B:St→Hp→Prop}(h:A (σ.set i (some x)) H):F9 i x σ H (fun gh H3=>Py gh H3 (fun b H4=>if b=true then A gh H4 else B gh H4)):=by
 show if true=true then A (σ.set i (some x)) H else B (σ.set i (some x)) H
 exact jD h
theorem ay{n:Nat}(h:n≤100000):n≤sizeLine:=Nat.le_trans h Ε
theorem bR{n:Nat}(h:n≤100000):n<sizeLine:=Nat.lt_of_le_of_lt h Ε
def Xl(t u:TS):TS:=fun D σ H=>∃Pm:St→Hp→Prop,t {D with nx:=Pm} σ H∧∀bG H',Pm bG H'→u D bG H'
theorem az{X:Cx}{st:Stmt}{rest:List Stmt}{t u:TS}(h1:PS X st t)(h2:Ea X rest u):Ea X (st::rest) (Xl t u):=by
 intro pins s σ H D I h;obtain⟨Pm,ht,hu⟩:=h;refine wpAny_execs_cons (cY (h1 pins s σ H {D with nx:=Pm} I ht) fun f s1 q=>?_);cases f with
 |next=>obtain⟨bG,H',I',p⟩:=q;exact h2 pins s1 bG H' D I' (hu bG H' p)
 |brk=>exact q
 |cont=>exact q
 |ret v=>exact q
theorem av.upd{H:Hp}{a:Addr}{o:HO}(h:H a=none):av H (upd H a o):=fun b u e=>by rw[aj (aG e h)];exact e
theorem av.eP{H H':Hp}{a:Addr}{o:HO}(s:av H H')(h:H a=none):av H (L2.upd H' a o):=fun b u e=>by rw[aj (aG e h)];exact s b u e
end L2
namespace QF
open PySem L2
theorem rY{n:Nat}{P:List Value→Prop}(h:∀a us,us.length=n→P (a::us)):∀us:List Value,us.length=n+1→P us:=fun us e=>by
 cases us with
 |nil=>cases e
 |cons a r=>exact h a r (Nat.succ.inj e)
theorem PD{P:List Value→Prop}(h:P []):∀us:List Value,us.length=0→P us:=fun us e=>by
 cases us with
 |nil=>exact h
 |cons a r=>cases e
theorem on1{P:List Value→Prop}(h:∀a,P [a]):∀us:List Value,us.length=1→P us:=rY fun a=>PD (h a)
theorem on2{P:List Value→Prop}(h:∀a b,P [a,b]):∀us:List Value,us.length=2→P us:=rY fun a=>rY fun b=>PD (h a b)
theorem on3{P:List Value→Prop}(h:∀a b c,P [a,b,c]):∀us:List Value,us.length=3→P us:=rY fun a=>rY fun b=>rY fun c=>PD (h a b c)
theorem on4{P:List Value→Prop}(h:∀a b c d,P [a,b,c,d]):∀us:List Value,us.length=4→P us:=rY fun a=>rY fun b=>rY fun c=>rY fun d=>PD (h a b c d)
theorem on5{P:List Value→Prop}(h:∀a b c d e,P [a,b,c,d,e]):∀us:List Value,us.length=5→P us:=rY fun a=>rY fun b=>rY fun c=>rY fun d=>rY fun e=>PD (h a b c d e)
theorem on6{P:List Value→Prop}(h:∀a b c d e f,P [a,b,c,d,e,f]):∀us:List Value,us.length=6→P us:=rY fun a=>rY fun b=>rY fun c=>rY fun d=>rY fun e=>rY fun f=>PD (h a b c d e f)
theorem on7{P:List Value→Prop}(h:∀a b c d e f g,P [a,b,c,d,e,f,g]):∀us:List Value,us.length=7→P us:=rY fun a=>rY fun b=>rY fun c=>rY fun d=>rY fun e=>rY fun f=>rY fun g=>PD (h a b c d e f g)
theorem aaT(us:List Value)(e:us.length=7):∃a b c d e f g,us=[a,b,c,d,e,f,g]:=on7 (P:=fun us=>∃a b c d e f g,us=[a,b,c,d,e,f,g]) (fun a b c d e f g=>⟨a,b,c,d,e,f,g,rfl⟩) us e
end QF
namespace L2
open PySem PySem.Spec PyProof.Rows PySem.W PySem.Calls
def notStar:Expr→Bool
 | .Starred _ _=>false
 | _=>true
theorem vO{e:Expr}{es:List Expr}{env:Env}(h:notStar e=true):starEach (e::es) env=(false,eval e env)::starEach es env:=by
 cases e<;>first|rfl|cases h
theorem aq{X:Cx}{e:Expr}{es:List Expr}{te:TE}{t:TA}(ha:PE X e te)(hr:PA X es t)(hn:notStar e=true:=by rfl):PA X (e::es) (NA te t):=LO ha hr (vO hn)
structure fT(K:Frag)(x qual:Str)(st:Stmt)(f:Addr)(fd:FuncData):Prop where
 ex:∃(oc:Value)(od:Option Addr)(dV kV doc pm:Value)(an:Option Addr)(iy ct:Value)(Gg:Array (Option Value)),
  fd=fnOf x qual (fo st) (d4 st) (aw st) dV kV doc pm an iy ct∧K.lookup f=some ⟨oc,od, .func fd,Gg⟩∧codeIn K iy qual=true
 kp:keepIn K (.ref f)=true
theorem zT{K:Frag}{x qual:Str}{st:Stmt}{f:Addr}{oc:Value}{od an:Option Addr}{Gg:Array (Option Value)}{dV kV doc pm iy ct:Value}(l:K.lookup f=some ⟨oc,od, .func (fnOf x qual (fo st) (d4 st) (aw st) dV kV doc pm an iy ct),Gg⟩)
  (c:codeIn K iy qual=true) (k:keepIn K (.ref f)=true):fT K x qual st f (fnOf x qual (fo st) (d4 st) (aw st) dV kV doc pm an iy ct):=⟨⟨oc,od,dV,kV,doc,pm,an,iy,ct,Gg,rfl,l,c⟩,k⟩
section
variable{P:Program}{w:World}{K:Frag}{mg:Str→Option Value}{base:Heap}
theorem fT.gv{cm:Bool}{x qual:Str}{st:Stmt}{f:Addr}{fd:FuncData}{N ps:List Str}{k:Nat}{sp:Sp}(F:fT K x qual st f fd)(S:aP N ps (aw st))(len:∀vs H Q E,sp vs H Q E→vs.length=ps.length)
  (Cv:∀(iy:Value)(A:Around)(outer:List Env)(s:Shared)(H:Hp)(vs:List V)(Q:VK)(E:XK),dY cm k (A.deeper (envOfC qual (aw st) s.heap.objs.size f iy))→sp vs H Q E→
   VB (VF P w K mg base cm N qual (aw st) f iy A outer s H E) (fun _=>E)→
   ∃t,Ea (VF P w K mg base cm N qual (aw st) f iy A outer s H E) (d4 st) t∧t {nx:=fun _ H'=>Q .cF H',rt:=Q} (start N vs) H):bE P w K mg base (de P w) cm (k+1) f fd ps sp:=by
 obtain⟨oc,od,dV,kV,doc,pm,an,iy,ct,Gg,rfl,lk,Hf⟩:=F.ex;exact NC lk Hf S len fun A outer s H vs Q E hr Lp=>Cv iy A outer s H vs Q E hr Lp Gp
end
def c6(P:Program)(w:World)(K:Frag)(mg:Str→Option Value)(base:Heap)(cm:Bool)(k:Nat)(C:Addr)(m:Str)(ps:List Str)(sp:Sp):Prop:=
 ∃f fd,bE P w K mg base (de P w) cm k f fd ps sp∧Meth K C m f∧Binds K fd ps []∧xH K C
def j5(P:Program)(w:World)(K:Frag)(mg:Str→Option Value)(base:Heap)(cm:Bool)(k:Nat)(x:Str)(C:Addr)(ps:List Str)(nW:List V)(sp:Sp):Prop:=
 ∃f fd ds,bE P w K mg base (de P w) cm k f fd ps sp∧Mk K C f∧mg x=some (.ref C)∧Binds K fd ps ds∧Vals nW ds
theorem vP{P:Program}{w:World}{K:Frag}{mg:Str→Option Value}{base:Heap}{cm:Bool}{k:Nat}{x:Str}{C f:Addr}{fd:FuncData}{ps:List Str}{nW:List V}{ds:List Value}{sp:Sp}(h1:bE P w K mg base (de P w) cm k f fd ps sp)(h2:Mk K C f)(h3:mg x=some (.ref C))(h4:Binds K fd ps ds)(h5:Vals nW ds):j5 P w K mg base cm k x C ps nW sp:=⟨f,fd,ds,h1,h2,h3,h4,h5⟩
theorem Hz{P:Program}{w:World}{K:Frag}{mg:Str→Option Value}{base:Heap}{cm:Bool}{k:Nat}{m:Str}{C f:Addr}{fd:FuncData}{ps:List Str}{sp:Sp}(h1:bE P w K mg base (de P w) cm k f fd ps sp)(h2:Meth K C m f)(h3:Binds K fd ps [])(h4:xH K C):c6 P w K mg base cm k C m ps sp:=⟨f,fd,h1,h2,h3,h4⟩
section
variable{X:Cx}{cm:Bool}{k:Nat}{x m:Str}{ps:List Str}{sp:Sp}{E:St→XK}{e o:Expr}{es:List Expr}{t:TA}{to:TE}{p pos apos:Pos}{C:Addr}{nW:List V}
theorem lQ(D:j5 X.prog X.w X.K X.mg X.base cm k x C ps nW sp)(hr:dY cm (k+1) X.A)(hx:Passes (de X.prog X.w) X E)(ha:PA X (e::es) t)(hg:Gl X x:=by rfl)(xO:(x==("__debug__":Str))=false:=by decide)
  (he:starEach (e::es) X.env=(false,eval e X.env)::starEach es X.env:=by rfl) (uk:(backTo pos (starEach es X.env)).any (·.1)=false:=by rfl):PE X (.Call (.Name x p) (e::es) [] pos) (Gf C sp nW E t):=by
 obtain⟨f,fd,ds,ok,M,hm,hb,hd⟩:=D;exact LR M ok hr hg hm hb hd hx ha xO he uk
theorem cb{pl:Sem Bool}(ho:PE X o to)(D:c6 X.prog X.w X.K X.mg X.base cm k C m ps sp)(hr:dY cm k X.A)(hx:Passes (de X.prog X.w) X E)(ha:PA X (e::es) t)
  (xG:starEach (e::es) X.env=(false,eval e X.env)::starEach es X.env:=by rfl) (uk:(backTo pos (starEach es X.env)).any (·.1)=false:=by rfl)
  (ht:eval (.Call (.Attribute o m apos) (e::es) [] pos) X.env=(do
   let ov←eval o X.env
   standAt apos.atName
   let (f,first)←holding [ov] (getMethod ov m pl)
   callWith pos f first (backTo pos (starEach (e::es) X.env)) (backToKw pos (keywordEach [] X.env))):=by rfl):PE X (.Call (.Attribute o m apos) (e::es) [] pos) (Ge C m sp [] E to t):=by
 obtain⟨f,fd,ok,hm,hb,c⟩:=D;exact LQ ho c hm ok hr hb .nil hx ha xG uk ht
theorem e_{pl:Sem Bool}(ho:PE X o to)(D:c6 X.prog X.w X.K X.mg X.base cm k C m ps sp)(hr:dY cm k X.A)(hx:Passes (de X.prog X.w) X E)
  (ht:eval (.Call (.Attribute o m apos) [] [] pos) X.env=(do
   let ov←eval o X.env
   standAt apos.atName
   let (f,first)←holding [ov] (getMethod ov m pl)
   callWith pos f first (backTo pos (starEach [] X.env)) (backToKw pos (keywordEach [] X.env))):=by rfl):PE X (.Call (.Attribute o m apos) [] [] pos) (Ge C m sp [] E to JD):=by
 obtain⟨f,fd,ok,hm,hb,c⟩:=D;exact JF ho c hm ok hr hb .nil hx ht
end
section
variable{X:Cx}
theorem cx(K:Frag){tg l:Expr}{tl:TE}(hl:PE X l tl)(h:X.K=K:=by rfl):PI X tg l (Nx K tl):=h▸LI hl
theorem aF(K:Frag){e:Expr}{f:Str}{pos:Pos}{ta:TE}(he:PE X e ta)(hb:attributeBase e f X.env (eval e X.env)=eval e X.env:=by rfl)(h:X.K=K:=by rfl):PE X (.Attribute e f pos) (Sl K ta f):=h▸O4 he hb
theorem bD(K:Frag){o value:Expr}{f:Str}{pos pos':Pos}{ta tv:TE}(ha:PE X o ta)(hv:PE X value tv)(hs:swapsWith value (some (.Attribute o f pos')) pos.line X.env=pure false:=by rfl)(h:X.K=K:=by rfl):PS X (.Assign [.Attribute o f pos'] value pos) (Sn K ta tv f):=h▸O5 ha hv hs
theorem aH(K:Frag)(h:X.K=K:=by rfl):Q8 X (Pc K):=h▸L5
theorem fq(K:Frag)(h:X.K=K:=by rfl):Q8 X (Pd K):=h▸Pe
theorem J_(K:Frag)(h:X.K=K:=by rfl):Vw X (Pg K):=h▸L_
theorem vQ(K:Frag)(h:X.K=K:=by rfl):rX X (compareOp .In) (Ze K false):=h▸Hs
inductive NM(K:Frag)(xs:List V)(H:Hp)(Q:VK):Prop
 |mk (p:_) (ys:_) (_:xs=[.ref p]) (_:(jT K H p ys∨Jc K H p ys)) (_:Q (.int ys.length) H):NM K xs H Q
theorem aV(K:Frag)(h:X.K=K:=by rfl):jB X (.builtin "len") (NM K):=by
 subst h;intro pins s σ H xs us Q I r hq;obtain⟨p,ys,e,d,q⟩:=hq;exact zL pins s σ H xs us Q I r ⟨p,ys,e,d,q⟩
inductive Gq(K:Frag)(xs:List V)(H:Hp)(Q:VK):Prop
 |mk (p:_) (ys:_) (_:xs=[.ref p]) (_:(jT K H p ys∨Jc K H p ys)) (_:∀l,H l=none→Q (.ref l) (upd H l (.lst ys))):Gq K xs H Q
theorem fb(K:Frag)(h:X.K=K:=by rfl):jB X (.type "list") (Gq K):=by
 subst h;intro pins s σ H xs us Q I r hq;obtain⟨p,ys,e,d,q⟩:=hq;exact zM pins s σ H xs us Q I r ⟨p,ys,e,d,q⟩
theorem sj(K:Frag)(hc:X.calm=true)(h:X.K=K:=by rfl):jB X (.builtin "all") (S_ K fun bs=>bs.all id):=h▸J5 hc
theorem lA(K:Frag)(h:X.K=K:=by rfl):jB X (.builtin "isinstance") (PB K):=h▸J7
theorem cw(K:Frag)(h:X.K=K:=by rfl):jB X (.builtin "isinstance") (J8 K):=h▸Hy
theorem lR(K:Frag){es:List Expr}{k:Nat}{t:Ln}{n:Nat}{pos:Pos}(hc:X.calm=true)(h:Q3 X es t)
  (hn:(assignEach es X.env).length=n:=by rfl) (xG:(assignEach es X.env).findIdx? (·.1)=none:=by rfl) (hK:X.K=K:=by rfl):PG X (.Tuple es k pos) (OW K n t):=hK▸OX hc h hn xG
theorem f'(K:Frag){T:String}{name:Str}{id:String}{r:V→List V→Hp→VK→Prop}{o e:Expr}{es:List Expr}{apos fg:Pos}{to:TE}{t:TA}(pa:PlainAttrs T)(slot:Slot T name id)(Jd:typeOf (.builtin id)=pure (.type "method_descriptor"))(hm:Vx X id r)(ho:PE X o to)(ha:PA X (e::es) t)
  (p9:attributeBase o name X.env (eval o X.env)=eval o X.env:=by rfl)
  (L':((backTo fg (starEach (e::es) X.env)).all (fun x=>!x.1)&&(backToKw fg (keywordEach [] X.env)).all (fun x=>x.1.isSome)
   &&decide ((e::es).length+([]:List Keyword).length+(if ([]:List Keyword).isEmpty then 0 else 1)<30))=true:=by rfl)
  (m9:(apos.endLine==fg.line)=true:=by rfl) (hs:starEach (e::es) X.env=(false,eval e X.env)::starEach es X.env:=by rfl) (Et:(backTo fg (starEach es X.env)).any (·.1)=false:=by rfl) (hK:X.K=K:=by rfl):
  PE X (.Call (.Attribute o name apos) (e::es) [] fg) (Zf K T r to t):=hK▸SD pa slot Jd hm ho ha p9 L' m9 hs Et
end
theorem vR{x:V}:∀{xs:List V}{us:List Value},Vals xs us→xs.all f_=true→us.countP (Hr x)=xs.countP fun y=>kO y x
 | _,_, .nil,_=>rfl
 |y::xs,u::us, .cons r t,f=>by
  rw[List.all_cons,Bool.and_eq_true]at f;rw[List.countP_cons,List.countP_cons,vR t f.2,zI r f.1]
theorem Gr{x:V}{xs:List V}{us:List Value}(r:Vals xs us)(f:xs.all f_=true)(j:Nat)(h1:j<xs.length)(h2:j<us.length):Hr x us[j]=kO xs[j] x:=by
 obtain⟨u,e,ru⟩:=r.get (i:=j) (x:=xs[j]) (by simp[h1]);have e':us[j]=u:=by
  rw[Ω h2]at e;exact Ρ e
 rw[e'];exact zI ru (List.all_eq_true.mp f _ (List.getElem_mem h1))
section
variable{X:Cx}
def PF:V→List V→Hp→VK→Prop:=fun x vs H Q=>∃l xs y,x= .ref l∧vs=[y]∧H l=some (.lst xs)∧f_ y=true∧xs.all f_=true∧Q (.int ((xs.countP fun z=>kO z y:Nat):Int)) H
theorem J':SE X "list.count" PF:=by
 intro pins s σ H x vs v us Q I rx rv h;obtain⟨l,xs,y,rfl,rfl,hH,fy,fx,q⟩:=h;cases rx;obtain⟨u,rfl,ru⟩:=rv.one;obtain⟨z,its,n,r,hl,e⟩:=I.zN hH;refine call_meets F.slot_list_count ⟨_,e,rfl⟩ F.entry_list_count (F.args_list_count_2 _ _) (SeqAt.list_countAt l its.toArray n _ _ u (Hr y)) ⟨e,fun w hw=>m8 ru fy r fx w (by simpa using hw),?_⟩;have ec:=vR (x:=y) r fx;refine⟨.int ((xs.countP fun z=>kO z y:Nat):Int),H,I.tok _,⟨s.toks,?_⟩,q⟩;rw[←ec]
def PK:V→List V→Hp→VK→Prop:=fun x vs H Q=>∃l xs y j,x= .ref l∧vs=[y]∧H l=some (.lst xs)∧f_ y=true∧xs.all f_=true∧(∃hj:j<xs.length,kO xs[j] y=true)∧(∀m (hm:m<xs.length),m<j→kO xs[m] y=false)∧Q (.int (j:Nat)) H
theorem Ka:SE X "list.index" PK:=by
 intro pins s σ H x vs v us Q I rx rv h;obtain⟨l,xs,y,j,rfl,rfl,hH,fy,fx,⟨hj,hit⟩,Mm,q⟩:=h;cases rx;obtain⟨u,rfl,ru⟩:=rv.one;obtain⟨z,its,n,r,hl,e⟩:=I.zN hH;have hlen:=r.length;have VG:j<its.length:=by lia
 have m9:=oZ;refine call_meets F.slot_list_index ⟨_,e,rfl⟩ F.entry_list_index (F.args_list_index_2 _ _) (SeqAt.list_indexAt l its.toArray n _ _ u (Hr y) j (by simpa using VG) (by lia) (by
  have:=Gr (x:=y) r fx j hj VG;simp only[List.getElem_toArray];rw[this];exact hit) fun m hm jv=>by
   have S8:m<its.length:=by simpa using hm
   have:=Gr (x:=y) r fx m Nz S8;simp only[List.getElem_toArray];rw[this];exact Mm m Nz jv) ⟨e,fun w hw=>m8 ru fy r fx w (by simpa using hw),?_⟩
 exact⟨.int (j:Nat),H,I.tok _,⟨_,rfl⟩,q⟩
end
end L2
namespace QF
open PySem L2
structure TB(mg:Str→Option Value):Prop where
 dA:mg "len"=none
 iJ:mg "range"=none
 bw:mg "isinstance"=none
 Kb:mg "int"=none
 PL:mg "bool"=none
 Td:mg "str"=none
 ni:mg "list"=none
 aaK:mg "tuple"=none
 aaZ:mg "dict"=none
 Kc:mg "all"=none
 aaP:mg "any"=none
 aaa:mg "min"=none
 Tf:mg "max"=none
 j6:mg "enumerate"=none
 aaF:mg "ValueError"=none
def Cs(mg:Str→Option Value)(x:Str)(v:V):Prop:=∃u,mg x=some u∧RelV v u
def cell(ns:List Int)(k:Int):Int:=ns.getD k.toNat 0
theorem Mn{ns:List Int}{k:Int}(h0:0≤k)(h:k<(ns.length:Int)):xI (ns.map V.int) k=some (.int (cell ns k)):=by
 obtain⟨j,rfl⟩:=Int.eq_ofNat_of_zero_le h0;have hj:j<ns.length:=by lia
 refine aS ?_;simp[cell,hj]
theorem cell_out{ns:List Int}{k:Int}(h0:0≤k)(h:¬k<(ns.length:Int)):cell ns k=0:=by
 have hj:ns.length≤k.toNat:=by lia
 simp[cell,hj]
def low(c:Nat):Bool:=decide (97≤c)&&decide (c≤122)
def gP(z:Str):Bool:=decide (1≤z.length)&&decide (z.length≤12)&&z.cps.toList.all low
theorem Zs(a b:Nat):(([a]:List Nat)<[b])↔a<b:=by
 constructor
 ·intro h;cases h with
  |rel h=>exact h
  |cons h=>cases h
 ·intro h;exact .rel h
theorem Xn(c:Nat):(!decide (([c]:List Nat)<(Str.ofString "a").cps.toList))=decide (97≤c):=by
 have e:(Str.ofString "a").cps.toList=[97]:=by decide+kernel
 rw[e,Bool.eq_iff_iff];simp only[Bool.not_eq_true',decide_eq_false_iff_not,decide_eq_true_eq,Zs]
 lia
theorem Xo(c:Nat):(!decide ((Str.ofString "z").cps.toList<([c]:List Nat)))=decide (c≤122):=by
 have e:(Str.ofString "z").cps.toList=[122]:=by decide+kernel
 rw[e,Bool.eq_iff_iff];simp only[Bool.not_eq_true',decide_eq_false_iff_not,decide_eq_true_eq,Zs]
 lia
theorem Mo(c:Nat):decide (c∈(Str.ofString "abcdefghijklmnopqrstuvwxyz").cps.toList)=low c:=by
 have e:(Str.ofString "abcdefghijklmnopqrstuvwxyz").cps.toList=(List.range 26).map (97+·):=by decide+kernel
 rw[e,Bool.eq_iff_iff];simp only[decide_eq_true_eq,low,Bool.and_eq_true,List.mem_map,List.mem_range];constructor
 ·rintro⟨i,hi,rfl⟩
  lia
 ·rintro⟨h1,h2⟩;exact⟨c-97,by lia,by lia⟩
theorem len_app(x y:Str):(x++y).length=x.length+y.length:=by
 show(x.cps++y.cps).size=_;rw[Array.size_append];rfl
inductive Kd(K:W.Frag)(vs:List V)(H:Hp)(Q:VK)(u3:XK):Prop
 |mk (a:_) (ns:_) (k:_) (_:vs=[.ref a, .int k]) (_:jT K H a (ns.map V.int)) (_:0≤k) (_:Q (.int (cell ns k)) H):Kd K vs H Q u3
inductive vS(vs:List V)(H:Hp)(Q:VK)(u3:XK):Prop
 |mk (i:_) (_:vs=[.int i]) (_:Q (.bl true) H):vS vs H Q u3
inductive EB(vs:List V)(H:Hp)(Q:VK)(u3:XK):Prop
 |mk (c:Nat) (_:vs=[.str ⟨#[c]⟩]) (_:Q (.bl (low c)) H):EB vs H Q u3
inductive zV(vs:List V)(H:Hp)(Q:VK)(u3:XK):Prop
 |mk (z:Str) (_:vs=[.str z]) (_:z.length≤100000) (_:∀H',av H H'→Q (.bl (gP z)) H'):zV vs H Q u3
inductive o8(vs:List V)(H:Hp)(Q:VK)(u3:XK):Prop
 |mk (l n h:Int) (_:vs=[.int l, .int n, .int h]) (_:Q (.bl (decide (l≤n)&&decide (n≤h))) H):o8 vs H Q u3
def Gs(K:W.Frag):Sp:=fun vs H Q _=>∃(a:Addr)(ns:List Int),vs=[.ref a]∧jT K H a (ns.map V.int)∧ns.length≤63∧∀H',Q (.bl true) H'
structure Er(K:W.Frag)(mg:Str→Option Value)(x:Str)(C:Addr):Prop where
 m:mg x=some (.ref C)
 e:sg K C
def inR(l n h:Int):Bool:=decide (l≤n)&&decide (n≤h)
inductive sk(C:Addr)(vs:List V)(H:Hp)(Q:VK)(E:XK):Prop
 |mk (nm:Str) (n l h:Int) (_:vs=[.str nm, .int n, .int l, .int h]) (_:nm.length≤20) (_:(0≤l∧l≤1)) (_:(h=100∨h=999999)) (_:(if inR l n h=true then Q .cF H else E (.ref C) none H)):sk C vs H Q E
theorem jE{i:Int}(h:i=0∨i=1∨i=12∨i=40∨i=60∨i=100∨i=999999):i.natAbs.log2<1920∧(Str.ofString (toString i)).length≤6:=by
 rcases h with rfl|rfl|rfl|rfl|rfl|rfl|rfl<;>exact⟨by decide+kernel,by decide+kernel⟩
theorem iz:(Str.empty).length=0:=by decide+kernel
theorem dq{x:V}:[x].length≤sizeLine:=ay XD
def lS(x y:Str)(p:Int):Bool:=gP x&&gP y&&!(x==y)&&inR 0 p 999999
inductive zW(C:Addr)(vs:List V)(H:Hp)(Q:VK)(E:XK):Prop
 |mk (x y:Str) (p:Int) (_:vs=[.str x, .str y, .int p]) (_:x.length≤100000) (_:y.length≤100000) (_:(if lS x y p=true then ∀H',av H H'→Q .cF H' else ∀H',av H H'→E (.ref C) none H')):zW C vs H Q E
abbrev Form:=Str×Str×Int
def Xp(f:Form):List V:=[.str f.1, .str f.2.1, .int f.2.2]
def ow(f:Form):List Key:=[.inr f.1, .inr f.2.1]
def nj(f:Form):List Key×V:=(ow f, .int f.2.2)
def PM(f:Form):Bool:=lS f.1 f.2.1 f.2.2
def mK(H:Hp)(xs:List V)(fs:List Form):Prop:=xs.length=fs.length∧∀(i:Nat)(f:Form),fs[i]?=some f→∃t,xs[i]?=some (V.ref t)∧H t=some (.tup (Xp f))
def gc(fs:List Form):Bool:=decide (fs.length≤60)&&fs.all PM&&decide ((fs.map ow).Nodup)
def Short(fs:List Form):Prop:=fs.length≤1000∧∀f∈fs,f.1.length≤100000∧f.2.1.length≤100000
theorem mK.same{H H':Hp}{xs:List V}{fs:List Form}(t:mK H xs fs)(s:av H H'):mK H' xs fs:=⟨t.1,fun i f e=>let ⟨b,h1,h2⟩:=t.2 i f e;⟨b,h1,s _ _ h2⟩⟩
theorem mK.nil{H:Hp}:mK H [] []:=⟨rfl,fun i f e=>by simp at e⟩
inductive so(C:Addr)(vs:List V)(H:Hp)(Q:VK)(E:XK):Prop
 |mk (a:Addr) (xs:List V) (fs:List Form) (_:vs=[.ref a]) (_:H a=some (.lst xs)) (_:mK H xs fs) (_:Short fs) (_:(if gc fs=true then ∀H' d,av H H'→H d=none→H' d=some (.dT (fs.map nj))→Q (.ref d) H' else ∀H',av H H'→E (.ref C) none H')):so C vs H Q E
theorem Gu(fs:List Form):(fs.map nj).map (·.1)=fs.map ow:=by rw[List.map_map];rfl
theorem Ke{fs:List Form}{i:Nat}{f:Form}(e:fs[i]?=some f)(h:PM f=false):gc fs=false:=by
 have hm:f∈fs:=Ψ e;have:fs.all PM=false:=by
  rw[Bool.eq_false_iff];intro z;rw[List.all_eq_true]at z;rw[z f hm]at h;cases h
 simp[gc,this]
theorem HA{fs:List Form}{i:Nat}{f:Form}(e:fs[i]?=some f)(h:ow f∈(fs.take i).map ow):gc fs=false:=by
 have:¬(fs.map ow).Nodup:=fun z=>by
  obtain⟨hi,e'⟩:=Η e;have e2:fs=fs.take i++f::fs.drop (i+1):=by
   rw[←e',List.getElem_cons_drop,List.take_append_drop]
  rw[e2,List.map_append,List.map_cons,List.nodup_append]at z;exact z.2.2 _ h _ (List.mem_cons_self) rfl
 simp[gc,this]
theorem HB{fs:List Form}{i:Nat}{f:Form}(e:fs[i]?=some f):(fs.take (i+1)).map nj=(fs.take i).map nj++[nj f]:=by
 rw[List.take_succ,e,List.map_append];rfl
theorem Tg{fs:List Form}{k:List Key}(h:b_ (fs.map nj) k=none):k∉fs.map ow:=by
 have:=CJ h;rwa[Gu]at this
theorem PN{fs:List Form}{k:List Key}{v:V}(h:b_ (fs.map nj) k=some v):k∈fs.map ow:=by
 have:=Gm h;rwa[Gu]at this
structure Kf(K:W.Frag)(C:Addr):Prop where
 cl:xH K C
 same:bJ K C "same"
 out:bJ K C "out"
 into:bJ K C "into"
 least:bJ K C "least"
 part:bJ K C "part"
 near:bJ K C "near"
 Kg:bJ K C "prices"
structure Nums where
 same:Int
 out:Int
 into:Int
 least:Int
 part:Int
def kT(n:Nums):Bool:=inR 1 n.same 999999&&inR 0 n.out 999999&&inR 0 n.into 999999&&inR 1 n.least 999999&&inR 1 n.part 100
def zX(n:Nums)(l d:Addr):List (Str×V):=[("same", .int n.same),("out", .int n.out),("into", .int n.into),("least", .int n.least),("part", .int n.part),("near", .ref l),("prices", .ref d)]
def oO(n:Nums):List (Str×V):=[("same", .int n.same),("out", .int n.out),("into", .int n.into),("least", .int n.least),("part", .int n.part)]
def SameBut(x:Addr)(H H':Hp):Prop:=∀b u,b≠x→H b=some u→H' b=some u
structure lT(H:Hp)(C x:Addr)(n:Nums)(fs:List Form)(dx l d:Addr)(xs:List V):Prop where
 ob:H x=some (.ins C dx (zX n l d))
 own:H dx=some (.own x)
 li:H l=some (.lst xs)
 tr:mK H xs fs
 di:H d=some (.dT (fs.map nj))
def Th(H:Hp)(v:V)(xs:List V)(fs:List Form):Prop:=(v= .cF∧xs=[]∧fs=[])∨∃a,v= .ref a∧H a=some (.lst xs)∧mK H xs fs
inductive vj(C CT CN:Addr)(vs:List V)(H:Hp)(Q:VK)(E:XK):Prop
 |mk (x dx:Addr) (n:Nums) (nv:V) (xs:List V) (fs:List Form) (_:vs=[.ref x, .int n.same, .int n.out, .int n.into, .int n.least, .int n.part,nv]) (_:H x=some (.ins C dx [])) (_:H dx=some (.own x)) (_:Th H nv xs fs) (_:Short fs) (_:(if kT n=true then(if gc fs=true then ∀H' l d,SameBut x H H'→lT H' C x n fs dx l d xs→H l=none→H d=none→Q .cF H' else ∀H',SameBut x H H'→E (.ref CN) none H')else ∀H',SameBut x H H'→E (.ref CT) none H')):vj C CT CN vs H Q E
theorem Xq(n:Nums):bq "part" (.int n.part) (bq "least" (.int n.least) (bq "into" (.int n.into) (bq "out" (.int n.out) (bq "same" (.int n.same) []))))=oO n:=by kernel_rfl
theorem Xr(n:Nums)(l d:Addr):bq "prices" (.ref d) (bq "near" (.ref l) (oO n))=zX n l d:=by kernel_rfl
theorem Ti(n:Nums)(l:Addr):(bq "near" (.ref l) (oO n)).lookup ("near":Str)=some (V.ref l):=by kernel_rfl
theorem SameBut.refl{x:Addr}{H:Hp}:SameBut x H H:=fun _ _ _ h=>h
theorem SameBut.upd{x:Addr}{H H':Hp}{o:HO}(s:SameBut x H H'):SameBut x H (upd H' x o):=fun b u n h=>by rw[aj n];exact s b u n h
theorem SameBut.same{x:Addr}{H H' H2:Hp}(s:SameBut x H H')(t:av H' H2):SameBut x H H2:=fun b u n h=>t b u (s b u n h)
theorem SameBut.laid{x a:Addr}{H H':Hp}{o:HO}(s:SameBut x H H')(h:H a=none):SameBut x H (L2.upd H' a o):=fun b u n e=>by rw[aj (aG e h)];exact s b u n e
theorem SameBut.free{x l:Addr}{H H':Hp}{o:HO}(s:SameBut x H H')(hx:H' x=some o)(h:H' l=none):H l=none:=by
 cases e:H l with
 |none=>rfl
 |some u=>
  have n:l≠x:=fun z=>by rw[z,hx]at h;cases h
  rw[s l u n e]at h;cases h
theorem mK.but{x:Addr}{H H':Hp}{xs:List V}{fs:List Form}{C dx:Addr}{gs:List (Str×V)}(t:mK H xs fs)(s:SameBut x H H')(hx:H x=some (.ins C dx gs)):mK H' xs fs:=
 ⟨t.1,fun i f e=>let ⟨b,h1,h2⟩:=t.2 i f e;⟨b,h1,s _ _ (fun z=>by rw[z,hx]at h2;cases h2) h2⟩⟩
def Fits(K:W.Frag)(C:Addr)(Ds:List Addr)(j:Nat):Prop:=(∀(i:Nat)(D:Addr),Ds[i]?=some D→W.kitOne K (.ref C) (.ref D)=some (decide (i=j)))∧W.kitOne K (.ref C) (.type "ValueError")=some true
def fl(j:Nat):List V:=[.bl (decide (0=j)), .bl (decide (1=j)), .bl (decide (2=j)), .bl (decide (3=j)), .bl (decide (4=j)), .bl (decide (5=j)), .bl (decide (6=j)), .bl (decide (7=j)), .bl (decide (8=j)), .bl (decide (9=j)), .bl (decide (10=j)), .bl (decide (11=j)), .bl (decide (12=j)), .bl (decide (13=j))]
def kinds:List Str:=["word","book","terms","near","way","name","year","taken","full","many","no book","no finding","left","search","another"]
def kindOf(j:Nat):Str:=kinds.getD j ""
theorem Gv(j:Nat):(fl j).all f_=true:=rfl
theorem Kh{j:Nat}(h:j<14):(fl j).countP (fun z=>kO z (.bl true))=1:=by
 have:∀j<14,(fl j).countP (fun z=>kO z (.bl true))=1:=QY;exact this j h
theorem Tj{j:Nat}(h:j<14):∃hj:j<(fl j).length,kO (fl j)[j] (.bl true)=true:=by
 have:∀j (h:j<14),kO ((fl j)[j]'h) (.bl true)=true:=QY;exact⟨h,this j h⟩
theorem Tn{j:Nat}(h:j<14):∀m (hm:m<(fl j).length),m<j→kO (fl j)[m] (.bl true)=false:=by
 have:∀j (h:j<14),∀m (hm:m<14),m<j→kO ((fl j)[m]'hm) (.bl true)=false:=QY;exact fun m hm hl=>this j h m hm hl
theorem Mp{j:Nat}(h:j<14):xI (kinds.map V.str) (j:Int)=some (.str (kindOf j)):=by
 refine aS ?_;have hk:kinds.length=15:=rfl;have:j<kinds.length:=by lia
 rw[List.getElem?_map,Ω this];simp[kindOf,this]
inductive zY(K:W.Frag)(Ds:List Addr)(vs:List V)(H:Hp)(Q:VK)(u3:XK):Prop
 |mk (x C:Addr) (j:Nat) (_:vs=[.ref x]) (_:H x=some (.exc x C)) (_:sg K C) (_:j<14) (_:Fits K C Ds j) (_:∀H',av H H'→Q (.str (kindOf j)) H'):zY K Ds vs H Q u3
theorem int_at(is:List Int){i:Int}(h0:0≤i)(h:i<(is.length:Int)):∃m,m∈is∧xI (is.map V.int) i=some (.int m):=by
 obtain⟨j,rfl⟩:=Int.eq_ofNat_of_zero_le h0;have hj:j<is.length:=by lia
 exact⟨is[j],List.getElem_mem hj,aS (by simp[hj])⟩
theorem Ki(n:Nums)(l d:Addr):(zX n l d).lookup ("same":Str)=some (V.int n.same):=by kernel_rfl
theorem l_out(n:Nums)(l d:Addr):(zX n l d).lookup ("out":Str)=some (V.int n.out):=by kernel_rfl
theorem PQ(n:Nums)(l d:Addr):(zX n l d).lookup ("into":Str)=some (V.int n.into):=by kernel_rfl
theorem Mq(n:Nums)(l d:Addr):(zX n l d).lookup ("least":Str)=some (V.int n.least):=by kernel_rfl
theorem Kj(n:Nums)(l d:Addr):(zX n l d).lookup ("prices":Str)=some (V.ref d):=by kernel_rfl
theorem zZ(n:Nums)(l d:Addr):(zX n l d).lookup ("pair_worth":Str)=none:=by kernel_rfl
theorem Fits.mk{K:W.Frag}{C D0 D1 D2 D3 D4 D5 D6 D7 D8 D9 Zt Zu Zv Zw:Addr}{j:Nat}(h0:W.kitOne K (.ref C) (.ref D0)=some (decide (0=j)))(h1:W.kitOne K (.ref C) (.ref D1)=some (decide (1=j)))(h2:W.kitOne K (.ref C) (.ref D2)=some (decide (2=j)))(h3:W.kitOne K (.ref C) (.ref D3)=some (decide (3=j)))(h4:W.kitOne K (.ref C) (.ref D4)=some (decide (4=j)))(h5:W.kitOne K (.ref C) (.ref D5)=some (decide (5=j)))(h6:W.kitOne K (.ref C) (.ref D6)=some (decide (6=j)))(h7:W.kitOne K (.ref C) (.ref D7)=some (decide (7=j)))(h8:W.kitOne K (.ref C) (.ref D8)=some (decide (8=j)))(h9:W.kitOne K (.ref C) (.ref D9)=some (decide (9=j)))(h10:W.kitOne K (.ref C) (.ref Zt)=some (decide (10=j)))(h11:W.kitOne K (.ref C) (.ref Zu)=some (decide (11=j)))(To:W.kitOne K (.ref C) (.ref Zv)=some (decide (12=j)))(h13:W.kitOne K (.ref C) (.ref Zw)=some (decide (13=j)))(hv:W.kitOne K (.ref C) (.type "ValueError")=some true):Fits K C [D0,D1,D2,D3,D4,D5,D6,D7,D8,D9,Zt,Zu,Zv,Zw] j:=by
 refine⟨fun i D e=>?_,hv⟩
 match i,e with
 |0,e=>cases e;exact h0
 |1,e=>cases e;exact h1
 |2,e=>cases e;exact h2
 |3,e=>cases e;exact h3
 |4,e=>cases e;exact h4
 |5,e=>cases e;exact h5
 |6,e=>cases e;exact h6
 |7,e=>cases e;exact h7
 |8,e=>cases e;exact h8
 |9,e=>cases e;exact h9
 |10,e=>cases e;exact h10
 |11,e=>cases e;exact h11
 |12,e=>cases e;exact To
 |13,e=>cases e;exact h13
 |n+14,e=>simp at e
end QF
namespace L2
open PySem PySem.Spec PyProof.Rows PySem.W PySem.Calls
section
variable{X:Cx}
inductive Tp(K:Frag)(x:V)(y:V)(H:Hp)(Q:VK):Prop
 |mk (p:_) (q:_) (xs:_) (_:x= .ref p) (_:y= .ref q) (_:jT K H p xs) (_:jT K H q []) (_:Q (.bl (!xs.isEmpty)) H):Tp K x y H Q
theorem EC(K:Frag)(hu:X.A.units<cLine)(hK:X.K=K:=by rfl):rX X (compareOp .NotEq) (Tp K):=by
 subst hK;intro pins s σ H x y v u Q I rx ry h;obtain⟨p,q,xs,rfl,rfl,hp,hq,k⟩:=h;cases rx;cases ry;obtain⟨its,r,pl,hz⟩:=I.list hp;obtain⟨kP,r2,Xs,hz2⟩:=I.list hq;cases r2;obtain⟨⟨cls,dd,data,sl⟩,ho,hc,n,hd⟩:=id pl.isList;obtain⟨⟨Xu,Ra,data2,DT⟩,Lq,DU,n2,hd2⟩:=id Xs.isList;simp only at hc hd DU hd2;subst hc hd DU hd2;by_cases e:its=[]
 ·subst e;cases r;refine richCompare_meets_room (op:= .NotEq) ⟨_,ho,rfl⟩ ⟨_,Lq,rfl⟩ F.slot_list_ne F.entry_list_ne (F.args_list_ne_2 _ _) (SeqAt.list_neAt p q #[] #[] n n2 dd Ra sl DT rfl (fun _=>true)) ⟨ho,Lq,fun j h1 _=>absurd h1 XD,?_⟩ hu;exact⟨(fun x=>nomatch x), .bl false,H,I,rfl,k⟩
 ·have hx:xs≠[]:=fun z=>by subst z;cases r;exact e rfl
  have hsz:(its.toArray.size !=(#[]:Array Value).size)=true:=by simpa using e
  refine richCompare_meets_room (op:= .NotEq) ⟨_,ho,rfl⟩ ⟨_,Lq,rfl⟩ F.slot_list_ne F.entry_list_ne (F.args_list_ne_2 _ _) (SeqAt.list_ne_lengthsAt p q its.toArray #[] n n2 dd Ra sl DT hsz) ⟨ho,Lq,?_⟩ hu;have:(!xs.isEmpty)=true:=by simpa using hx
  rw[this]at k;exact⟨(fun x=>nomatch x), .bl true,H,I,rfl,k⟩
end
end L2
namespace QF
open PySem L2
theorem PR{α:Type}{xs:List α}{i:Nat}{v:α}(h:xs[i]?=some v):xI xs (0+(i:Int))=some v:=by
 rw[Int.zero_add];exact aS h
def qg(fs:List Form)(x y:Str):Option Int:=(fs.find? fun f=>decide (f.1=x∧f.2.1=y)).map (·.2.2)
def nk(same:Int)(fs:List Form)(x y:Str):Option Int:=if x=y then some same else(qg fs x y).map (same-·)
def cA:Option Int→V
 |none=> .cF
 |some i=> .int i
theorem Gx(f:Form)(x y:Str):ow f=[.inr x, .inr y]↔f.1=x∧f.2.1=y:=by simp[ow]
theorem za(x y:Str):∀fs:List Form,b_ (fs.map nj) [.inr x, .inr y]=(qg fs x y).map V.int
 |[]=>rfl
 |f::r=>by
  rw[List.map_cons];by_cases h:ow f=[.inr x, .inr y]
  ·have h':=(Gx f x y).mp h;rw[cW (show(nj f).1=_ from h)];simp[qg,List.find?_cons,h'.1,h'.2,nj]
  ·have h':¬(f.1=x∧f.2.1=y):=fun z=>h ((Gx f x y).mpr z)
   rw[cR (show ¬(nj f).1=_ from h),za x y r];simp[qg,List.find?_cons,h']
inductive z9(C:Addr)(vs:List V)(H:Hp)(Q:VK)(u3:XK):Prop
 |mk (t:Addr) (x y:Str) (n:Nums) (fs:List Form) (dx l d:Addr) (xs:List V) (_:vs=[.ref t, .str x, .str y]) (_:lT H C t n fs dx l d xs) (_:∀H',av H H'→Q (cA (nk n.same fs x y)) H'):z9 C vs H Q u3
abbrev Lr:Str:=Str.ofString "abcdefghijklmnopqrstuvwxyz"
theorem Gy:Lr.length=26:=by decide+kernel
theorem Kk(zs:List Str){i:Int}(h0:0≤i)(h:i<(zs.length:Int)):∃m,m∈zs∧xI (zs.map V.str) i=some (.str m):=by
 obtain⟨j,rfl⟩:=Int.eq_ofNat_of_zero_le h0;have hj:j<zs.length:=by lia
 exact⟨zs[j],List.getElem_mem hj,aS (by simp[hj])⟩
theorem j7(x y:Str):(x++y).cps.toList=x.cps.toList++y.cps.toList:=by
 show(x.cps++y.cps).toList=_;simp
theorem Kl{xs:List V}{i:Nat}(h:i≤xs.length):Ep xs none (some (0+(i:Int)))=xs.take i:=by
 have e0:HT.lO xs.length 0 none=0:=by simp[HT.lO]
 have e1:HT.lO xs.length xs.length (some (0+(i:Int)))=i:=by
  rw[Int.zero_add];simp only[HT.lO];split<;>lia
 unfold Ep;rw[e0,e1];simp
theorem Km{c:Nat}{x:Str}(h:c∈x.cps.toList)(hc:low c=false):gP x=false:=by
 have:x.cps.toList.all low=false:=by
  rw[Bool.eq_false_iff];intro z;rw[List.all_eq_true]at z;rw[z c h]at hc;cases hc
 simp[gP,this]
def fD(H H':Hp):Prop:=∀t v,H t=some (.tup v)→H' t=some (.tup v)
theorem fD.same{H H':Hp}(s:av H H'):fD H H':=fun t v h=>s _ _ h
theorem fD.lst{H:Hp}{l:Addr}{xs:List V}{o:HO}(h:H l=some (.lst xs)):fD H (upd H l o):=fun t v e=>by
 rw[aj (jA e h (by intro z;cases z))];exact e
theorem Gz{n j:Nat}(h:j<n):JN n (j:Int)=some j:=by
 unfold JN;rw[VH Nz,VH Nz];simp
theorem Mr:Lr.cps.toList=(List.range 26).map (97+·):=by decide+kernel
theorem z_{r:Int}:xI Lr.cps.toList (r%26)=some (97+(r%26).toNat):=by
 have h0:0≤r%26:=by lia
 have h1:r%26<26:=by lia
 generalize r%26=m at h0 h1;obtain⟨j,rfl⟩:=Int.eq_ofNat_of_zero_le h0;refine aS ?_;have hj:j<26:=by lia
 rw[Mr];simp[hj]
theorem vk(r:Int):low (97+(r%26).toNat)=true:=by
 have h1:(r%26).toNat≤25:=by lia
 simp[low]
 lia
def lows(z:Str):Prop:=z.cps.toList.all low=true
def lB(bI:Str)(cell other:Int)(k:Nat):Str:=
 let size:=1+cell/2%12
 if cell%2=1 then Txt.slice bI none (some (1+(size+k)%12))
 else Txt.slice bI none (some (other%size))++⟨#[97+((other/12+k)%26).toNat]⟩++Txt.slice bI (some (other%size+1)) (some size)
theorem Aa{n d:Nat}{v:Int}(h0:0≤v)(h:v≤n):HT.lO n d (some v)=v.toNat:=by
 simp only[HT.lO];split<;>lia
theorem nq{z:Str}{v:Int}(h0:0≤v)(h:v≤z.length):(Txt.slice z none (some v)).cps.toList=z.cps.toList.take v.toNat:=by
 rw[y8,Aa h0 h,HT.JL];simp
theorem Kn{z:Str}{u v:Int}(h0:0≤u)(h1:u≤v)(h:v≤z.length):(Txt.slice z (some u) (some v)).cps.toList=(z.cps.toList.drop u.toNat).take (v.toNat-u.toNat):=by
 rw[y8,Aa h0 Nz,Aa Nz h]
theorem len_list(z:Str):z.cps.toList.length=z.length:=by simp[Str.length]
theorem ED{z:Str}(h1:1≤z.length)(h2:z.length≤12)(h:lows z):gP z=true:=by
 have h:z.cps.toList.all low=true:=h;simp[gP,h1,h2,h]
theorem Ko{bI:Str}(hl:bI.length=12)(hs:lows bI)(cell other:Int)(k:Nat):gP (lB bI cell other k)=true:=by
 have Tq:=List.all_eq_true.mp hs;have Rb:=len_list bI;have z0:1≤1+cell/2%12∧1+cell/2%12≤12:=by lia
 unfold lB;simp only;generalize 1+cell/2%12=size at z0;split
 ·have z1:1≤1+(size+(k:Int))%12∧1+(size+(k:Int))%12≤12:=by lia
  generalize 1+(size+(k:Int))%12=m at z1;have e:=nq (z:=bI) (v:=m) (by lia) (by lia);have el:(Txt.slice bI none (some m)).length=m.toNat:=by rw[←len_list,e,List.length_take,Rb];lia
  refine ED Nz (by lia) ?_;unfold lows;rw[e,List.all_eq_true];exact fun c hc=>Tq c (List.mem_of_mem_take hc)
 ·have z1:0≤other%size∧other%size<size:=⟨Int.emod_nonneg _ (by lia),Int.emod_lt_of_pos _ (by lia)⟩
  generalize other%size=jU at z1;have e1:=nq (z:=bI) (v:=jU) (by lia) (by lia);have e2:=Kn (z:=bI) (u:=jU+1) (v:=size) (by lia) (by lia) (by lia);have l1:(Txt.slice bI none (some jU)).length=jU.toNat:=by rw[←len_list,e1,List.length_take,Rb];lia
  have l2:(Txt.slice bI (some (jU+1)) (some size)).length=size.toNat-(jU+1).toNat:=by rw[←len_list,e2,List.length_take,List.length_drop,Rb];lia
  have el:(Txt.slice bI none (some jU)++(⟨#[97+((other/12+(k:Int))%26).toNat]⟩:Str)++Txt.slice bI (some (jU+1)) (some size)).length=size.toNat:=by
   rw[len_app,len_app,l1,l2];show jU.toNat+1+_=_
   lia
  refine ED Nz (by lia) ?_;unfold lows;rw[j7,j7,e1,e2,List.all_append,List.all_append];have a1:(bI.cps.toList.take jU.toNat).all low=true:=List.all_eq_true.mpr fun c hc=>Tq c (List.mem_of_mem_take hc)
  have a2:((bI.cps.toList.drop (jU+1).toNat).take (size.toNat-(jU+1).toNat)).all low=true:=List.all_eq_true.mpr fun c hc=>Tq c (List.mem_of_mem_drop (List.mem_of_mem_take hc))
  have a3:=vk (other/12+(k:Int));rw[a1,a2];simp[a3]
theorem PU{A B:List Nat}{c:Nat}:(A++[c]++B)[A.length]?=some c:=Xx
theorem Kq{bI:Str}(hl:bI.length=12)(cell other:Int){k k':Nat}(hk:k<12)(Je:k'<12)(e:lB bI cell other k=lB bI cell other k'):k=k':=by
 have Rb:=len_list bI;have z0:1≤1+cell/2%12∧1+cell/2%12≤12:=by lia
 unfold lB at e;simp only at e;generalize 1+cell/2%12=size at z0 e;split at e
 ·have e:=congrArg (fun z:Str=>z.cps.toList.length) e;rw[nq Nz (by lia),nq Nz (by lia),List.length_take,List.length_take,Rb,hl]at e
  lia
 ·have z1:0≤other%size∧other%size<size:=⟨Int.emod_nonneg _ (by lia),Int.emod_lt_of_pos _ (by lia)⟩
  generalize other%size=jU at z1 e;have e1:=nq (z:=bI) (v:=jU) (by lia) (by lia);have l1:(bI.cps.toList.take jU.toNat).length=jU.toNat:=by rw[List.length_take,Rb];lia
  have at_:∀c:Nat,(Txt.slice bI none (some jU)++(⟨#[c]⟩:Str)++Txt.slice bI (some (jU+1)) (some size)).cps.toList[jU.toNat]?=some c:=fun c=>by
   rw[j7,j7,e1];have:=PU (A:=bI.cps.toList.take jU.toNat) (B:=(Txt.slice bI (some (jU+1)) (some size)).cps.toList) (c:=c);rw[l1]at this;exact this
  have e:=congrArg (fun z:Str=>z.cps.toList[jU.toNat]?) e;have e2:=(at_ _).symm.trans (e.trans (at_ _));have e3:=Ρ e2
  lia
theorem EF{bI:Str}(hl:bI.length=12)(cell other:Int){n:Nat}(hn:n≤12):((List.range n).map (lB bI cell other)).Nodup:=by
 refine List.pairwise_map.mpr ?_;refine List.Pairwise.imp_of_mem (R:=fun a b=>a≠b) (fun{a b} ha hb h e=>h ?_) List.nodup_range;exact Kq hl cell other (by have:=List.mem_range.mp ha;lia) (by have:=List.mem_range.mp hb;lia) e
inductive Ab(vs:List V)(H:Hp)(Q:VK)(u3:XK):Prop
 |mk (cell other many:Int) (_:vs=[.int cell, .int other, .int many]) (_:0≤many) (_:many≤12) (_:∀H' b (zs:List Str),av H H'→H b=none→H' b=some (.lst (zs.map V.str))→zs.length=many.toNat→(∀z∈zs,gP z=true)→zs.Nodup→Q (.ref b) H'):Ab vs H Q u3
theorem Ac{zs:List Str}{i:Nat}{v:V}(h:(zs.map V.str)[i]?=some v):∃x,zs[i]?=some x∧v= .str x:=by
 rw[List.getElem?_map]at h;cases e:zs[i]? with
 |none=>rw[e]at h;cases h
 |some x=>rw[e]at h;exact⟨x,rfl,(Ρ h).symm⟩
theorem vm(w:Str)(zs:List Str):Vy (.str w) (zs.map V.str)=decide (w∈zs):=by
 unfold Vy;rw[Bool.eq_iff_iff];simp[kO]
theorem lT.same{H H':Hp}{C x:Addr}{n:Nums}{fs:List Form}{dx l d:Addr}{xs:List V}(T:lT H C x n fs dx l d xs)(s:av H H'):lT H' C x n fs dx l d xs:=⟨s _ _ T.ob,s _ _ T.own,s _ _ T.li,T.tr.same s,s _ _ T.di⟩
theorem SameBut.sq{x dx C:Addr}{H H':Hp}(hx:H x=none)(GA:H dx=none)(s:SameBut x (L2.upd (L2.upd H dx (.own x)) x (.ins C dx [])) H'):av H H':=fun b u e=>by
 have n1:b≠x:=aG e hx;have n2:b≠dx:=aG e GA;exact s b u n1 (by rw[aj n1,aj n2];exact e)
end QF
namespace L2
open PySem PySem.Spec PyProof.Rows PySem.W PySem.Calls
section
variable{X:Cx}{pins:List (Addr×Obj)}{σ:St}{H:Hp}{s:Shared}{h':Heap}
theorem Inv.Ms{t':Nat}{fp:List Addr}(I:Inv X pins σ H s)(hf:∀b∈fp,i8 X pins H b)(k:∀b o,b∉fp→s.heap.get? b=some o→h'.get? b=some o):Inv X pins σ H {s with heap:=h',toks:=t'}:=by
 have Nu:∀b u,H b=some u→b∉fp:=fun b u e z=>by rw[(hf b z).1]at e;cases e
 refine I.step (g':=s.gens) (d':=s.drawn) (ch:=fp) (fun b hb=>?_) (fun b o _ _ hc e _=>k b o hc e) (fun b o _ _ hc e _=>⟨o.slots,k b o hc e⟩) (fun _ _ _ _ n=>n)
  (fun b o hc e=>⟨o,k b o hc e⟩) (fun _ _ e=>e) (fun _ _ _ e=>e) (fun b ps e=>⟨#[],by rw[e];simp⟩) (fun m hm=>?_) (fun b u e=>?_) I.bare
 ·obtain⟨_,f1,_,f3,f4,f5⟩:=hf b hb;exact⟨f3,f1,f4,f5⟩
 ·obtain⟨o,es,ep,ho,r⟩:=hm;exact⟨o,es,ep,k _ o (fun z=>(hf _ z).2.1 rfl) ho,r⟩
 ·refine(I.cC b u e).pY (fun c v hc q=>k c v ?_ q) (fun _ q=>q) fun _ _ q=>q
  rcases hc with z|z
  ·rw[z];exact Nu b u e
  ·exact Nu c _ z
theorem Inv.GB{t':Nat}{fp:List Addr}{T:Addr}{u:HO}(I:Inv X pins σ H s)(hf:∀b∈fp,i8 X pins H b)(hT:i8 X pins H T)(k:∀b o,b∉fp→s.heap.get? b=some o→h'.get? b=some o)
  (new:dn X.prog X.w (upd H T u) h' T u):Inv X pins σ (upd H T u) {s with heap:=h',toks:=t'}:=by
 have Nu:∀b u,H b=some u→b∉fp:=fun b u e z=>by rw[(hf b z).1]at e;cases e
 have nT:∀b v,H b=some v→b≠T:=fun b v e z=>by rw[z,hT.1]at e;cases e
 refine I.step (g':=s.gens) (d':=s.drawn) (ch:=T::fp) (fun b hb=>?_) (fun b o _ _ hc e _=>k b o (fun z=>hc (List.mem_cons_of_mem _ z)) e) (fun b o _ _ hc e _=>⟨o.slots,k b o (fun z=>hc (List.mem_cons_of_mem _ z)) e⟩) (fun b _ hc _ n=>?_)
  (fun b o hc e=>⟨o,k b o (fun z=>hc (List.mem_cons_of_mem _ z)) e⟩) (fun b xs e=>by rw[aj (nT b _ e)];exact e) (fun b o v e=>by rw[aj (nT b _ e)];exact e) (fun b ps e=>⟨#[],by rw[aj (nT b _ e),e];simp⟩) (fun m hm=>?_) (fun b v e=>?_) I.bare
 ·rcases List.mem_cons.mp hb with z|z
  ·subst z;obtain⟨_,f1,_,f3,f4,f5⟩:=hT;exact⟨f3,f1,f4,f5⟩
  ·obtain⟨_,f1,_,f3,f4,f5⟩:=hf b z;exact⟨f3,f1,f4,f5⟩
 ·rw[aj (fun z=>hc (by simp[z]))];exact n
 ·obtain⟨o,es,ep,ho,r⟩:=hm;exact⟨o,es,ep,k _ o (fun z=>(hf _ z).2.1 rfl) ho,r⟩
 ·by_cases hb:b=T
  ·subst hb;rw[af]at e;cases e;exact new
  ·rw[aj hb]at e;refine(I.cC b v e).pY (fun c v' hc q=>k c v' ?_ q) (fun c q=>by rw[aj (nT c _ q)];exact q) fun c xs q=>by rw[aj (nT c _ q)];exact q
   rcases hc with z|z
   ·rw[z];exact Nu b v e
   ·exact Nu c _ z
theorem Inv.swap{d:Addr}{u u':HO}(I:Inv X pins σ H s)(e:H d=some u)(ht:∀xs,u≠ .tup xs)(ho:∀x,u≠ .own x)(hb:∀ps,u≠ .LB ps)(hf:∀o v,X.fC d≠some (.ve o v))(new:dn X.prog X.w (upd H d u') s.heap d u'):Inv X pins σ (upd H d u') s:=by
 have nd:∀b,H b=none→b≠d:=fun b n z=>by rw[z,e]at n;cases n
 have nt:∀b xs,H b=some (.tup xs)→b≠d:=fun b xs q z=>by rw[z,e]at q;cases q;exact ht xs rfl
 have no:∀b x,H b=some (.own x)→b≠d:=fun b xs q z=>by rw[z,e]at q;cases q;exact ho xs rfl
 refine⟨I.ok,I.os,I.bare,⟨I.base.keep,I.base.slot,fun b o q n hx=>?_,I.base.there,fun b xs q=>?_,fun b o v q=>?_,fun b ps q=>?_⟩,I.loc,I.cell,?_,fun x c q=>?_,fun p hp=>?_,fun b v q=>?_,I.len⟩
 ·have z:=I.base.free b o q n hx;rw[aj (nd b z)];exact z
 ·have z:=I.base.cO b xs q;rw[aj (nt b xs z)];exact z
 ·have z:=I.base.mV b o v q;rw[aj (fun y=>by subst y;exact hf o v q)];exact z
 ·obtain⟨m,z⟩:=I.base.oY b ps q;exact⟨m,by rw[aj (fun y=>by rw[y,e]at z;cases z;exact hb _ rfl)];exact z⟩
 ·rw[aj (nd _ I.free)];exact I.free
 ·rw[aj (nd _ (I.jg x c q))];exact I.jg x c q
 ·obtain⟨p1,p2,p3⟩:=I.pin p hp;exact⟨p1,by rw[aj (nd _ p2)];exact p2,p3⟩
 ·by_cases Zx:b=d
  ·subst Zx;rw[af]at q;cases q;exact new
  ·rw[aj Zx]at q;exact(I.cC b v q).pY (fun c v' _ z=>z) (fun c z=>by rw[aj (no c _ z)];exact z) fun c xs z=>by rw[aj (nt c _ z)];exact z
end
def Rg(K:Frag)(a:Addr):It:=
 ⟨fun i H=>∃xs x,jT K H a xs∧xs[i]?=some x,fun i H x H'=>∃T y,x= .ref T∧H T=none∧H'=upd H T (.tup [.int i,y])∧∀xs,jT K H a xs→xs[i]?=some y,fun i H=>∃xs,jT K H a xs∧xs.length≤i⟩
theorem HC{P:Program}{w:World}{K:Frag}{elts:List Expr}{n:Nat}{pos:Pos}(a e it:Addr)(gO:e≠it):
  Turn P w K (.Tuple elts n pos) (Rg K a) [e,it] e (fun i h=>(∃old,IsEnum h e it (i:Nat) old)∧h.IsListIter it a i) where
 mem:=Xx
 obj:=fun i h st b hb=>by
  obtain⟨⟨old,s1⟩,o,s2,_,s3⟩:=st;rcases List.mem_cons.mp hb with z|z
  ·subst z;exact⟨_,s1,fun v z=>by
    have z':Data.fields _=Data.cell v:=z;cases z'⟩
  ·have e:b=it:=by simpa using z
   subst e;exact⟨o,s2,fun v z=>by rw[s3]at z;cases z⟩
 keep:=fun i h h' st k=>⟨⟨st.1.choose,k e XD _ st.1.choose_spec⟩,st.2.at fun o q=>k it (Xx) o q⟩
 item:=by
  intro X hP hw hK hc i pins s σ H E I hf st hg;subst hP hw hK;obtain⟨xs,x,hq,hx⟩:=hg;obtain⟨⟨old,s1⟩,s2⟩:=st;obtain⟨its,rv,p,hz⟩:=I.list hq;obtain⟨u,hu,ru⟩:=rv.get hx;refine wpAny_pyNext_enum_item s1 s2 p.isList (x:=u) (by simpa using hu) gO fun h' o1 o2 o3 o4 o5=>?_
  refine⟨_,rfl,wpAny_letOwnedTupleGo_enum (s:={s with heap:=h',toks:=s.toks+1}) o1 fun h2 q1 q2=>?_⟩;have Q9:h2.get? s.heap.objs.size=some {cls:=Value.type "tuple",data:=Data.seq #[Value.int (↑i) s.toks,u]}:=by
   exact(q2.2 _ (Nat.ne_of_gt (Λ s1))).trans o3
  have hT:i8 X pins H s.heap.objs.size:=I.xN Ξ (I.cC.fresh Ξ);have I1:Inv X pins σ (upd H s.heap.objs.size (.tup [.int i,x])) {s with heap:=h2,toks:=s.toks+1}:=by
   refine I.GB hf hT (fun b o hb q=>?_) ⟨by simp[sizeLine],[Value.int (↑i) s.toks,u], .cons ⟨_,rfl⟩ (.cons ru .nil),?_⟩
   ·have b1:b≠e:=fun z=>hb (by simp[z])
    have b2:b≠it:=fun z=>hb (by simp[z])
    exact(q2.2 b b1).trans (o5 b o b1 b2 q)
   ·exact⟨_,Q9,rfl,_,rfl⟩
  refine⟨.ref s.heap.objs.size,_,I1,rfl,⟨_,x,rfl,hT.1,rfl,fun ys hy=>by rw[I.Cq hy hq];exact hx⟩,⟨⟨u,by simpa using q1⟩,o2.at fun o q=>(q2.2 it (Ne.symm gO)).trans q⟩,fun b hb=>?_⟩;rw[aj (fun z=>?_)]
  ·exact(hf b hb).1
  ·have h1:=Heap.lt_size s1;obtain⟨_,h2,_⟩:=s2;have h3:=Λ h2;rcases List.mem_cons.mp hb with y|y
   ·rw[z.symm.trans y]at h1;exact absurd h1 (Nat.lt_irrefl _)
   ·have:b=it:=by simpa using y
    rw[z.symm.trans this]at h3;exact absurd h3 (Nat.lt_irrefl _)
 done:=by
  intro X hP hw hK hc i pins s σ H E I hf st hg;subst hP hw hK;obtain⟨xs,hq,hx⟩:=hg;obtain⟨⟨old,s1⟩,s2⟩:=st;obtain⟨its,rv,p,hz⟩:=I.list hq;have hl:=rv.length;exact wpAny_pyNext_enum_end (I.ok.hd hc) s1 s2 p.isList (by simp;lia) fun h' eb=>⟨rfl,I.Ms (t':=s.toks) hf (fun b o hb q=>eb b o (fun z=>hb (by simp[z])) q)⟩
 self:=fun _ _ _ _ _ st h=>wpAny_pyIter_enum st.1.choose_spec h
section
variable{X:Cx}{tg:Expr}
def NN(K:Frag)(ta:TA):TI:=fun σ H R=>ta σ H fun vs H1=>∃a,vs=[.ref a]∧(∃xs,jT K H1 a xs)∧R (Rg K a) H1
theorem Mt{elts:List Expr}{n:Nat}{tp:Pos}{a:Expr}{ta:TA}{p pos:Pos}(hg:Gl X "enumerate")(hm:X.mg "enumerate"=none)(ha:PA X [a] ta)(hs:starEach [a] X.env=[(false,eval a X.env)]:=by rfl):
  PI X (.Tuple elts n tp) (.Call (.Name "enumerate" p) [a] [] pos) (NN X.K ta):=by
 intro pins s σ H R I h;refine Call_ (mY I hg hm boot_enumerate (PyProof.Rows.callWith_type1 (cY (ha pos pins s σ H _ I h) fun us s1 ⟨vs,H1,I1,r1,q1⟩=>?_) hs rfl));obtain⟨l,e,⟨xs,hq⟩,q⟩:=q1;subst e;cases r1 with
 |cons r rr=>
  cases rr;cases r;obtain⟨its,rv,p,hz⟩:=I1.list hq;refine call_enumerate_list p.isList fun h' o1 o2 o3 o4=>?_
  refine wpAny_pyIter_enum (s:={s1 with heap:=h'}) o1 ?_;refine⟨s1.heap.objs.size+1,[s1.heap.objs.size+1,s1.heap.objs.size],_,_,H1,rfl,I1.kept (t':=s1.toks) o4,HC l _ _ (Nat.succ_ne_self _),⟨⟨_,o1⟩,o2⟩,fun b hb=>?_,q⟩;have Rh:s1.heap.objs.size≤b:=by
   rcases List.mem_cons.mp hb with y|y
   ·rw[y];exact Nat.le_succ _
   ·have:b=s1.heap.objs.size:=by simpa using y
    exact Nat.le_of_eq this.symm
  exact I1.xN Rh (I1.cC.fresh Rh)
end
theorem qh{X:Cx}(K:Frag){elts:List Expr}{n:Nat}{tp:Pos}{a:Expr}{ta:TA}{p pos:Pos}(hg:Gl X "enumerate")(hm:X.mg "enumerate"=none)(ha:PA X [a] ta)(hs:starEach [a] X.env=[(false,eval a X.env)]:=by rfl)(h:X.K=K:=by rfl):
  PI X (.Tuple elts n tp) (.Call (.Name "enumerate" p) [a] [] pos) (NN K ta):=h▸Mt hg hm ha hs
theorem CK{K:Frag}{a:Addr}{xs:List V}{g:TG}{tb:TS}{D:Ends}{σ:St}{H:Hp}(Pv:Nat→St→Hp→Prop)(h0:Pv 0 σ H)(hl:∀i σ H,i≤xs.length→Pv i σ H→jT K H a xs)
  (hs:∀i x T σ H,xs[i]?=some x→Pv i σ H→H T=none→g (.ref T) σ (upd H T (.tup [.int i,x])) fun gh H2=>tb {D with nx:=Pv (i+1),ct:=Pv (i+1),bk:=D.nx} gh H2) (hd:∀σ H,Pv xs.length σ H→D.nx σ H):
  ∃W:Nat→Nat→St→Hp→Prop,(∃m,W 0 m σ H)∧∀i m σ H,W i m σ H→
   ((Rg K a).stop i H∧D.nx σ H)∨((Rg K a).go i H∧∃N:St→Hp→Prop,(∀bG H',N bG H'→∃m',m'<m∧W (i+1) m' bG H')∧∀x H',(Rg K a).Lo i H x H'→g x σ H' fun gh H2=>tb {D with nx:=N,ct:=N,bk:=D.nx} gh H2):=by
 refine⟨fun i m σ H=>m=xs.length-i∧i≤xs.length∧Pv i σ H,⟨xs.length,Xx,Nat.zero_le _,h0⟩,?_⟩;rintro i m σ H ⟨rfl,hi,p⟩;have hq:=hl i σ H hi p;by_cases jv:i<xs.length
 ·refine .inr ⟨⟨xs,xs[i],hq,by simp[jv]⟩,Pv (i+1),fun bG H' p'=>⟨xs.length-(i+1),by lia,rfl,jv,p'⟩,fun x H' y=>?_⟩;obtain⟨T,y,rfl,hT,rfl,hy⟩:=y;exact hs i y T σ H (hy xs hq) p hT
 ·have e:i=xs.length:=by lia
  subst e;exact .inl ⟨⟨xs,hq,Nat.le_refl _⟩,hd σ H p⟩
def NF(fC:Hp)(d:Addr):Prop:=∀o v,fC d≠some (.ve o v)
section
variable{X:Cx}{tg:Expr}
end
end L2
namespace QF
open PySem L2
inductive EH(vs:List V)(H:Hp)(Q:VK)(u3:XK):Prop
 |mk (a b:Addr) (is:List Int) (_:vs=[.ref a, .ref b]) (_:H a=some (.lst (is.map V.int))) (_:H b=some (.lst (is.map V.int))) (_:is.length≤10000) (_:Q (.bl true) H):EH vs H Q u3
inductive vT(vs:List V)(H:Hp)(Q:VK)(u3:XK):Prop
 |mk (a b:Addr) (ws:List Str) (_:vs=[.ref a, .ref b]) (_:H a=some (.lst (ws.map V.str))) (_:H b=some (.lst (ws.map V.str))) (_:ws.length≤1000) (_:Q (.bl true) H):vT vs H Q u3
end QF
namespace L2
open PySem PySem.Spec PyProof.Rows PySem.W PySem.Calls
section
variable{X:Cx}
theorem Mu(K:Frag){T:String}{name:Str}{id:String}{r:V→List V→Hp→VK→Prop}{o:Expr}{apos fg:Pos}{to:TE}(pa:PlainAttrs T)(slot:Slot T name id)(Jd:typeOf (.builtin id)=pure (.type "method_descriptor"))(hm:Vx X id r)(ho:PE X o to)
  (p9:attributeBase o name X.env (eval o X.env)=eval o X.env:=by rfl) (m9:(apos.endLine==fg.line)=true:=by rfl) (hK:X.K=K:=by rfl):PE X (.Call (.Attribute o name apos) [] [] fg) (SA K T r to):=hK▸Ph pa slot Jd hm ho p9 m9
def o_(c n:Nat):Str:=⟨(List.replicate n c).toArray⟩
theorem HE(c:Nat):∀n:Nat,List.foldl (fun x1 x2=>x1++x2) #[] (List.replicate n #[c])=(List.replicate n c).toArray:=fun n=>by
 have g:∀(n:Nat)(acc:Array Nat),List.foldl (fun x1 x2=>x1++x2) acc (List.replicate n #[c])=acc++(List.replicate n c).toArray:=by
  intro n
  induction n with
  |zero=>intro acc;simp
  |succ n ih=>
   intro acc;rw[List.replicate_succ,List.foldl_cons,ih,List.replicate_succ];apply Array.toList_inj.mp;simp
 rw[g];simp
theorem um:rX X (binaryOp .Mult) (fun x y H Q=>∃(c:Nat)(n:Int),x= .str ⟨#[c]⟩∧y= .int n∧0≤n∧n≤100000∧Q (.str (o_ c n.toNat)) H):=by
 intro pins s σ H x y v u Q I rx ry h;obtain⟨c,n,rfl,rfl,h1,h2,q⟩:=h;obtain⟨t,rfl⟩:=rx;obtain⟨t',rfl⟩:=ry;have m9:100000≤sizeLine:=QY;have hl:(⟨#[c]⟩:Str).length=1:=rfl;refine P.mul_str ?_ (fun _ _=>?_) (fun _ _=>?_) ?_
 ·have a1:¬n< -(2^63:Int):=by lia
  have a2:¬n≥2^63:=by lia
  rw[decide_eq_false a1,decide_eq_false a2];rfl
 ·rename_i hn _
  have hz:(1:Int)*n≤2^63-1:=by lia
  have:=Int.le_ediv_of_mul_le (by lia:0<n) hz;rw[hl]
  lia
 ·show decide ((⟨#[c]⟩:Str).length*n.toNat>sizeLine)=false;rw[hl];exact decide_eq_false Nz
 ·by_cases e0:n<1
  ·rw[VH e0];have:n=0:=by lia
   subst this;exact⟨QY, .str Str.empty,H,I.tok _,⟨_,rfl⟩,q⟩
  ·rw[M9 e0];by_cases e1:n=1
   ·subst e1;rw[if_pos (OB)];exact⟨.str ⟨#[c]⟩,H,I,⟨_,rfl⟩,q⟩
   ·rw[M9 (by rw[hl];simp;exact e1)];rw[HE];refine⟨?_, .str (o_ c n.toNat),H,I.tok _,⟨_,rfl⟩,q⟩;show(List.replicate n.toNat c).toArray.size≤sizeLine;simp;lia
end
end L2
namespace QF
open PySem L2
def Xd(c:Nat):Bool:=decide (65≤c)&&decide (c≤90)
def conv(c:Nat):Nat:=if low c=true then c else if Xd c=true then c+32 else 32
abbrev great:Str:=Str.ofString "ABCDEFGHIJKLMNOPQRSTUVWXYZ"
def rd(st:KWd.St)(cs:List Nat):KWd.St:=(cs.map conv).foldl KWd.step st
abbrev both:Str:=Str.ofString "abcdefghijklmnopqrstuvwxyzABCDEFGHIJKLMNOPQRSTUVWXYZ"
abbrev marks:Str:=Str.ofString " .,-'0123456789!?()[]{}@`_~/:;<=>#$&*+|^\\\""
end QF
namespace L2
open PySem PySem.Spec PyProof.Rows PySem.W PySem.Calls
section
variable{X:Cx}
def EqF(xs ys:List V)(f:Nat→Bool):Prop:=∀(j:Nat)(x y:V),xs[j]?=some x→ys[j]?=some y→(f_ x=true∧f_ y=true∧f j=kO x y)∨(∃a,x= .ref a∧y= .ref a∧f j=true)
theorem PV{A:Around}{s:Shared}{xs ys:List V}{its kP:List Value}{f:Nat→Bool}(r:Vals xs its)(r2:Vals ys kP)(h:EqF xs ys f):
  ∀j (h1:j<its.toArray.size) (h2:j<kP.toArray.size),SeqAt.EqAt A s its.toArray[j] kP.toArray[j] (f j):=fun j h1 h2=>by
 have Ri:j<xs.length:=by have:=r.length;simp at h1;lia
 have NO:j<ys.length:=by have:=r2.length;simp at h2;lia
 obtain⟨a1,e1,q1⟩:=r.get (i:=j) (x:=xs[j]) (by simp[Ri]);obtain⟨a2,e2,q2⟩:=r2.get (i:=j) (x:=ys[j]) (by simp[NO]);have g1:its.toArray[j]=a1:=by simpa[List.getElem?_eq_some_iff]using(Η e1).2
 have g2:kP.toArray[j]=a2:=by simpa[List.getElem?_eq_some_iff]using(Η e2).2
 rw[g1,g2];rcases h j xs[j] ys[j] (by simp[Ri]) (by simp[NO])with⟨f1,f2,ef⟩|⟨a,ex,ey,ef⟩
 ·rw[ef];exact sd q1 q2 f1 f2
 ·rw[ef];rw[ex]at q1;rw[ey]at q2;cases q1;cases q2;exact SeqAt.EqAt.same _
end
section
variable{X:Cx}
end
end L2
namespace QF
open PySem L2
abbrev Pr:=Int×Int
def mU(p:Pr):List V:=[.int p.1, .int p.2]
def iX(H:Hp)(vs:List V)(ps:List Pr):Prop:=vs.length=ps.length∧∀(i:Nat)(p:Pr),ps[i]?=some p→∃t,vs[i]?=some (V.ref t)∧H t=some (.tup (mU p))
theorem iX.nil{H:Hp}:iX H [] []:=⟨rfl,fun i f e=>by simp at e⟩
theorem iX.cO{H H':Hp}{xs:List V}{fs:List Pr}(T:iX H xs fs)(k:fD H H'):iX H' xs fs:=⟨T.1,fun i f e=>let ⟨b,h1,h2⟩:=T.2 i f e;⟨b,h1,k _ _ h2⟩⟩
theorem iX.same{H H':Hp}{xs:List V}{fs:List Pr}(t:iX H xs fs)(s:av H H'):iX H' xs fs:=t.cO (fD.same s)
theorem iX.append{H:Hp}{xs ys:List V}{fs gs:List Pr}(T:iX H xs fs)(U:iX H ys gs):iX H (xs++ys) (fs++gs):=by
 refine⟨by simp[T.1,U.1],fun i p e=>?_⟩;by_cases h:i<fs.length
 ·rw[ζ h]at e;obtain⟨b,h1,h2⟩:=T.2 i p e;exact⟨b,by rw[ζ (by rw[T.1];exact h)];exact h1,h2⟩
 ·rw[θ Nz]at e;obtain⟨b,h1,h2⟩:=U.2 _ p e;exact⟨b,by rw[θ (by rw[T.1];lia),T.1];exact h1,h2⟩
theorem iX.one{H:Hp}{t:Addr}{p:Pr}(ht:H t=some (.tup (mU p))):iX H [.ref t] [p]:=by
 refine⟨rfl,fun i q e=>?_⟩
 match i,e with
 |0,e=>cases e;exact⟨t,rfl,ht⟩
 |i+1,e=>simp at e
def pr(ps:List Pr)(k:Nat):Pr:=ps.getD k (0,0)
theorem NP{ps:List Pr}{k:Nat}(h:k<ps.length):ps[k]?=some (pr ps k):=by
 simp[pr,h]
theorem iX.Zy{H:Hp}{xs:List V}{ps:List Pr}(T:iX H xs ps){k:Nat}(h:k<ps.length):∃t,xs[k]?=some (V.ref t)∧H t=some (.tup [.int (pr ps k).1, .int (pr ps k).2]):=T.2 k _ (NP h)
theorem Mv{ps:List Pr}{p:Pr}:pr (ps++[p]) ps.length=p:=by
 simp[pr,List.getD_eq_getElem?_getD]
structure Case where
 xs:List Str
 ys:List Str
 same:Int
 out:Int
 into:Int
 least:Int
 fs:List Form
def wd(xs:List Str)(i:Int):Option Str:=if 0≤i then xs[i.toNat]? else none
theorem Ad{xs:List Str}{i:Nat}:wd xs (i:Int)=xs[i]?:=by simp[wd]
theorem GC{xs:List Str}{i:Int}{x:Str}(h:wd xs i=some x):0≤i∧i<(xs.length:Int):=by
 unfold wd at h;split at h
 ·have:=(Η h).1
  lia
 ·cases h
def Case.pw(c:Case)(p:Pr):Option Int:=(wd c.xs p.1).bind fun x=>(wd c.ys p.2).bind fun y=>nk c.same c.fs x y
theorem Case.pw_of{c:Case}{p:Pr}{x y:Str}(h1:wd c.xs p.1=some x)(h2:wd c.ys p.2=some y):c.pw p=nk c.same c.fs x y:=by simp[Case.pw,h1,h2]
theorem Case.pw_in{c:Case}{p:Pr}{w:Int}(h:c.pw p=some w):(0≤p.1∧p.1<(c.xs.length:Int))∧(0≤p.2∧p.2<(c.ys.length:Int)):=by
 unfold Case.pw at h;cases e1:wd c.xs p.1 with
 |none=>rw[e1]at h;cases h
 |some x=>
  cases e2:wd c.ys p.2 with
  |none=>rw[e1,e2]at h;cases h
  |some y=>exact⟨GC e1,GC e2⟩
theorem Case.pw_out{c:Case}{p:Pr}(h:¬((0≤p.1∧p.1<(c.xs.length:Int))∧(0≤p.2∧p.2<(c.ys.length:Int)))):c.pw p=none:=by
 cases e:c.pw p with
 |none=>rfl
 |some w=>exact absurd (c.pw_in e) h
def uC(H:Hp)(CT t:Addr)(c:Case):Prop:=∃n dx l d vs,lT H CT t n c.fs dx l d vs∧n.same=c.same∧n.out=c.out∧n.into=c.into∧n.least=c.least
theorem uC.keep{H H':Hp}{CT t:Addr}{c:Case}(T:uC H CT t c)(s:av H H'):uC H' CT t c:=by
 obtain⟨n,dx,l,d,vs,T,r⟩:=T;exact⟨n,dx,l,d,vs,T.same s,r⟩
end QF
namespace L2
open PySem PySem.Spec PyProof.Rows PySem.W PySem.Calls
section
variable{pg:Program}{wd:World}{Ar:Around}{Rs:Result→Shared→Prop}{it:Addr}{fp wr:List Addr}{n:Nat}{Pv:Nat→Value→Prop}{Sv:Nat→Heap→Prop}
def Ae:(toString "max"++toString ".loop":String)="max.loop":=QY
theorem HH(Wk:Walks pg wd Ar.in1 it fp wr n Pv Sv)(bt:Nat→Nat→Bool)(cmp:CmpOf pg wd Ar.in1 .Gt Pv bt)(B:Addr)(nb:B∉fp)(dv:Value):
  ∀(k j:Nat)(st:Shared)(old:List Value)(c:Nat),n-j=k→j≤n→Sv j st.heap→((j=0∧old=[])∨∃vb,0<j∧old=[vb,vb]∧Pv (argBest bt (j-1)) vb)→
  st.heap.get? B=some {cls:= .type "list",dict:=none,data:= .seq old.toArray c,slots:=#[]}→
  (∀v h' tk,((n=0∧v=dv)∨(0<n∧Pv (argBest bt (n-1)) v))→(∀b o,b∉wr→b≠B→st.heap.get? b=some o→h'.get? b=some o)→Rs (.ok (.ret v)) {st with heap:=h',toks:=tk})→
  codeAny (model pg wd) Ar (.builtin "max.loop" ⟨[.ref it, .none, .ref B],[("default",dv)]⟩) Rs st:=by
 have nw:B∉wr:=fun z=>nb (Wk.sub _ z)
 intro k
 induction k with
 |zero=>
  intro j st old c ek lj sv ol eB fin;have ej:j=n:=by lia
  subst ej;refine codeAny_builtin F.entry_max_loop ?_;rw[Around.under_plainId F.plain_max_loop _];show wpAny _ Ar.in1 (seqItems? (.ref B)>>=_) _ _ st;refine wpAny_bind (wpAny_seqItems eB rfl ?_);show wpAny _ Ar.in1 (tryCatch (pyNext (.ref it)) _>>=_) _ _ st;refine wpAny_bind (wpAny_tryCatch (Wk.done st _ _ sv fun h' tk kp=>?_));rcases ol with⟨z0,rfl⟩|⟨vb,z0,rfl,pb⟩
  ·refine wpAny_bind (wpAny_rule (Δ ?_));exact fin dv _ tk (.inl ⟨z0,rfl⟩) fun b o hb _ e=>kp b o hb e
  ·have PX:=kp B _ nw eB;show wpAny _ Ar.in1 (updateSeq B (fun _=>#[])>>=_) _ _ _;refine wpAny_bind ?_;refine wpAny_updateSeq PX rfl (Θ (wpAny_letGo (Δ ?_)));exact fin vb _ tk (.inr ⟨z0,pb⟩) fun b o hb hB e=>(Heap.get?_update_other _ _ (Ne.symm hB)).trans (kp b o hb e)
 |succ k ih=>
  intro j st old c ek lj sv ol eB fin;have lt:j<n:=by lia
  refine codeAny_builtin F.entry_max_loop ?_;rw[Around.under_plainId F.plain_max_loop _];show wpAny _ Ar.in1 (seqItems? (.ref B)>>=_) _ _ st;refine wpAny_bind (wpAny_seqItems eB rfl ?_);show wpAny _ Ar.in1 (tryCatch (pyNext (.ref it)) _>>=_) _ _ st;refine wpAny_bind (wpAny_tryCatch (Wk.item j st _ _ lt sv fun v h' tk pv Xv kp=>?_));have PX:=kp B _ nw eB;have up:∀(g:Array Value→Array Value)(b:Addr),b∈fp→∀o,h'.get? b=some o→(h'.update B (Obj.mapSeq g)).get? b=some o:=fun g b hb o e=>(Heap.get?_update_other _ _ (fun z:B=b=>nb (by rw[z];exact hb))).trans e
  rcases ol with⟨rfl,rfl⟩|⟨vb,z0,rfl,pb⟩
  ·show wpAny _ Ar.in1 (updateSeq B (fun _=>#[v,v])>>=_) _ _ _;refine wpAny_bind ?_;refine wpAny_updateSeq PX rfl ?_;rw[Ae];refine wpAny_pure ⟨plainId_quiet F.plain_max_loop _,ih 1 _ [v,v] _ (by lia) lt (Wk.frame _ _ _ Xv (up _)) (.inr ⟨v,QY,rfl,pv⟩) (Heap.get?_update_self _ PX rfl) fun v' h2 Tr pf Ts=>?_⟩;exact fin v' h2 Tr pf fun b o hb hB e=>Ts b o hb hB ((Heap.get?_update_other _ _ (Ne.symm hB)).trans (kp b o hb e))
  ·obtain⟨i,rfl⟩:∃i,j=i+1:=⟨j-1,by lia⟩
   have pb:Pv (argBest bt i) vb:=pb;show wpAny _ Ar.in1 (tryCatch (holding [v,v] (richCompare .Gt v vb>>=_)) _>>=_) _ _ _;refine wpAny_bind (wpAny_tryCatch (wpAny_holding (Θ (cmp (i+1) (argBest bt i) v vb _ _ _ pv pb ?_))));refine wpAny_bind (wpAny_holding (wpAny_truthy_bool ?_));refine wpAny_bind (wpAny_letGo (Δ ?_));cases hb:bt (i+1) (argBest bt i)with
   |true=>
    simp only[if_true];refine wpAny_bind ?_;refine wpAny_updateSeq PX rfl (Θ (wpAny_letGo ?_));rw[Ae];refine wpAny_pure ⟨plainId_quiet F.plain_max_loop _,ih (i+2) _ [v,v] _ (by lia) lt (Wk.frame _ _ _ Xv (up _)) (.inr ⟨v,by lia,rfl,?_⟩) (Heap.get?_update_self _ PX rfl) fun v' h2 Tr pf Ts=>?_⟩
    ·show Pv (argBest bt (i+1)) v;simp only[argBest,hb,if_true];exact pv
    ·exact fin v' h2 Tr pf fun b o hb hB e=>Ts b o hb hB ((Heap.get?_update_other _ _ (Ne.symm hB)).trans (kp b o hb e))
   |false=>
    simp only[Bool.false_eq_true,if_false];refine wpAny_bind (wpAny_letGo ?_);rw[Ae];refine wpAny_pure ⟨plainId_quiet F.plain_max_loop _,ih (i+2) _ [vb,vb] c (by lia) lt Xv (.inr ⟨vb,by lia,rfl,?_⟩) PX fun v' h2 Tr pf Ts=>?_⟩
    ·show Pv (argBest bt (i+1)) vb;simp only[argBest,hb,Bool.false_eq_true,if_false];exact pb
    ·exact fin v' h2 Tr pf fun b o hb hB e=>Ts b o hb hB (kp b o hb e)
theorem HI(a d:Value):argsOk "max" ⟨[a],[("default",d)]⟩:=by unfold argsOk;kernel_rfl
end
section
variable{X:Cx}
def PY:Option Int→V
 |none=> .cF
 |some i=> .int i
theorem EI{is:List Int}{us:List Value}(r:Vals (is.map V.int) us):us.length=is.length∧∀(j:Nat)(v:Value),us[j]?=some v→∃t,v= .int (is.getD j 0) t:=by
 have hl:=r.length;rw[List.length_map]at hl;refine⟨hl.symm,fun j v e=>?_⟩;have hj:j<is.length:=by have:=(Η e).1;lia
 obtain⟨u,eu,ru⟩:=r.get (i:=j) (x:= .int is[j]) (by simp[hj]);rw[e]at eu;cases eu;obtain⟨t,rfl⟩:=ru;exact⟨t,by simp[hj]⟩
theorem PZ{is:List Int}{k:Nat}(hk:k<is.length)(h:∀j,j<is.length→is.getD j 0≤is.getD k 0):is.max?=some (is.getD k 0):=by
 rw[List.max?_eq_some_iff];refine⟨by simp[hk],fun b hb=>?_⟩;obtain⟨j,hj,rfl⟩:=List.mem_iff_getElem.mp hb;have:=h j hj;simpa[hj]using this
theorem HJ(hc:X.calm=true){pins:List (Addr×Obj)}{s:Shared}{σ:St}{H:Hp}{a:Addr}{is:List Int}{Q:VK}(I:Inv X pins σ H s)(hq:jT X.K H a (is.map V.int))(q:Q (PY is.max?) H):
  wpAny (model X.prog X.w) X.A (call (.builtin "max") [.ref a] [("default", .none)]) (EP X pins σ Q) X.xe s:=by
 obtain⟨its,rv,p,hz⟩:=I.list hq;obtain⟨hl,hv⟩:=EI rv;refine wpAny_call (codeAny_call_builtin F.plain_max F.entry_max ?_);simp only[checkBuiltinCall,F.kind_max];have body:wpAny (model X.prog X.w) X.A.in1 (Builtin.«max» ⟨[.ref a],[("default", .none)]⟩) (fun fin s'=>match fin with
   | .done f=>(match (Except.ok f:Result)with| .ok (.ret v)=>EP X pins σ Q v s'| .ok _=>False| .error e=>X.xe e s')
   | .again c'=>c'.quiet=true∧codeAny (model X.prog X.w) X.A c' (fun r s'=>match r with| .ok (.ret v)=>EP X pins σ Q v s'| .ok _=>False| .error e=>X.xe e s') s') X.xe s:=by
  show wpAny _ X.A.in1 (Builtin.Builtins.bindParams "max" ["key","default"] 0 ⟨[],[("default", .none)]⟩>>=_) _ _ s;refine wpAny_bind (wpAny_of_eq (show Builtin.Builtins.bindParams "max" ["key","default"] 0 ⟨[],[("default", .none)]⟩=pure [none,some .none]from rfl) ?_);refine wpAny_bind (Δ (Θ (wpAny_pyIter_list p.isList ?_)));have gO:a≠s.heap.objs.size:=by
   obtain⟨o,n,e,_⟩:=p;exact Nat.ne_of_lt (Λ e)
  refine wpAny_bind (wpAny_newObj_type ?_);rw[Ae];have eS:(s.heap.push {cls:= .type "list_iterator",data:= .fields #[.ref a, .int 0 0]}).objs.size=s.heap.objs.size+1:=by simp[Heap.push]
  have Wk:=Walks.list (prog:=X.prog) (w:=X.w) (A:=X.A.in1) (show X.A.in1.handled=none from I.ok.hd hc) s.heap.objs.size a gO its.toArray;refine wpAny_pure ⟨plainId_quiet F.plain_max_loop _,HH (pg:=X.prog) (wd:=X.w) Wk _ (CmpOf.ints_gt (fun j=>is.getD j 0) fun j v e=>hv j v (by simpa using e)) (s.heap.push {cls:= .type "list_iterator",data:= .fields #[.ref a, .int 0 0]}).objs.size ?_ .none _ 0 _ [] 0 rfl (Nat.zero_le _) ?_ (.inl ⟨rfl,rfl⟩) ?_ fun v h' tk pf kp=>?_⟩
  ·intro z;simp only[List.mem_cons,List.not_mem_nil,or_false]at z;rw[eS]at z;rcases z with z|z
   ·exact Nat.succ_ne_self _ z
   ·obtain⟨o,n,e,_⟩:=p;have lt:=Λ e;rw[←z]at lt;exact Nat.lt_irrefl _ (Nat.lt_of_succ_lt lt)
  ·exact⟨⟨_,Ο (Heap.get?_push_size _ rfl),rfl,rfl⟩,p.isList.at fun o e=>Ο (Ο e)⟩
  ·exact Heap.get?_push_size _ rfl
  ·have keep:∀b o,s.heap.get? b=some o→h'.get? b=some o:=fun b o e=>by
    have lt:=Λ e;refine kp b o (fun z=>?_) (fun z=>?_) (Ο (Ο e))
    ·have z:b=s.heap.objs.size:=by simpa using z
     rw[z]at lt;exact Nat.lt_irrefl _ lt
    ·rw[z,eS]at lt;exact Nat.lt_irrefl _ (Nat.lt_of_succ_lt lt)
   have sz:its.toArray.size=is.length:=by simp[hl]
   rcases pf with⟨h0,rfl⟩|⟨h0,pf⟩
   ·have:is=[]:=List.length_eq_zero_iff.mp Nz;subst this;exact⟨.cF,H,I.kept (t':=tk) keep,rfl,q⟩
   ·rw[List.getElem?_toArray]at pf;obtain⟨t,rfl⟩:=hv _ v pf;obtain⟨b1,b2⟩:=argBest_gt (fun j=>is.getD j 0) (its.toArray.size-1);have em:=PZ (is:=is) (k:=argBest (fun i j=>decide (is.getD i 0>is.getD j 0)) (its.toArray.size-1)) (by lia) fun j hj=>b2 j Nz
    rw[em]at q;exact⟨.int _,H,I.kept (t':=tk) keep,⟨t,rfl⟩,q⟩
 cases Xw:Manifest.signature? "max" with
 |none=>exact Δ body
 |some sig=>
  have ha:=HI (.ref a) .none;simp only[argsOk,Xw]at ha;have h2:Bind.checkArgs "max" sig ⟨[.ref a],[("default", .none)]⟩=pure ():=ha;show wpAny _ X.A.in1 (Bind.checkArgs "max" sig ⟨[.ref a],[("default", .none)]⟩) _ _ s;rw[h2];exact Δ body
def Tt(K:Frag)(ta:TE):TE:=fun σ H Q=>ta σ H fun x H1=>∃(a:Addr)(is:List Int),x= .ref a∧jT K H1 a (is.map V.int)∧Q (PY is.max?) H1
theorem Mw(K:Frag){e:Expr}{ta:TE}{p pos kp cp:Pos}{j:Nat}(hc:X.calm=true)(hg:Gl X "max")(hm:X.mg "max"=none)(he:PE X e ta)(hs:starEach [e] X.env=[(false,eval e X.env)]:=by rfl)(hK:X.K=K:=by rfl):
  PE X (.Call (.Name "max" p) [e] [⟨some "default", .Constant .none j cp,kp⟩] pos) (Tt K ta):=by
 subst hK;intro pins s σ H Q I h;refine wpAny_Call_Name_kw (mY I hg hm (PyProof.Rows.Boot.«max») ?_ Ε (QY));rw[hs];refine callWith_builtin_kwB (first:=[]) rfl rfl (evalArgs_kwB rfl ?_);refine Calls.spliced_cons ?_;show wpAny _ _ (eval e X.env) _ _ s;refine cY (he pins s σ H _ I h) fun v s1 ⟨x,H1,I1,r1,q1⟩=>Calls.spliced_nil ?_
 obtain⟨a,is,rfl,hq,q⟩:=q1;cases r1;refine kws_cons ?_;refine Constant_none ?_;refine kws_nil ?_;exact HJ hc I1 hq q
def xQ:List V→List V→Bool
 |[],[]=>true
 |x::xs,y::ys=>kO x y&&xQ xs ys
 | _,_=>false
theorem vU:∀(xs ys:List V),((List.range (min xs.length ys.length)).all (fun j=>kO (xs.getD j .cF) (ys.getD j .cF))&&xs.length==ys.length)=xQ xs ys
 |[],[]=>rfl
 |[],y::ys=>by simp[xQ]
 |x::xs,[]=>by simp[xQ]
 |x::xs,y::ys=>by
  have ih:=vU xs ys;simp only[xQ];rw[←ih];have e:min (x::xs).length (y::ys).length=min xs.length ys.length+1:=by simp[Nat.succ_min_succ]
  rw[e,List.range_succ_eq_map,List.all_cons,List.all_map];simp only[List.getD_cons_zero,Function.comp_def,List.getD_cons_succ,List.length_cons,Bool.and_assoc]
  congr 2
  simp
theorem Kr{A:Around}{s:Shared}{xs ys:List V}{its kP:List Value}(r:Vals xs its)(r2:Vals ys kP)(f1:xs.all f_=true)(f2:ys.all f_=true):
  ∀j (h1:j<its.toArray.size) (h2:j<kP.toArray.size),SeqAt.EqAt A s its.toArray[j] kP.toArray[j] ((fun j=>kO (xs.getD j .cF) (ys.getD j .cF)) j):=by
 refine PV r r2 fun j x y hx hy=> .inl ⟨List.all_eq_true.mp f1 x (Ψ hx),List.all_eq_true.mp f2 y (Ψ hy),?_⟩
 simp[List.getD_eq_getElem?_getD,hx,hy]
open Classical in
end
theorem zc{K:Frag}{a:Addr}{xs:List V}{ls:List Str}{js:List Nat}{g:TG}{tt:TT}{te:TE}{σ:St}{H1:Hp}{D:Addr}{Q:VK}(Pv:Nat→List V→St→Hp→Prop)
  (h0:Pv 0 [] (nh ls js σ) (upd H1 D (.lst []))) (hl:∀i ys σ H,i≤xs.length→Pv i ys σ H→jT K H a xs)
  (hs:∀i x T ys σ H,xs[i]?=some x→Pv i ys σ H→H T=none→g (.ref T) σ (upd H T (.tup [.int i,x])) fun gh H3=>tt gh H3 fun b H4=>if b=true then te gh H4 fun y H5=>H5 D=some (.lst ys)∧ys.length<sizeLine∧Pv (i+1) (ys++[y]) gh (upd H5 D (.lst (ys++[y])))else Pv (i+1) ys gh H4)
  (hd:∀ys σ H,Pv xs.length ys σ H→Q (.ref D) H):
  vM (Rg K a) ls js g tt te σ H1 D Q:=
 qf (n:=xs.length) Pv h0 (fun i ys σ H hi p=>⟨xs,xs[i],hl i ys σ H (Nat.le_of_lt hi) p,by simp[hi]⟩) (fun ys σ H p=>⟨xs,hl _ ys σ H Ξ p,Nat.le_refl _⟩)
  (fun i ys σ H x H2 hi p y=>by
   obtain⟨T,z,rfl,hT,rfl,hy⟩:=y;exact hs i z T ys σ H (hy xs (hl i ys σ H (Nat.le_of_lt hi) p)) p hT) hd
end L2
namespace QF
open PySem L2
def gJ(S:Int→Prop):Option Int→Prop
 |none=>∀v,¬S v
 |some m=>S m∧∀v,S v→v≤m
theorem gJ.iff{S T:Int→Prop}{a:Option Int}(ha:gJ S a)(h:∀v,S v↔T v):gJ T a:=by
 cases a with
 |none=>exact fun v hv=>ha v ((h v).mpr hv)
 |some m=>exact⟨(h m).mp ha.1,fun v hv=>ha.2 v ((h v).mpr hv)⟩
def cc:Option Int→Int→Option Int
 |none,_=>none
 |some v,p=>some (v-p)
theorem gJ.less{S:Int→Prop}{a:Option Int}(ha:gJ S a)(p:Int):gJ (fun v=>∃u,S u∧v=u-p) (cc a p):=by
 cases a with
 |none=>exact fun v ⟨u,hu,_⟩=>ha u hu
 |some m=>
  refine⟨⟨m,ha.1,rfl⟩,?_⟩;rintro v ⟨u,hu,rfl⟩;have:=ha.2 u hu
  lia
def qi(l:List (Option Int)):Option Int:=(l.filterMap id).max?
theorem lU(l:List (Option Int)):gJ (fun v=>some v∈l) (qi l):=by
 have key:∀v,v∈l.filterMap id↔some v∈l:=fun v=>by
  rw[List.mem_filterMap];exact⟨fun⟨o,ho,eo⟩=>by have eo:o=some v:=eo;rw[eo]at ho;exact ho,fun h=>⟨some v,h,rfl⟩⟩
 unfold qi;cases e:(l.filterMap id).max? with
 |none=>
  rw[List.max?_eq_none_iff]at e;intro v hv;have:=(key v).mpr hv;rw[e]at this;cases this
 |some m=>
  rw[List.max?_eq_some_iff]at e;exact⟨(key m).mp e.1,fun v hv=>e.2 v ((key v).mpr hv)⟩
theorem gJ.Zz{S T:Int→Prop}{a:Option Int}(ha:gJ S a)(h1:∀v,S v→T v)(h2:∀v,T v→∃u,S u∧v≤u):gJ T a:=by
 cases a with
 |none=>
  intro v hv;obtain⟨u,hu,_⟩:=h2 v hv;exact ha u hu
 |some m=>
  refine⟨h1 m ha.1,fun v hv=>?_⟩;obtain⟨u,hu,hle⟩:=h2 v hv;have:=ha.2 u hu
  lia
theorem CL{S1 S2 S3:Int→Prop}{a b c:Option Int}(h1:gJ S1 a)(h2:gJ S2 b)(h3:gJ S3 c):gJ (fun v=>S1 v∨S2 v∨S3 v) (qi [a,b,c]):=by
 refine(lU [a,b,c]).Zz (fun v hv=>?_) (fun v hv=>?_)
 ·simp only[List.mem_cons,List.not_mem_nil,or_false]at hv;rcases hv with e|e|e
  ·rw[←e]at h1;exact .inl h1.1
  ·rw[←e]at h2;exact .inr (.inl h2.1)
  ·rw[←e]at h3;exact .inr (.inr h3.1)
 ·have one:∀{S:Int→Prop}{o:Option Int},gJ S o→S v→o∈[a,b,c]→∃u,some u∈[a,b,c]∧v≤u:=fun{S o} hm hs ho=>by
   cases o with
   |none=>exact absurd hs (hm v)
   |some m=>exact⟨m,ho,hm.2 v hs⟩
  rcases hv with hs|hs|hs
  ·exact one h1 hs XD
  ·exact one h2 hs XD
  ·exact one h3 hs XD
def GD(ps:List Pr):Pr:=pr ps (ps.length-1)
def NQ(c:Case)(shut:List Pr)(p:Pr):Option Int:=if p∈shut then none else c.pw p
theorem EJ{ps:List Pr}{p:Pr}:GD (ps++[p])=p:=by
 unfold GD;rw[List.length_append];exact Mv
def Mx:Option Int→Option Int→Option Int
 |none,_=>none
 |some w,none=>some w
 |some w,some b=>if b<0 then some w else some (w+b)
def Bq(f:Nat→Nat→Option Int)(o p:Int):Nat→Nat→Option Int
 |0,_=>none
 | _+1,0=>none
 |i+1,j+1=>qi [Mx (f i j) (Bq f o p i j),cc (Bq f o p i (j+1)) o,cc (Bq f o p (i+1) j) p]
termination_by i j=>(i,j)
def dZ(f:Nat→Nat→Option Int)(o p:Int)(i j:Nat):Option Int:=Mx (f i j) (Bq f o p i j)
def jV(c:Case)(shut:List Pr)(i j:Nat):Option Int:=NQ c shut ((i:Int),(j:Int))
theorem My(o:Option Int):PY o=cA o:=by cases o<;>rfl
def gS(H:Hp)(vs:List V)(L:List (List Pr)):Prop:=vs.length=L.length∧∀(k:Nat)(ps:List Pr),L[k]?=some ps→∃a us,vs[k]?=some (V.ref a)∧H a=some (.lst us)∧iX H us ps
def Tu(l:Addr)(vs:List V):Prop:=∀k:Nat,vs[k]?≠some (V.ref l)
theorem gS.nil{H:Hp}:gS H [] []:=⟨rfl,fun k ps e=>by simp at e⟩
theorem gS.same{H H':Hp}{vs:List V}{L:List (List Pr)}(w:gS H vs L)(s:av H H'):gS H' vs L:=⟨w.1,fun k ps e=>let ⟨a,us,h1,h2,h3⟩:=w.2 k ps e;⟨a,us,h1,s _ _ h2,h3.same s⟩⟩
theorem gS.put{H:Hp}{vs:List V}{L:List (List Pr)}{l:Addr}{zs:List V}{o:HO}(w:gS H vs L)(n:Tu l vs)(h:H l=some (.lst zs)):gS (upd H l o) vs L:=⟨w.1,fun k ps e=>by
 obtain⟨a,us,h1,h2,h3⟩:=w.2 k ps e;refine⟨a,us,h1,?_,h3.cO (fD.lst h)⟩;rw[aj (fun z=>n k (by rw[h1,z]))];exact h2⟩
theorem gS.append{H:Hp}{vs ws:List V}{L M:List (List Pr)}(a:gS H vs L)(b:gS H ws M):gS H (vs++ws) (L++M):=by
 refine⟨by simp[a.1,b.1],fun i p e=>?_⟩;by_cases h:i<L.length
 ·rw[ζ h]at e;obtain⟨x,us,h1,h2⟩:=a.2 i p e;exact⟨x,us,by rw[ζ (by rw[a.1];exact h)];exact h1,h2⟩
 ·rw[θ Nz]at e;obtain⟨x,us,h1,h2⟩:=b.2 _ p e;exact⟨x,us,by rw[θ (by rw[a.1];lia),a.1];exact h1,h2⟩
theorem gS.one{H:Hp}{a:Addr}{us:List V}{ps:List Pr}(h:H a=some (.lst us))(P:iX H us ps):gS H [.ref a] [ps]:=by
 refine⟨rfl,fun i q e=>?_⟩
 match i,e with
 |0,e=>cases e;exact⟨a,us,rfl,h,P⟩
 |i+1,e=>simp at e
def dJ(m:Nat)(f:Nat→Option Int):List V:=(List.range m).map fun j=>cA (f j)
theorem dM(m:Nat)(f:Nat→Option Int):(dJ m f).length=m:=by simp[dJ]
theorem dN{m j:Nat}{f:Nat→Option Int}(h:j<m):(dJ m f)[j]?=some (cA (f j)):=by simp[dJ,h]
theorem su(m:Nat)(f:Nat→Option Int):dJ (m+1) f=dJ m f++[cA (f m)]:=by simp[dJ,List.range_succ]
structure jF(H:Hp)(as:List Addr)(f:Nat→Nat→Option Int)(n m:Nat):Prop where
 len:as.length=n
 row:∀(i:Nat)(a:Addr),as[i]?=some a→H a=some (.lst (dJ m (f i)))
theorem jF.same{H H':Hp}{as:List Addr}{f:Nat→Nat→Option Int}{n m:Nat}(t:jF H as f n m)(s:av H H'):jF H' as f n m:=⟨t.len,fun i a e=>s _ _ (t.row i a e)⟩
theorem jF.at{H:Hp}{as:List Addr}{f:Nat→Nat→Option Int}{n m i:Nat}(t:jF H as f n m)(h:i<n):∃a,as[i]?=some a∧(as.map V.ref)[i]?=some (.ref a)∧H a=some (.lst (dJ m (f i))):=by
 have hi:i<as.length:=by rw[t.len];exact h
 refine⟨as[i],by simp[hi],by simp[hi],t.row i _ (by simp[hi])⟩
def Tab(H H':Hp)(e:Addr)(f:Nat→Nat→Option Int)(n m:Nat):Prop:=∃as:List Addr,H' e=some (.lst (as.map V.ref))∧H e=none∧jF H' as f n m∧∀a∈as,H a=none
structure GF(K:W.Frag)(C:Addr):Prop where
 cl:xH K C
 out:bJ K C "out"
 into:bJ K C "into"
 lV:bJ K C "ending"
 j8:bJ K C "brought"
def ik(o p:Int)(e b:Addr):List (Str×V):=[("out", .int o),("into", .int p),("ending", .ref e),("brought", .ref b)]
theorem NR(o p:Int)(e b:Addr):(ik o p e b).lookup ("out":Str)=some (V.int o):=by kernel_rfl
theorem Ks(o p:Int)(e b:Addr):(ik o p e b).lookup ("into":Str)=some (V.int p):=by kernel_rfl
theorem iY(o p:Int)(e b:Addr):(ik o p e b).lookup ("ending":Str)=some (V.ref e):=by kernel_rfl
theorem iA(o p:Int)(e b:Addr):(ik o p e b).lookup ("brought":Str)=some (V.ref b):=by kernel_rfl
theorem Kt(o p:Int)(e b:Addr):(ik o p e b).lookup ("brought_behind":Str)=none:=by kernel_rfl
theorem Tv(o p:Int)(e b:Addr):bq "brought" (.ref b) (bq "ending" (.ref e) (bq "into" (.int p) (bq "out" (.int o) [])))=ik o p e b:=by kernel_rfl
def uD(f g:Nat→Option Int)(o p:Int):Nat→Option Int
 |0=>none
 |j+1=>qi [f j,cc (g (j+1)) o,cc (uD f g o p j) p]
theorem GG(f:Nat→Nat→Option Int)(o p:Int)(i:Nat):∀j,uD (dZ f o p i) (Bq f o p i) o p j=Bq f o p (i+1) j
 |0=>by unfold uD Bq;rfl
 |j+1=>by
  rw[uD,Bq,GG f o p i j];rfl
theorem jm(f:Nat→Nat→Option Int)(o p:Int)(j:Nat):Bq f o p 0 j=none:=by unfold Bq;rfl
inductive nr(vs:List V)(H:Hp)(Q:VK)(u3:XK):Prop
 |mk (a:Addr) (os:List (Option Int)) (_:vs=[.ref a]) (_:H a=some (.lst (os.map cA))) (_:os.length≤1000) (_:∀H',av H H'→Q (cA (qi os)) H'):nr vs H Q u3
inductive Af(vs:List V)(H:Hp)(Q:VK)(u3:XK):Prop
 |mk (o:Option Int) (p:Int) (_:vs=[cA o, .int p]) (_:Q (cA (cc o p)) H):Af vs H Q u3
inductive EK(vs:List V)(H:Hp)(Q:VK)(u3:XK):Prop
 |mk (w b:Option Int) (_:vs=[cA w,cA b]) (_:Q (cA (Mx w b)) H):EK vs H Q u3
inductive sx(C:Addr)(vs:List V)(H:Hp)(Q:VK)(u3:XK):Prop
 |mk (x e a dx te tb:Addr) (o p:Int) (m:Nat) (f g:Nat→Option Int) (_:vs=[.ref x, .ref e, .ref a]) (_:H x=some (.ins C dx (ik o p te tb))) (_:H e=some (.lst (dJ m f))) (_:H a=some (.lst (dJ (m+1) g))) (_:m≤1000) (_:∀H' r,av H H'→H r=none→H' r=some (.lst (dJ (m+1) (uD f g o p)))→Q (.ref r) H'):sx C vs H Q u3
def Ku(H:Hp)(v:V)(shut:List Pr):Prop:=(v= .cF∧shut=[])∨∃l us,v= .ref l∧H l=some (.lst us)∧iX H us shut
def bS(p:Pr):List Key:=[.inl p.1, .inl p.2]
def GH(kvs:List (List Key×V))(shut:List Pr):Prop:=∀p:Pr,(b_ kvs (bS p)).isSome=decide (p∈shut)
inductive Ag(vs:List V)(H:Hp)(Q:VK)(u3:XK):Prop
 |mk (v:V) (shut:List Pr) (_:vs=[v]) (_:Ku H v shut) (_:shut.length≤1000) (_:∀H' d kvs,av H H'→H' d=some (.dT kvs)→GH kvs shut→Q (.ref d) H'):Ag vs H Q u3
theorem iX.last{H:Hp}{xs:List V}{ps:List Pr}(P:iX H xs ps)(gO:ps≠[]):∃t,xI xs (-1)=some (.ref t)∧H t=some (.tup [.int (GD ps).1, .int (GD ps).2]):=by
 have hp:0<ps.length:=List.length_pos_iff.mpr gO;have hl:=P.1;obtain⟨t,h1,h2⟩:=P.Zy (k:=ps.length-1) (by lia);refine⟨t,?_,h2⟩;have e:xs=xs.take (ps.length-1)++[V.ref t]:=by
  apply List.ext_getElem?;intro n;by_cases hn:n<ps.length-1
  ·rw[ζ (by rw[List.length_take];lia),List.getElem?_take,VH hn]
  ·rw[θ (by rw[List.length_take];lia),List.length_take];by_cases B_:n=ps.length-1
   ·subst B_;rw[h1];have:ps.length-1-min (ps.length-1) xs.length=0:=by lia
    rw[this];rfl
   ·rw[List.getElem?_eq_none Nz,List.getElem?_eq_none (by simp;lia)]
 rw[e];exact CD _ _
theorem Mz(p q:Pr):xQ (mU p) (mU q)=decide (p=q):=by
 simp only[mU,xQ,kO,Bool.and_true];rw[Bool.eq_iff_iff];simp[Prod.ext_iff]
theorem Kv{m j:Nat}{f:Nat→Option Int}{u:Option Int}:(dJ m f).set j (cA u)=dJ m (fun k=>if k=j then u else f k):=by
 apply List.ext_getElem?;intro k;by_cases hk:k<m
 ·rw[dN hk];by_cases e:j=k
  ·subst e;rw[List.getElem?_set_self (by rw[dM];exact hk)];simp
  ·rw[List.getElem?_set_ne e,dN hk];have:¬k=j:=fun z=>e z.symm
   simp[this]
 ·rw[List.getElem?_eq_none (by rw[List.length_set,dM];lia),List.getElem?_eq_none (by rw[dM];lia)]
end QF
namespace L2
open PySem PySem.Spec PyProof.Rows PySem.W PySem.Calls
section
variable{X:Cx}{tg:Expr}
end
section
variable{X:Cx}
end
section
variable{X:Cx}
end
end L2
namespace QF
open PySem L2
def aaH(fs:List Form)(x t:Str):Bool:=decide (x=t)||fs.any fun f=>(decide (f.1=x)&&decide (f.2.1=t))||(decide (f.1=t)&&decide (f.2.1=x))
def Tw(fs:List Form)(t:Str):List Str:=[t]++(fs.filter fun f=>decide (f.1=t)).map (·.2.1)++(fs.filter fun f=>decide (f.2.1=t)).map (·.1)
def NU(p:Nat→Bool):Nat→Int
 |0=> -1
 |n+1=>if p n then(n:Int)else NU p n
structure NS where
 ws:List Str
 ts:List Str
 fs:List Form
 span:Nat
def NS.p(c:NS)(t:Str)(i:Nat):Bool:=match c.ws[i]? with
 |some x=>aaH c.fs x t
 |none=>false
def NS.Tx(c:NS)(n:Nat):List Int:=c.ts.map fun t=>NU (c.p t) n
def NS.low(c:NS)(n:Nat):Int:=((c.Tx n).min?).getD (-1)
def NS.at_(c:NS)(h:Nat):Option Pr:=if c.low h<c.low (h+1)∧(h:Int)-c.low (h+1)<c.span then some (c.low (h+1),(h:Int))else none
def NS.told(c:NS)(k:Nat):List Pr:=(List.range k).filterMap c.at_
def NS.holds(c:NS)(l h:Nat):Bool:=c.ts.all fun t=>(((c.ws.map fun x=>decide (x∈Tw c.fs t)).drop l).take (h-l)).any id
def NS.ok(c:NS)(l h:Nat):Bool:=c.holds l (h+1)&&!(c.holds (l+1) (h+1))&&!(c.holds l h)
def NS.row(c:NS)(l k:Nat):List Pr:=(List.range k).filterMap fun d=>if c.ok l (l+d)=true then some ((l:Int),((l+d:Nat):Int))else none
def NS.due(c:NS)(i:Nat):List Pr:=(List.range i).flatMap fun l=>c.row l (min c.ws.length (l+c.span)-l)
end QF
namespace L2
open PySem PySem.Spec PyProof.Rows PySem.W PySem.Calls
section
variable{X:Cx}{tg:Expr}
end
section
variable{pg:Program}{wd:World}{Ar:Around}{sh:Shared}{Rs:Result→Shared→Prop}{it:Addr}{fp wr:List Addr}{Gn:Array GenState→Array GenState→Prop}{n:Nat}{Pv:Nat→Value→Prop}{Sv:Nat→Shared→Prop}
end
section
variable{X:Cx}
end
end L2
namespace QF
open PySem L2
def EL(q p:Pr):Prop:=q.1<p.1∧q.2<p.2
def gp(o i:Int)(q p:Pr):Int:=o*(p.1-q.1-1)+i*(p.2-q.2-1)
structure Wy(g:Pr→Option Int)(ps:List Pr):Prop where
 ne:ps≠[]
 ok:∀p∈ps,(g p).isSome=true
 up:ps.Pairwise EL
def vl(g:Pr→Option Int)(o i:Int):List Pr→Int
 |[]=>0
 |[p]=>(g p).getD 0
 |p::q::r=>(g p).getD 0-gp o i p q+vl g o i (q::r)
def jW(ps:List Pr):Pr:=ps.headD (0,0)
def lstP(ps:List Pr):Pr:=ps.getLastD (0,0)
theorem fe{ps:List Pr}{p:Pr}:lstP (ps++[p])=p:=by simp[lstP]
theorem Ah(g:Pr→Option Int)(o i:Int)(q:Pr)(bs:List Pr):∀(as:List Pr),vl g o i (as++q::bs)=vl g o i (as++[q])+vl g o i (q::bs)-(g q).getD 0
 |[]=>by simp only[List.nil_append,vl];lia
 |[a]=>by
  simp only[List.cons_append,List.nil_append,vl]
  lia
 |a::b::r=>by
  have ih:=Ah g o i q bs (b::r);simp only[List.cons_append]at ih⊢;simp only[vl];rw[ih]
  lia
theorem vn(g:Pr→Option Int)(o i:Int){ps:List Pr}(gO:ps≠[])(p:Pr):vl g o i (ps++[p])=(g p).getD 0+vl g o i ps-gp o i (lstP ps) p:=by
 obtain⟨qs,q,rfl⟩:∃qs q,ps=qs++[q]:=⟨ps.dropLast,ps.getLast gO,(List.dropLast_concat_getLast gO).symm⟩
 rw[fe,List.append_assoc];have:=Ah g o i q [p] qs;simp only[List.singleton_append]at this⊢;rw[this];simp only[vl]
 lia
theorem Wy.one{g:Pr→Option Int}{p:Pr}(h:(g p).isSome=true):Wy g [p]:=by
 refine⟨Xx,fun q hq=>?_,Xx⟩;have e:q=p:=by simpa using hq
 rw[e];exact h
theorem sC{a b c:Pr}(h1:EL a b)(h2:EL b c):EL a c:=⟨Int.lt_trans h1.1 h2.1,Int.lt_trans h1.2 h2.2⟩
theorem pw_lst{ps:List Pr}(h:ps.Pairwise EL){q:Pr}(hq:q∈ps):q=lstP ps∨EL q (lstP ps):=by
 have gO:ps≠[]:=fun z=>by rw[z]at hq;cases hq
 obtain⟨qs,x,rfl⟩:∃qs x,ps=qs++[x]:=⟨ps.dropLast,ps.getLast gO,(List.dropLast_concat_getLast gO).symm⟩
 rw[fe];rcases List.mem_append.mp hq with hq|hq
 ·exact .inr ((List.pairwise_append.mp h).2.2 q hq x (Xx))
 ·exact .inl (by simpa using hq)
theorem Wy.snoc{g:Pr→Option Int}{ps:List Pr}{p:Pr}(w:Wy g ps)(h:(g p).isSome=true)(s:EL (lstP ps) p):Wy g (ps++[p]):=by
 refine⟨Xx,fun q hq=>?_,List.pairwise_append.mpr ⟨w.up,Xx,fun a ha b hb=>?_⟩⟩
 ·rcases List.mem_append.mp hq with hq|hq
  ·exact w.ok q hq
  ·have:q=p:=by simpa using hq
   rw[this];exact h
 ·have:b=p:=by simpa using hb
  rw[this];rcases pw_lst w.up ha with e|e
  ·rw[e];exact s
  ·exact sC e s
theorem Wy.split{g:Pr→Option Int}{ps:List Pr}(w:Wy g ps):∃qs,ps=qs++[lstP ps]∧(∃v,g (lstP ps)=some v)∧(qs=[]∨(Wy g qs∧EL (lstP qs) (lstP ps))):=by
 obtain⟨qs,x,rfl⟩:∃qs x,ps=qs++[x]:=⟨ps.dropLast,ps.getLast w.ne,(List.dropLast_concat_getLast w.ne).symm⟩
 rw[fe];refine⟨qs,rfl,Option.isSome_iff_exists.mp (w.ok x (Xx)),?_⟩;by_cases e:qs=[]
 ·exact .inl e
 ·have h:=List.pairwise_append.mp w.up;refine .inr ⟨⟨e,fun q hq=>w.ok q (List.mem_append_left _ hq),h.1⟩,h.2.2 _ ?_ x (Xx)⟩;obtain⟨rs,y,rfl⟩:∃rs y,qs=rs++[y]:=⟨qs.dropLast,qs.getLast e,(List.dropLast_concat_getLast e).symm⟩
  rw[fe];simp
theorem dO{ps:List Pr}(h:ps≠[]):lstP ps∈ps:=by
 obtain⟨rs,y,rfl⟩:∃rs y,ps=rs++[y]:=⟨ps.dropLast,ps.getLast h,(List.dropLast_concat_getLast h).symm⟩
 rw[fe];simp
def lf(f:Nat→Nat→Option Int)(p:Pr):Option Int:=if 0≤p.1∧0≤p.2 then f p.1.toNat p.2.toNat else none
theorem sD(f:Nat→Nat→Option Int)(i j:Nat):lf f ((i:Int),(j:Int))=f i j:=by simp[lf]
theorem GI{f:Nat→Nat→Option Int}{p:Pr}(h:(lf f p).isSome=true):∃i j:Nat,p=((i:Int),(j:Int)):=by
 unfold lf at h;split at h
 ·rename_i hh
  exact⟨p.1.toNat,p.2.toNat,Prod.ext (by simp;lia) (by simp;lia)⟩
 ·cases h
def VI(f:Nat→Nat→Option Int)(o p:Int)(i j:Nat)(v:Int):Prop:=∃ps,Wy (lf f) ps∧(lstP ps).1<(i:Int)∧(lstP ps).2<(j:Int)∧v=vl (lf f) o p ps-(o*((i:Int)-1-(lstP ps).1)+p*((j:Int)-1-(lstP ps).2))
def VJ(f:Nat→Nat→Option Int)(o p:Int)(q:Pr)(v:Int):Prop:=∃ps,Wy (lf f) ps∧lstP ps=q∧v=vl (lf f) o p ps
theorem GJ{f:Nat→Nat→Option Int}{o p:Int}{i j:Nat}{b:Option Int}(h:gJ (VI f o p i j) b):gJ (VJ f o p ((i:Int),(j:Int))) (Mx (f i j) b):=by
 cases e:f i j with
 |none=>
  rintro v ⟨ps,w,el,rfl⟩;obtain⟨qs,_,⟨x,hx⟩,_⟩:=w.split;rw[el,sD,e]at hx;cases hx
 |some x=>
  have eg:lf f ((i:Int),(j:Int))=some x:=by rw[sD];exact e
  have EM:∀ps,Wy (lf f) ps→lstP ps=((i:Int),(j:Int))→vl (lf f) o p ps=x∨∃v,VI f o p i j v∧vl (lf f) o p ps=x+v:=fun ps w el=>by
   obtain⟨qs,eq,_,hq⟩:=w.split;rw[el]at eq hq;rcases hq with rfl|⟨wq,st⟩
   ·left
    rw[eq];simp[vl,eg]
   ·right
    refine⟨_,⟨qs,wq,st.1,st.2,rfl⟩,?_⟩;rw[eq,vn _ _ _ wq.ne,eg];simp only[gp,Option.getD_some];have e1:(i:Int)-(lstP qs).1-1=(i:Int)-1-(lstP qs).1:=by lia
    have e2:(j:Int)-(lstP qs).2-1=(j:Int)-1-(lstP qs).2:=by lia
    rw[e1,e2]
    lia
  have alone:VJ f o p ((i:Int),(j:Int)) x:=⟨[((i:Int),(j:Int))], .one (by rw[eg];rfl),rfl,by simp[vl,eg]⟩
  have more:∀v,VI f o p i j v→VJ f o p ((i:Int),(j:Int)) (x+v):=by
   rintro v ⟨ps,w,l1,l2,rfl⟩;refine⟨ps++[((i:Int),(j:Int))],w.snoc (by rw[eg];rfl) ⟨l1,l2⟩,fe,?_⟩;rw[vn _ _ _ w.ne,eg];simp only[gp,Option.getD_some];have e1:(i:Int)-(lstP ps).1-1=(i:Int)-1-(lstP ps).1:=by lia
   have e2:(j:Int)-(lstP ps).2-1=(j:Int)-1-(lstP ps).2:=by lia
   rw[e1,e2]
   lia
  cases b with
  |none=>
   refine⟨alone,?_⟩;rintro v ⟨ps,w,el,rfl⟩;rcases EM ps w el with h1|⟨u,hu,_⟩
   ·lia
   ·exact absurd hu (h u)
  |some m=>
   simp only[Mx];split
   ·refine⟨alone,?_⟩;rintro v ⟨ps,w,el,rfl⟩;rcases EM ps w el with h1|⟨u,hu,h2⟩
    ·lia
    ·have:=h.2 u hu
     lia
   ·refine⟨more m h.1,?_⟩;rintro v ⟨ps,w,el,rfl⟩;rcases EM ps w el with h1|⟨u,hu,h2⟩
    ·lia
    ·have:=h.2 u hu
     lia
theorem CM{f:Nat→Nat→Option Int}{ps:List Pr}(w:Wy (lf f) ps):0≤(lstP ps).1∧0≤(lstP ps).2:=by
 obtain⟨a,b,e⟩:=GI (w.ok _ (dO w.ne));rw[e];simp
theorem gK(f:Nat→Nat→Option Int)(o p:Int):∀i j:Nat,gJ (VI f o p i j) (Bq f o p i j)
 |0,j=>by
  unfold Bq;rintro v ⟨ps,w,l1,_⟩;have:=CM w;simp at l1
  lia
 |i+1,0=>by
  unfold Bq;rintro v ⟨ps,w,_,l2,_⟩;have:=CM w;simp at l2
  lia
 |i+1,j+1=>by
  rw[Bq];refine(CL (GJ (gK f o p i j)) ((gK f o p i (j+1)).less o) ((gK f o p (i+1) j).less p)).iff fun v=>?_
  constructor
  ·rintro(⟨ps,w,el,rfl⟩|⟨u,⟨ps,w,l1,l2,rfl⟩,rfl⟩|⟨u,⟨ps,w,l1,l2,rfl⟩,rfl⟩)
   ·refine⟨ps,w,by rw[el];simp;lia,by rw[el];simp;lia,?_⟩;rw[el];have e1:((i+1:Nat):Int)-1-(i:Int)=0:=by lia
    have e2:((j+1:Nat):Int)-1-(j:Int)=0:=by lia
    simp only[e1,e2,Int.mul_zero]
    lia
   ·refine⟨ps,w,by lia,by lia,?_⟩;have e1:((i+1:Nat):Int)-1-(lstP ps).1=((i:Int)-1-(lstP ps).1)+1:=by lia
    rw[e1,Int.mul_add]
    lia
   ·refine⟨ps,w,by lia,by lia,?_⟩;have e1:((j+1:Nat):Int)-1-(lstP ps).2=((j:Int)-1-(lstP ps).2)+1:=by lia
    rw[e1,Int.mul_add]
    lia
  ·rintro⟨ps,w,l1,l2,rfl⟩;by_cases h1:(lstP ps).1<(i:Int)
   ·right;left
    refine⟨_,⟨ps,w,h1,l2,rfl⟩,?_⟩;have e1:((i+1:Nat):Int)-1-(lstP ps).1=((i:Int)-1-(lstP ps).1)+1:=by lia
    rw[e1,Int.mul_add]
    lia
   ·by_cases h2:(lstP ps).2<(j:Int)
    ·right;right
     refine⟨_,⟨ps,w,l1,h2,rfl⟩,?_⟩;have e1:((j+1:Nat):Int)-1-(lstP ps).2=((j:Int)-1-(lstP ps).2)+1:=by lia
     rw[e1,Int.mul_add]
     lia
    ·left
     have a1:(lstP ps).1=(i:Int):=by lia
     have a2:(lstP ps).2=(j:Int):=by lia
     refine⟨ps,w,Prod.ext a1 a2,?_⟩;have e1:((i+1:Nat):Int)-1-(lstP ps).1=0:=by lia
     have e2:((j+1:Nat):Int)-1-(lstP ps).2=0:=by lia
     simp only[e1,e2,Int.mul_zero]
     lia
termination_by i j=>(i,j)
theorem vV(f:Nat→Nat→Option Int)(o p:Int)(i j:Nat):gJ (VJ f o p ((i:Int),(j:Int))) (dZ f o p i j):=GJ (gK f o p i j)
def fr(f:Nat→Nat→Option Int)(n m:Nat)(a b:Nat):Option Int:=if a<n∧b<m then f (n-1-a) (m-1-b)else none
def Jf(f:Nat→Nat→Option Int)(n m:Nat):Prop:=∀i j,(f i j).isSome=true→i<n∧j<m
theorem EO(c:Case)(shut:List Pr)(p:Pr):lf (jV c shut) p=NQ c shut p:=by
 unfold lf;split
 ·rename_i h
  unfold jV
  congr 1
  exact Prod.ext (by simp;lia) (by simp;lia)
 ·rename_i h
  unfold NQ;split
  ·rfl
  ·exact(c.pw_out Nz).symm
theorem P6(c:Case)(shut:List Pr):Jf (jV c shut) c.xs.length c.ys.length:=fun i j h=>by
 unfold jV NQ at h;split at h
 ·cases h
 ·obtain⟨w,hw⟩:=Option.isSome_iff_exists.mp h;have:=c.pw_in hw;simp at this
  lia
end QF
namespace L2
open PySem PySem.Spec PyProof.Rows PySem.W PySem.Calls
section
variable{X:Cx}
open Classical in
end
end L2
namespace QF
open PySem L2
theorem iX.first{H:Hp}{xs:List V}{ps:List Pr}(P:iX H xs ps)(gO:ps≠[]):∃t,xI xs 0=some (.ref t)∧H t=some (.tup [.int (jW ps).1, .int (jW ps).2]):=by
 cases ps with
 |nil=>exact absurd rfl gO
 |cons p r=>
  obtain⟨t,h1,h2⟩:=P.2 0 p rfl;exact⟨t,aS (j:=0) h1,h2⟩
end QF
namespace L2
open PySem PySem.Spec PyProof.Rows PySem.W PySem.Calls
section
variable{prog:Program}{w:World}{κ:Type}[DecidableEq κ]{knd:HeapKind prog w κ}{A:Around}{E:Value→Shared→Prop}{s:Shared}
theorem zd{α β:Type}(f:α→β):∀(xs:List α)(j:Nat),(xs.eraseIdx j).map f=(xs.map f).eraseIdx j
 |[],_=>Xx
 | _::_,0=>Xx
 | _::r,j+1=>by simp[zd f r j]
theorem HK{xs:List (κ×Addr×Value)}(hn:(xs.map (·.1)).Nodup):∀{j:Nat}{k:κ}{p:Addr×Value},xs[j]?=some (k,p)→xs.eraseIdx j=xs.filter fun x=>decide (x.1≠k):=by
 induction xs with
 |nil=>intro j k p h;simp at h
 |cons x r ih=>
  intro j k p h;have D_:=List.nodup_cons.mp (by simpa using hn:(x.1::r.map (·.1)).Nodup);cases j with
  |zero=>
   have:x=(k,p):=by simpa using h
   subst this;have hf:r.filter (fun x=>decide (x.1≠k))=r:=List.filter_eq_self.mpr fun y hy=>by
    have:y.1≠k:=fun e=>D_.1 (List.mem_map.mpr ⟨y,hy,e⟩)
    simpa using this
   simp only[List.eraseIdx_cons_zero,List.filter_cons];rw[hf];simp
  |succ j=>
   have hj:r[j]?=some (k,p):=by simpa using h
   have hx:x.1≠k:=fun e=>D_.1 (e▸(List.mem_map.mpr ⟨(k,p),Ψ hj,rfl⟩))
   simp only[List.eraseIdx_cons_succ,List.filter_cons];rw[ih D_.2 hj,VH (by simpa using hx)]
theorem Ai{d a:Addr}{xs:List (κ×Addr×Value)}{k:κ}{p:Addr×Value}{Q:Option DictEntry→Shared→Prop}(hu:knd.room A)(p0:knd.is s.heap k a)(hm:s.heap.DictOfH knd d xs)(hp:atKey xs k=some p)(hsz:xs.length≤sizeLine)
  (h:∀h' e,e.val=p.2→h'.DictOfH knd d (xs.filter fun x=>decide (x.1≠k))→Heap.SameBut d s.heap h'→Q (some e) {s with heap:=h',toks:=s.toks+knd.draws k}):wpAny (model prog w) A (Builtin.Dict.takeOut d (.ref a)) Q E s:=by
 obtain⟨o,es,ep,ho,hc,hd,he,Xy,hn⟩:=hm;unfold Builtin.Dict.takeOut
 try with_reducible refine wpAny_holding ?_
 refine wpAny_bind (knd.pyHash hu p0 ?_);refine wpAny_bind (wpAny_dictFind_heap (s:={s with toks:=s.toks+knd.draws k}) hu p0 ho hd he Xy hn ?_ ?_)
 ·intro Mm;rw[atKey_none_of_get Mm]at hp;cases hp
 ·intro j q hj;have eq:q=p:=by rw[atKey_of_get hn hj]at hp;exact Ρ hp
  subst eq;refine wpAny_bind (wpAny_dictEntries (s:={s with toks:=s.toks+knd.draws k}) ho hd ?_);rw[entry_at he j,hj];refine wpAny_bind (wpAny_updateDictKeys (hz:=by have e:=size_of_entries he;lia) (s:={s with toks:=s.toks+knd.draws k}) ho hd (wpAny_pure (h _ _ rfl ⟨_,_,ep+1,Heap.get?_update_self _ ho (Obj.isFreed_of_dict (Obj.data_mapDictKeys hd _)),
   hc.mapDictKeys _,Obj.data_mapDictKeys hd _,?_,?_,?_⟩ (Heap.SameBut.update ..))))
  ·rw[←HK hn hj,zd,←he];obtain⟨l⟩:=es;simp
  ·intro x hx;exact knd.keeps (Xy x (List.mem_filter.mp hx).1) ho hd (Heap.SameBut.update ..)
  ·exact hn.sublist (List.filter_sublist.map _)
theorem ER(d a:Addr):
  MeetsIn prog w (Builtin.«dict.pop» ⟨[.ref d, .ref a],[]⟩) (fun A R s=>knd.room A.in1∧∃k xs p,knd.is s.heap k a∧s.heap.DictOfH knd d xs∧xs.length≤sizeLine∧atKey xs k=some p∧
   ∀h',h'.DictOfH knd d (xs.filter fun x=>decide (x.1≠k))→Heap.SameBut d s.heap h'→R (.ok (.ret p.2)) {s with heap:=h',toks:=s.toks+knd.draws k}):=
 .of_wp fun A R s ⟨hu,k,xs,p,p0,hm,hsz,hp,h⟩=>by
  obtain⟨o,es,ep,ho,hc,hd,he,Xy,hn⟩:=id hm;have gO:es.isEmpty=false:=by
   cases hx:xs with
   |nil=>rw[hx]at hp;cases hp
   |cons x r=>
    have:=size_of_entries he;rw[hx]at this;simp at this;rw[Array.isEmpty_eq_false_iff];intro e;rw[e]at this;simp at this
  unfold Builtin.«dict.pop»;refine wpAny_bind ?_;unfold Builtin.Dict.keyAndDefault;refine wpAny_bind (wpAny_notOrdered_dict hm.typeIs ?_);show wpAny _ _ (pure (d,Value.ref a,none)) _ _ s;refine wpAny_pure ?_;have Tz:(keyPart (Value.ref a)).isSome=false:=rfl;simp only[Tz,Bool.false_eq_true,if_false];refine wpAny_bind (wpAny_dictEntries ho hd (Θ (Δ ?_)));rw[gO];simp only[Bool.false_eq_true,if_false];refine wpAny_bind (Ai hu p0 hm hp hsz fun h' e hev S8 Tq=>?_);simp only[Option.isNone_some,Bool.false_eq_true,if_false];exact Θ (wpAny_letGo (Δ ⟨e.val,rfl,by rw[hev];exact h h' S8 Tq⟩))
end
section
variable{X:Cx}{pins:List (Addr×Obj)}{σ:St}{H:Hp}{s:Shared}{a:Addr}{u:Value}{A:Around}{E:Value→Shared→Prop}{kvs:List (List Key×V)}
theorem KT.drop{xs:List (List Key×Addr×Value)}(r:KT H kvs xs)(k:List Key):KT H (jC kvs k) (xs.filter fun x=>decide (x.1≠k)):=by
 unfold jC
 induction r with
 |nil=>exact .nil
 |cons z t ih=>
  simp only[List.filter_cons];rw[z.1];split
  ·exact .cons z ih
  ·exact ih
theorem P7{v:V}{k:List Key}{b:Addr}{Q:Value→Shared→Prop}(hu:A.units+1<cLine)(I:Inv X pins σ H s)(e:H a=some (.dT kvs))(eb:H b=some (.tup (k.map kV)))(l:b_ kvs k=some v)
  (h:∀w' s',Inv X pins σ (upd H a (.dT (jC kvs k))) s'→RelV v w'→Q w' s'):wpAny (model X.prog X.w) A (call (.builtin "dict.pop") [.ref a, .ref b]) Q E s:=by
 obtain⟨z,hd,xs,rel,dd⟩:=NG I.cC e;have rv:=rel.val k;rw[l]at rv;obtain⟨w',hw,mO⟩:=lL.some_of rv;obtain⟨p,hp,rfl⟩:=Option.map_eq_some_iff.mp hw;refine call_meetsIn PySem.F.slot_dict_pop dd.typeIs PySem.F.entry_dict_pop (PySem.F.args_dict_pop_2 _ _) (ER (knd:=tupleKind (dI X.prog X.w)) a b)
  ⟨tupleKind_room_in1 hu,k,xs,p,o7 I.cC eb,dd,by rw[←Paired.length rel];exact z,hp,fun h' NH hs=>h _ _ ?_ mO⟩
 obtain⟨q,es,ep,hq,h2,h3,h4,_,h5⟩:=NH;refine zC I (by rw[e];exact True.intro) hs ⟨q,hq⟩ ⟨Nat.le_trans (Cz kvs k) z,hd,_,(rel.drop k).keeps fun c ys ec=>?_,q,es,ep,hq,h2,h3,h4,h5⟩;rw[aj (jA ec e (fun z=>nomatch z))];exact ec
end
inductive NV(x y:V)(H:Hp)(Q:VK):Prop
 |mk (a b:Addr) (kvs:List (List Key×V)) (k:List Key) (v:V) (_:x= .ref a) (_:y= .ref b) (_:H a=some (.dT kvs)) (_:H b=some (.tup (k.map kV))) (_:b_ kvs k=some v) (_:Q v (upd H a (.dT (jC kvs k)))):NV x y H Q
def TC(td ty:TE):TE:=fun σ H Q=>td σ H fun x H1=>∃a,x= .ref a∧WW H1 a∧ty σ H1 fun y H2=>NV x y H2 Q
theorem Kx{X:Cx}{o e:Expr}{apos fg:Pos}{td ty:TE}(hu:X.A.units+1<cLine)(ho:PE X o td)(he:PE X e ty)(m:M1 X o "pop" apos e fg):PE X (.Call (.Attribute o "pop" apos) [e] [] fg) (TC td ty):=by
 intro pins s σ H Q I h;refine wpAny_Call_method m.base m.Ca m.line PySem.F.plainAttrs_dict PySem.F.slot_dict_pop PySem.F.type_dict_pop (cY (ho pins s σ H _ I h) fun u s1 ⟨x,H1,I1,rx,a,ex,d,q1⟩=>?_);subst ex;obtain rfl:u=Value.ref a:=rx;obtain⟨t1,t2,_⟩:=JJ I1 d;refine⟨t1,t2,?_⟩;rw[m.trees];refine Calls.callWith_builtin rfl (Calls.evalArgs_plain (Calls.spliced_cons (cY (he pins s1 σ H1 _ I1 q1) fun iv s2 ⟨y,H2,I2,ry,q2⟩=>Calls.spliced_nil ?_)));obtain⟨a',b,kvs,k,v,e1,rfl,e2,e3,l,q⟩:=q2;cases e1;obtain rfl:iv=Value.ref b:=ry;exact P7 hu I2 e2 e3 l fun w' s3 I3 mO=>⟨v,_,I3,mO,q⟩
section
variable{prog:Program}{w:World}{A:Around}{E:Value→Shared→Prop}{s:Shared}{it d:Addr}{i ep:Nat}{od:Obj}{es:Array DictEntry}{Q:Option Value→Shared→Prop}
theorem Kz(hit:s.heap.IsValIter it d i es.size ep)(NW:s.heap.get? d=some od)(NX:od.data= .dict es ep)(hi:i<es.size)
  (hQ:∀h',h'.IsValIter it d (i+1) es.size ep→Heap.SameBut it s.heap h'→Q (some es[i].val) {s with heap:=h'}):wpAny (model prog w) A (pyNext (.ref it)) Q E s:=by
 obtain⟨o,ho,hc,hd⟩:=id hit;have T:=hit.typeIs;have Mm:Builtin.Dict_items.ownsTuple "dict_valueiterator"=false:=QY;unfold pyNext;refine wpAny_bind (wpAny_attempt (wpAny_callSpecial?_slot (name:=Str.ofString "__next__") T F.slot_dict_valueiterator_next (wpAny_call_entry F.slot_dict_valueiterator_next T F.entry_dict_valueiterator_next ?_ (F.args_dict_valueiterator_next_1 _))));refine wpAny_bind (Δ (Θ (Θ ?_)));first|refine wpAny_bind (wpAny_typeNameOfWhole_valiter T (Δ ?_))|refine wpAny_bind (wpAny_typeNameOf_valiter T (Δ ?_))
 refine wpAny_bind (wpAny_fieldsOf ho hd ?_);simp only[Mm,Bool.false_eq_true,if_false];show wpAny _ _ (if (Value.ref d==Value.none)=true then _ else _) _ _ s;rw[M9 (show ¬((Value.ref d==Value.none)=true)from Bool.false_ne_true)];refine wpAny_bind (Δ (Θ (wpAny_dictEntries NW NX ?_)));rw[if_neg XD];refine wpAny_bind (Δ (Θ (wpAny_dictEpoch NW NX ?_)));rw[if_neg XD];refine wpAny_pure ?_;simp only[show ¬((i:Int)<0)from by lia,if_false,Int.toNat_natCast,Array.getElem?_eq_getElem hi];refine wpAny_bind ?_;first|refine wpAny_bind (wpAny_typeNameOfWhole_valiter T (Δ ?_))|refine wpAny_bind (wpAny_typeNameOf_valiter T (Δ ?_))
 refine wpAny_bind (wpAny_isOneOf_valiter T ?_);show wpAny _ _ (setField (.ref it) 1 (rawInt ((i:Int)+1))>>=_) _ _ s;refine wpAny_bind (wpAny_setField ho hd XD ?_);have ht:(s.heap.update it (Obj.mapFields (·.setIfInBounds 1 (rawInt ((i:Int)+1))))).IsValIter it d (i+1) es.size ep:=
  ⟨_,Heap.get?_update_self _ ho (Obj.isFreed_of_fields (Obj.data_mapFields hd _)),(Obj.cls_mapFields ..).trans hc,by rw[Obj.data_mapFields hd];simp[rawInt]⟩
 refine wpAny_bind (wpAny_holding (Θ (wpAny_isOneOf_valiter (s:={s with heap:=s.heap.update it (Obj.mapFields (·.setIfInBounds 1 (rawInt ((i:Int)+1))))}) ht.typeIs ?_)));refine wpAny_bind (wpAny_isOneOf_valiter (s:={s with heap:=s.heap.update it (Obj.mapFields (·.setIfInBounds 1 (rawInt ((i:Int)+1))))}) ht.typeIs ?_);show wpAny _ _ (pure es[i].val) _ _ _;exact Δ (Δ ⟨_,rfl,Δ (hQ _ ht (Heap.SameBut.update ..))⟩)
theorem MA(hh:A.handled=none)(hit:s.heap.IsValIter it d i es.size ep)(NW:s.heap.get? d=some od)(NX:od.data= .dict es ep)(hi:es.size≤i)
  (hQ:∀h',Heap.ExtBut it s.heap h'→Q none {s with heap:=h'}):wpAny (model prog w) A (pyNext (.ref it)) Q E s:=by
 obtain⟨o,ho,hc,hd⟩:=id hit;have T:=hit.typeIs;have Mm:Builtin.Dict_items.ownsTuple "dict_valueiterator"=false:=QY;unfold pyNext;refine wpAny_bind (wpAny_attempt (wpAny_callSpecial?_slot (name:=Str.ofString "__next__") T F.slot_dict_valueiterator_next (wpAny_call_entry F.slot_dict_valueiterator_next T F.entry_dict_valueiterator_next ?_ (F.args_dict_valueiterator_next_1 _))));refine wpAny_bind (Δ (Θ (Θ ?_)));first|refine wpAny_bind (wpAny_typeNameOfWhole_valiter T (Δ ?_))|refine wpAny_bind (wpAny_typeNameOf_valiter T (Δ ?_))
 refine wpAny_bind (wpAny_fieldsOf ho hd ?_);simp only[Mm,Bool.false_eq_true,if_false];show wpAny _ _ (if (Value.ref d==Value.none)=true then _ else _) _ _ s;rw[M9 (show ¬((Value.ref d==Value.none)=true)from Bool.false_ne_true)];refine wpAny_bind (Δ (Θ (wpAny_dictEntries NW NX ?_)));rw[if_neg XD];refine wpAny_bind (Δ (Θ (wpAny_dictEpoch NW NX ?_)));rw[if_neg XD];refine wpAny_pure ?_;simp only[show ¬((i:Int)<0)from by lia,if_false,Int.toNat_natCast,Array.getElem?_eq_none hi];refine wpAny_bind ?_;first|refine wpAny_bind (wpAny_typeNameOfWhole_valiter T (Δ ?_))|refine wpAny_bind (wpAny_typeNameOf_valiter T (Δ ?_))
 show wpAny _ _ (setField (.ref it) 0 .none>>=_) _ _ s;refine wpAny_bind (wpAny_setField ho hd XD ?_);show wpAny _ _ (newExc (.type "StopIteration") []>>=_) _ _ _;refine wpAny_bind ?_;simp only[newExc,newTuple];refine wpAny_bind (wpAny_newObj_type ?_ (by size_fits));refine wpAny_bind (m:=firstArgMember _ _) (wpAny_of_eq (a:=Value.none) (by first|rfl|(simp only[firstArgMember];rfl)) ?_);refine wpAny_newObj_type ?_ (by size_fits);simp only[raiseNew];refine wpAny_bind (wpAny_handled ?_);rw[show A.in1.handled=none from hh];refine wpAny_bind (Δ (wpAny_throw ?_));refine wpAny_bind (wpAny_isInstance (T:="StopIteration") (b:=true) ⟨_,Heap.get?_push_size _ rfl,rfl⟩ isSubtype_stop ?_);exact Δ (hQ _ (((Heap.SameBut.update ..).extBut.push _).push _))
end
theorem ze{α β:Type}{F:α→β→Prop}:∀{l:List α}{m:List β}{i:Nat}{a:α},Paired F l m→l[i]?=some a→∃b,m[i]?=some b∧F a b
 | _,_,_,_, .nil,e=>by simp at e
 | _,_,0,_, .cons r _,e=>by simp at e;subst e;exact⟨_,rfl,r⟩
 | _,_,i+1,_, .cons _ t,e=>by
  obtain⟨b,h,f⟩:=ze (i:=i) t (by simpa using e);exact⟨b,by simpa using h,f⟩
def Xz(d:Addr)(o:Obj)(kvs:List (List Key×V)):It:=
 ⟨fun i H=>H d=some (.ve o (.dT kvs))∧i<kvs.length,fun i H x H'=>H'=H∧∃p,kvs[i]?=some p∧x=p.2,fun i H=>H d=some (.ve o (.dT kvs))∧kvs.length≤i⟩
theorem GK{P:Program}{w:World}{H:Hp}{h:Heap}{d:Addr}{o:Obj}{kvs:List (List Key×V)}{es:Array DictEntry}{ep:Nat}(ok:mM P w H h)(e:H d=some (.ve o (.dT kvs)))(hd:o.data= .dict es ep):
  h.get? d=some o∧es.size=kvs.length∧∀i (hi:i<es.size) p,kvs[i]?=some p→RelV p.2 es[i].val:=by
 obtain⟨q1,_,_,xs,r,o',OO,Vq,z1,z2,z3,z4,_⟩:=ok d _ e;rw[q1]at z1;cases z1;rw[hd]at z3;cases z3;have hs:=size_of_entries z4;have hl:=Paired.length r;refine⟨q1,by rw[hs,hl],fun i hi p hp=>?_⟩;obtain⟨x,hx,rx⟩:=ze r hp;have e1:=entry_at z4 i;rw[hx,Array.getElem?_eq_getElem hi]at e1;have:es[i]=entryOfKey (tupleKind (dI P w)) x:=Ρ e1;rw[this];exact rx.2.2
theorem turn_val{P:Program}{w:World}{K:Frag}{tg:Expr}{it d:Addr}{o:Obj}{kvs:List (List Key×V)}{es:Array DictEntry}{ep:Nat}(hd:o.data= .dict es ep):Turn P w K tg (Xz d o kvs) [it] it (fun i h=>h.IsValIter it d i es.size ep) where
 mem:=Xx
 obj:=fun i h st b hb=>by
  have e:b=it:=by simpa using hb
  subst e;obtain⟨o,e,c,d⟩:=st;exact⟨o,e,fun v z=>by rw[d]at z;cases z⟩
 keep:=fun i h h' st k=>let ⟨o,ho,r⟩:=st;⟨o,k it (Xx) o ho,r⟩
 item:=by
  intro X hP hw hK hc i pins s σ H E I hf st hg;subst hP hw hK;obtain⟨hg,hi⟩:=hg;obtain⟨f0,f1,f2,f3,f4,f5⟩:=hf it (Xx);obtain⟨g1,g2,g3⟩:=GK I.cC hg hd;have Mi:i<es.size:=by lia
  refine Kz st g1 hd Mi fun h' jh sb=>?_
  have I1:Inv X pins σ H {s with heap:=h'}:=I.turned (t':=s.toks) (fun b o hb e=>(sb.2 b hb).trans e) f0 f1 f3 f4 f5;obtain⟨oi,q1,q2,q3⟩:=id jh;exact⟨_,rfl,Cr (s:={s with heap:=h'}) q1 q2 q3 Ε ⟨_,H,I1,g3 i Mi kvs[i] (by simp[hi]),⟨rfl,kvs[i],by simp[hi],rfl⟩,jh,fun b hb=>(hf b hb).1⟩⟩
 done:=by
  intro X hP hw hK hc i pins s σ H E I hf st hg;subst hP hw hK;obtain⟨hg,hi⟩:=hg;obtain⟨f0,f1,f2,f3,f4,f5⟩:=hf it (Xx);obtain⟨g1,g2,g3⟩:=GK I.cC hg hd;exact MA (I.ok.hd hc) st g1 hd Nz fun h' eb=>⟨rfl,I.turned (t':=s.toks) (fun b o hb e=>eb b o hb e) f0 f1 f3 f4 f5⟩
 self:=fun _ _ _ _ _ st h=>wpAny_pyIter_valiter st h
section
variable{prog:Program}{w:World}{A:Around}{E:Value→Shared→Prop}{s:Shared}
theorem HL(d:Addr)(hd:(d==sysModules)=false):MeetsIn prog w (Builtin.«dict.values» ⟨[.ref d],[]⟩) (fun _ R s=>s.TypeIs (.ref d) "dict"∧
   R (.ok (.ret (.ref s.heap.objs.size))) {s with heap:=s.heap.push {cls:= .type "dict_values",data:= .fields #[.ref d]}}):=
 .of_wp fun A R s ⟨ht,h⟩=>by
  refine wpAny_bind ?_;unfold Builtin.Dict.noArgs;refine wpAny_bind (wpAny_notOrdered_dict ht ?_);show wpAny _ _ (pure d) _ _ s;refine wpAny_pure ?_;show wpAny _ _ (Builtin.Dict.showsAll d>>=_) _ _ s;unfold Builtin.Dict.showsAll;rw[M9 (by rw[hd];exact Bool.false_ne_true)];exact Θ (Δ (Θ (wpAny_newObj_type (Δ ⟨_,rfl,h⟩))))
theorem HM{v d:Addr}{od:Obj}{es:Array DictEntry}{ep:Nat}{Q:Value→Shared→Prop}(hv:s.heap.IsValuesView v d)(NW:s.heap.get? d=some od)(NX:od.data= .dict es ep)
  (hQ:Q (.ref s.heap.objs.size) {s with heap:=s.heap.push {cls:= .type "dict_valueiterator",data:= .fields #[.ref d, .int 0 0, .int es.size 0, .int ep 0]}}):wpAny (model prog w) A (pyIter (.ref v)) Q E s:=by
 obtain⟨ov,hov,hcv,hdv⟩:=id hv;refine wpAny_pyIter_slot hv.typeIs F.slot_dict_values_iter (wpAny_call_entry F.slot_dict_values_iter hv.typeIs F.entry_dict_values_iter ?_ (F.args_dict_values_iter_1 _));unfold Builtin.«dict_values.__iter__»;refine wpAny_bind (Δ (Θ ?_));unfold Builtin.Dict_items.dictOf;refine wpAny_bind (wpAny_field hov hdv (x:= .ref d) rfl (Δ (Θ ?_)));unfold Builtin.Dict_items.newIterator;refine wpAny_bind (wpAny_dictEntries NW NX (Θ (wpAny_dictEpoch NW NX ?_)));have Mm:Builtin.Dict_items.ownsTuple "dict_valueiterator"=false:=QY;simp only[Mm,Bool.false_eq_true,if_false];refine wpAny_newObj_type (Δ ⟨_,rfl,"dict_valueiterator",_,⟨_,Heap.get?_push_size _ rfl,rfl⟩,F.slot_dict_valueiterator_next.lookup,?_⟩);simpa[rawInt]using hQ
end
def TK(fC:Hp)(tl:TE):TI:=fun σ H R=>tl σ H fun x H1=>∃d kvs,x= .ref d∧H1 d=some (.dT kvs)∧∀o,NF fC d→R (Xz d o kvs) (upd H1 d (.ve o (.dT kvs)))
theorem MB{X:Cx}(fC:Hp){tg o:Expr}{tl:TE}{apos fg:Pos}(hl:PE X o tl)(p9:attributeBase o "values" X.env (eval o X.env)=eval o X.env:=by rfl)(m9:(apos.endLine==fg.line)=true:=by rfl)(hH:X.fC=fC:=by rfl):
  PI X tg (.Call (.Attribute o "values" apos) [] [] fg) (TK fC tl):=by
 subst hH;intro pins s σ H R I h;refine wpAny_Call_method0_late p9 m9 (cY (hl pins s σ H _ I h) fun v s1 ⟨x,H1,I1,r1,q1⟩=>?_);obtain⟨d,kvs,e,hd,q⟩:=q1;subst e;cases r1;obtain⟨z1,z2,xs,r,o,es,ep,g1,g2,g3,g4,g5⟩:=I1.cC d _ hd;have nf:NF X.fC d:=fun o v e=>by
  have:=I1.base.mV d o v e;rw[hd]at this;cases this
 refine⟨"dict",_,F.plainAttrs_dict,F.slot_dict_values,F.type_dict_values,⟨o,g1,g2.1⟩,fun b hb=>?_,Calls.callWith_builtin rfl (PySem.evalArgs_none ?_)⟩
 ·cases hb;exact⟨o,g1,g2.2.1⟩
 refine call_meetsIn F.slot_dict_values ⟨o,g1,g2.1⟩ F.entry_dict_values (F.args_dict_values_1 _) (HL d z2) ⟨⟨o,g1,g2.1⟩,?_⟩;have g1':=Heap.get?_push_of_some {cls:= .type "dict_values",data:= .fields #[.ref d]} g1;refine HM (s:={s1 with heap:=s1.heap.push {cls:= .type "dict_values",data:= .fields #[.ref d]}}) ⟨_,Heap.get?_push_size _ rfl,rfl,rfl⟩ g1' g3 ?_;have Iz:Inv X pins σ (upd H1 d (.ve o (.dT kvs))) s1:=I1.swap hd (fun _ z=>nomatch z) (fun _ z=>nomatch z) (fun _ z=>nomatch z) nf ⟨g1,z1,z2,xs,KT.keeps r (fun c ys ec=>by rw[aj (jA ec hd (fun z=>nomatch z))];exact ec),o,es,ep,g1,g2,g3,g4,g5⟩;have I2:=Iz.kept (t':=s1.toks) fun b o e=>Heap.get?_push_of_some {cls:= .type "dict_values",data:= .fields #[.ref d]} e
 refine⟨_,[_],_,_,_,rfl,I2.kept (t':=s1.toks) fun b o e=>Ο e,turn_val (o:=o) (kvs:=kvs) g3,⟨_,Heap.get?_push_size _ rfl,rfl,rfl⟩,fun b hb=>?_,q o nf⟩;have e:b=(s1.heap.push {cls:= .type "dict_values",data:= .fields #[.ref d]}).objs.size:=by simpa using hb
 subst e;exact I2.xN Ξ (I2.cC.fresh Ξ)
def ES{α:Type}(n:Nat)(lt:Nat→Nat→Bool):KasT α→(α→Prop)→Prop
 | .ret a,Q=>Q a
 | .ask i j k,Q=>i<n∧j<n∧ES n lt (k (lt i j)) Q
theorem lC{α β:Type}{n:Nat}{lt:Nat→Nat→Bool}{f:α→KasT β}{Q:β→Prop}:∀{t:KasT α},ES n lt t (fun a=>ES n lt (f a) Q)→ES n lt (t.bind f) Q
 | .ret _,h=>h
 | .ask _ _ _,h=>⟨h.1,h.2.1,lC h.2.2⟩
structure qj(n:Nat)(lt:Nat→Nat→Bool):Prop where
 tr:∀i j k,i<n→j<n→k<n→lt i j=true→lt j k=true→lt i k=true
 as:∀i j,i<n→j<n→lt i j=true→lt j i=false
 ME:∀i j,i<n→j<n→i≠j→lt i j=true∨lt j i=true
def iK(n:Nat)(p:Array Nat):Prop:=p.toList.Perm (List.range n)
abbrev gd(p:Array Nat)(k:Nat):Nat:=p.getD k 0
theorem iZ(p:Array Nat)(k:Nat):gd p k=(p[k]?).getD 0:=by unfold gd;rw[Array.getD_eq_getD_getElem?]
theorem iK.size{n:Nat}{p:Array Nat}(h:iK n p):p.size=n:=by have:=h.length_eq;simpa using this
theorem iK.lt{n k:Nat}{p:Array Nat}(h:iK n p)(hk:k<n):gd p k<n:=by
 have hs:=h.size;have Je:k<p.size:=by lia
 have:p[k]∈p.toList:=Xx;have:=h.mem_iff.mp this;rw[iZ,Array.getElem?_eq_getElem Je];simpa using this
theorem iK.inj{n i j:Nat}{p:Array Nat}(h:iK n p)(hi:i<n)(hj:j<n)(e:gd p i=gd p j):i=j:=by
 have hs:=h.size;have nd:p.toList.Nodup:=h.nodup_iff.mpr List.nodup_range;rw[iZ,iZ,Array.getElem?_eq_getElem Nz,Array.getElem?_eq_getElem Nz]at e;have e:p.toList[i]?=p.toList[j]?:=by
  rw[Ω (by simp;lia),Ω (by simp;lia)];simpa using e
 exact(List.getElem?_inj (by simp;lia) nd).mp e
theorem iK.rev{n i j:Nat}{p:Array Nat}(h:iK n p):iK n (kas_rev p i j):=(Array.perm_iff_toList_perm.mp (mirror_perm p i j _)).trans h
theorem iK.bub{n i j:Nat}{p:Array Nat}(h:iK n p):iK n (bubble p i j):=(Array.perm_iff_toList_perm.mp (bubble_perm p i j)).trans h
def Sd(lt:Nat→Nat→Bool)(p:Array Nat)(m:Nat):Prop:=∀i j,i<j→j<m→lt (gd p i) (gd p j)=true
def Ds(lt:Nat→Nat→Bool)(p:Array Nat)(m:Nat):Prop:=∀i j,i<j→j<m→lt (gd p j) (gd p i)=true
section
variable{n:Nat}{lt:Nat→Nat→Bool}(L:qj n lt)
include L
theorem Sd.next{p:Array Nat}{m:Nat}(hp:iK n p)(hm:m<n)(h1:1≤m)(s:Sd lt p m)(h:lt (gd p m) (gd p (m-1))=false):Sd lt p (m+1):=by
 have hl:lt (gd p (m-1)) (gd p m)=true:=by
  rcases L.ME (gd p (m-1)) (gd p m) (hp.lt Nz) (hp.lt hm) (fun e=>by have:=hp.inj Nz hm e;lia)with z|z
  ·exact z
  ·rw[h]at z;cases z
 intro i j xJ hj;by_cases e:j=m
 ·subst e;by_cases e2:i=j-1
  ·subst e2;exact hl
  ·exact L.tr _ _ _ (hp.lt Nz) (hp.lt Nz) (hp.lt Nz) (s i (j-1) (by lia) (by lia)) hl
 ·exact s i j xJ Nz
theorem Ds.next{p:Array Nat}{m:Nat}(hp:iK n p)(hm:m<n)(h1:1≤m)(s:Ds lt p m)(h:lt (gd p m) (gd p (m-1))=true):Ds lt p (m+1):=by
 intro i j xJ hj;by_cases e:j=m
 ·subst e;by_cases e2:i=j-1
  ·subst e2;exact h
  ·exact L.tr _ _ _ (hp.lt Nz) (hp.lt Nz) (hp.lt Nz) h (s i (j-1) (by lia) (by lia))
 ·exact s i j xJ Nz
theorem ET{p:Array Nat}(hp:iK n p){Q:Nat→Prop}:∀(f m:Nat),m+f≤n→1≤m→Sd lt p m→(∀m',m≤m'→m'≤m+f→Sd lt p m'→(m'=m+f∨lt (gd p m') (gd p (m'-1))=true)→Q m')→ES n lt (kas_asc p f m) Q
 |0,m,_,_,s,q=>q m Ξ (Nat.le_refl _) s (.inl rfl)
 |f+1,m,hm,h1,s,q=>by
  refine⟨hp.lt Nz,hp.lt Nz,?_⟩;show ES n lt (if lt (gd p m) (gd p (m-1))=true then .ret m else kas_asc p f (m+1)) Q;cases e:lt (gd p m) (gd p (m-1))with
  |true=>exact q m Ξ (by lia) s (.inr e)
  |false=>exact ET hp f (m+1) (by lia) (by lia) (Sd.next L hp Nz h1 s e) fun m' a b c d=>q m' Nz (by lia) c (d.imp Nz id)
theorem GL{p:Array Nat}(hp:iK n p){Q:Array Nat×Nat×Nat→Prop}:∀(f m:Nat),m+f≤n→1≤m→Ds lt p m→(∀m',m≤m'→m'≤m+f→Ds lt p m'→Q (p,m',0))→ES n lt (kas_desc f p m 0) Q
 |0,m,_,_,s,q=>q m Ξ (Nat.le_refl _) s
 |f+1,m,hm,h1,s,q=>by
  refine⟨hp.lt Nz,hp.lt Nz,?_⟩;cases e:lt (gd p m) (gd p (m-1))with
  |true=>
   exact GL hp f (m+1) (by lia) (by lia) (Ds.next L hp Nz h1 s e) fun m' a b c=>q m' Nz (by lia) c
  |false=>
   refine⟨hp.lt Nz,hp.lt Nz,?_⟩;have hl:lt (gd p (m-1)) (gd p m)=true:=by
    rcases L.ME (gd p (m-1)) (gd p m) (hp.lt Nz) (hp.lt Nz) (fun e=>by have:=hp.inj Nz (by lia) e;lia)with z|z
    ·exact z
    ·rw[e]at z;cases z
   rw[show lt (p.getD (m-1) 0) (p.getD m 0)=true from hl];exact q m Ξ (by lia) s
omit L in
theorem KA{p:Array Nat}(hp:iK n p){m:Nat}(hm:m≤n)(k:Nat):gd (kas_rev p 0 m) k=if k<m then gd p (m-1-k)else gd p k:=by
 rw[iZ];unfold kas_rev;rw[getElem?_mirror_all (by rw[hp.size];exact hm)];by_cases h:k<m
 ·rw[VH ⟨by lia,h⟩,VH h,iZ,show 0+m-1-k=m-1-k by lia]
 ·rw[M9 Nz,M9 h,iZ]
omit L in
theorem Sd.TL{p:Array Nat}(hp:iK n p){m:Nat}(hm:m≤n)(d:Ds lt p m):Sd lt (kas_rev p 0 m) m:=by
 intro i j xJ hj;rw[KA hp hm,KA hp hm,VH Nz,VH Nz];exact d _ _ (by lia) (by lia)
theorem CO{p:Array Nat}(hp:iK n p){Q:Nat×Array Nat→Prop}(hn:2≤n)(d:Ds lt p 2)(q:∀m p',iK n p'→2≤m→m≤n→Sd lt p' m→Q (m,p')):ES n lt (kas_descPart 1 n p) Q:=by
 unfold kas_descPart;refine lC (GL L hp (n-(1+1)) (1+1) (by lia) (by lia) d fun m' a b c=>?_);show ES n lt (if 0>0 then _ else kas_tail3 m' n p) Q;rw[M9 Nz];unfold kas_tail3;refine lC (ET L hp.rev (n-m') m' Nz (by lia) (Sd.TL hp Nz c) fun m2 a2 b2 c2 _=>?_);exact q m2 _ hp.rev Nz (by lia) c2
theorem KC{p:Array Nat}(hp:iK n p){Q:Nat×Array Nat→Prop}(hn:2≤n)(q:∀m p',iK n p'→1≤m→m≤n→Sd lt p' m→Q (m,p')):ES n lt (kas_count n p) Q:=by
 unfold kas_count;refine lC (ET L hp (n-1) 1 (by lia) (by lia) (fun i j _ _=>by lia) fun m a b c d=>?_);by_cases e:m=n
 ·subst e;rw[if_pos XD];exact q _ p hp a (by lia) c
 rw[M9 (by simpa using e)];have jv:lt (gd p m) (gd p (m-1))=true:=by
  rcases d with d|d
  ·exfalso;lia
  ·exact d
 by_cases h1:m>1
 ·rw[VH h1];refine⟨hp.lt Nz,hp.lt Nz,?_⟩;have:lt (gd p 0) (gd p (m-1))=true:=c 0 (m-1) (by lia) (by lia);rw[show lt (p.getD 0 0) (p.getD (m-1) 0)=true from this];exact q m p hp a (by lia) c
 ·rw[M9 h1];have:m=1:=by lia
  subst this;refine CO L hp hn (fun i j xJ hj=>?_) fun m' p' a b c d=>q m' p' a (by lia) c d
  have:i=0:=by lia
  have:j=1:=by lia
  subst i j;exact jv
theorem vW{p:Array Nat}(hp:iK n p){k:Nat}(hk:k<n){Q:Nat→Prop}:∀(f l r:Nat),r-l≤f→l≤r→r≤k→(∀i,i<l→lt (gd p i) (gd p k)=true)→(∀i,r≤i→i<k→lt (gd p k) (gd p i)=true)→
  (∀l,l≤k→(∀i,i<l→lt (gd p i) (gd p k)=true)→(∀i,l≤i→i<k→lt (gd p k) (gd p i)=true)→Q l)→Sd lt p k→ES n lt (kas_place p k f l r) Q
 |0,l,r,h1,h2,h3,a,b,q,s=>by
  have:l=r:=by lia
  subst this;exact q l h3 a b
 |f+1,l,r,h1,h2,h3,a,b,q,s=>by
  unfold kas_place;by_cases h:l≥r
  ·rw[VH h];have:l=r:=by lia
   subst this;exact q l h3 a b
  ·rw[M9 h];refine⟨hp.lt hk,hp.lt Nz,?_⟩;cases e:lt (gd p k) (gd p ((l+r)/2))with
   |true=>
    refine vW hp hk f l ((l+r)/2) (by lia) (by lia) (by lia) a (fun i hi ZA=>?_) q s;by_cases hz:i=(l+r)/2
    ·rw[hz];exact e
    ·exact L.tr _ _ _ (hp.lt hk) (hp.lt Nz) (hp.lt Nz) e (s _ _ (by lia) ZA)
   |false=>
    have hl:lt (gd p ((l+r)/2)) (gd p k)=true:=by
     rcases L.ME (gd p ((l+r)/2)) (gd p k) (hp.lt Nz) (hp.lt hk) (fun e=>by have:=hp.inj Nz hk e;lia)with z|z
     ·exact z
     ·rw[e]at z;cases z
    refine vW hp hk f ((l+r)/2+1) r Nz (by lia) h3 (fun i hi=>?_) b q s;by_cases hz:i=(l+r)/2
    ·rw[hz];exact hl
    ·exact L.tr _ _ _ (hp.lt Nz) (hp.lt Nz) (hp.lt hk) (s i ((l+r)/2) (by lia) (by lia)) hl
omit L in
theorem KD{p:Array Nat}(hp:iK n p){k l:Nat}(hk:k<n)(hl:l≤k)(i:Nat):gd (bubble p k (k-l)) i=if i=l then gd p k else if l<i∧i≤k then gd p (i-1)else gd p i:=by
 rw[iZ,getElem?_bubble (by rw[hp.size];exact hk) (k-l) (by lia),show k-(k-l)=l by lia]
 repeat' split
 all_goals rw[iZ]
theorem KG{Q:Array Nat→Prop}(q:∀p,iK n p→Sd lt p n→Q p):∀(f:Nat)(p:Array Nat)(k:Nat),k+f=n→iK n p→Sd lt p k→ES n lt (kas_bin f p k) Q
 |0,p,k,h,hp,s=>q p hp (by rw[←h];exact s)
 |f+1,p,k,h,hp,s=>by
  refine lC (vW L hp (show k<n by lia) k 0 k (by lia) (by lia) (by lia) (fun i hi=>by lia) (fun i hi ZA=>by lia) (fun l hl a b=>?_) s);refine KG q f _ (k+1) (by lia) hp.bub fun i j xJ hj=>?_
  rw[KD hp Nz hl,KD hp Nz hl];have S:=fun i j (a:i<j) (b:j<k)=>s i j a b
  split
  ·rename_i e1
   rw[M9 Nz];by_cases e2:j≤k
   ·rw[VH Nz];exact b _ (by lia) (by lia)
   ·lia
  ·rename_i e1
   split
   ·rename_i e2
    rw[M9 Nz,VH Nz];exact s _ _ (by lia) (by lia)
   ·rename_i e2
    split
    ·exact a i Nz
    ·split
     ·by_cases e5:i=j-1
      ·lia
      ·exact s i (j-1) (by lia) (by lia)
     ·exact s i j xJ Nz
theorem GN(hn:2≤n){Q:Array Nat→Prop}(q:∀p,iK n p→Sd lt p n→Q p):ES n lt (kas_sort n) Q:=by
 unfold kas_sort;have h0:iK n (List.toArray (List.range n)):=by unfold iK;simp
 refine lC (KC L h0 hn fun m p' a b c d=>?_);show ES n lt (if m<n then _ else _) Q;by_cases h:m<n
 ·rw[VH h];exact KG L q _ _ _ (by lia) a (by rw[show max m 1=m by lia];exact d)
 ·rw[M9 h];have:m=n:=by lia
  subst this;exact q _ a d
end
def MF:Bool→Keyed→Array Keyed→Nat→Nat→Nat→StateT SortSt Sem (Option Nat):=sortPriv%PySem.Builtin.gallop
def XA:Array Keyed→Array Keyed→StateT SortSt Sem (Array Keyed):=sortPriv%PySem.Builtin.mergeLo
def XB:Array Keyed→Array Keyed→StateT SortSt Sem (Array Keyed):=sortPriv%PySem.Builtin.mergeHi
section
variable{prog:Program}{w:World}{A:Around}{E:Value→Shared→Prop}{s:Shared}
structure Rj(prog:Program)(w:World)(A:Around)(s:Shared)(X:List Keyed)(κ:SortKind)(lt:Keyed→Keyed→Bool):Prop where
 run:∀x∈X,∀y∈X,∀C:Bool→Shared→Prop,C (lt x y) s→wpAny (model prog w) A (keyLt' κ x.1 y.1) C (fun _ _=>False) s
 tr:∀x∈X,∀y∈X,∀z∈X,lt x y=true→lt y z=true→lt x z=true
 as:∀x∈X,∀y∈X,lt x y=true→lt y x=false
 ME:∀x∈X,∀y∈X,x≠y→lt x y=true∨lt y x=true
 nd:X.Nodup
variable{X:List Keyed}{κ:SortKind}{lt:Keyed→Keyed→Bool}(C:Rj prog w A s X κ lt)
include C
omit C in
theorem NY{st:SortSt}{xs:Array Keyed}{i:Nat}{x:Keyed}{Q:Keyed→SortSt→Prop}(e:xs[i]?=some x)(h:Q x st):wpS (model prog w) A E s (elem' xs i) Q st:=by
 rw[elem'_eq,e];exact wpS_pure h
end
def setG(g:Nat):StateT SortSt Sem Unit:=modify fun st=>SortSt.mk' (kindOf st) (arrOf st) (pendingOf st) g (failedOf st)
abbrev S1:=Option (Array Keyed)×Array Keyed×Nat×Nat×Nat×Nat
abbrev S2:=Option (Array Keyed)×Array Keyed×Nat×Nat×Nat×Nat×Nat
abbrev S3:=Option (Array Keyed)×Array Keyed×Nat×Nat×Nat
def TN(a b o:Array Keyed)(i j:Nat):Array Keyed:=a.extract 0 i++b.extract 0 j++o.reverse
def ZC(a b o:Array Keyed)(i j:Nat):Array Keyed:=b.extract 0 j++a.extract 0 i++o.reverse
abbrev T1:=Option (Array Keyed)×Nat×Nat×Array Keyed×Nat×Nat
abbrev T2:=Option (Array Keyed)×Nat×Nat×Array Keyed×Nat×Nat×Nat
abbrev T3:=Option (Array Keyed)×Nat×Nat×Array Keyed×Nat
def ZD(a b o:Array Keyed)(i j mg k l:Nat):StateT SortSt Sem (ForInStep T2):=do
 let x←elem' a (i-1)
 if (i-1==0)=true then pure (.done (some (TN a b (o.push x) (i-1) j),i-1,j,o.push x,mg,k,l))
 else if (decide (k<7)&&decide (l<7))=true then pure (.done (none,i-1,j,o.push x,mg,k,l))
 else pure (.yield (none,i-1,j,o.push x,mg,k,l))
def hi4(a b o:Array Keyed)(i j mg k bc:Nat):StateT SortSt Sem (ForInStep T2):=do
 let x←elem' a (i-1)
 let z←MF true x b 0 j (j-1)
 match z with
 |some t=>if j-t>0 then(if (t==1)=true then pure (.done (some (ZC a b (o++(b.extract t j).reverse) i t),i,t,o++(b.extract t j).reverse,mg,k,j-t))else if (t==0)=true then pure (.done (some (TN a b (o++(b.extract t j).reverse) i t),i,t,o++(b.extract t j).reverse,mg,k,j-t))else ZD a b (o++(b.extract t j).reverse) i t mg k (j-t))else ZD a b o i j mg k (j-t)
 | _=>pure (.done (some (TN a b o i j),i,j,o,mg,k,bc))
def ZE(a b o:Array Keyed)(i j mg k bc:Nat):StateT SortSt Sem (ForInStep T2):=do
 let y←elem' b (j-1)
 if (j-1==1)=true then pure (.done (some (ZC a b (o.push y) i (j-1)),i,j-1,o.push y,mg,k,bc))else hi4 a b (o.push y) i (j-1) mg k bc
def Rk(a b o:Array Keyed)(i j mg ac bc:Nat):StateT SortSt Sem (ForInStep T2):=do
 setG mg
 let y←elem' b (j-1)
 let z←MF false y a 0 i (i-1)
 match z with
 |some t=>if i-t>0 then(if (t==0)=true then pure (.done (some (TN a b (o++(a.extract t i).reverse) t j),t,j,o++(a.extract t i).reverse,mg,i-t,bc))else ZE a b (o++(a.extract t i).reverse) t j mg (i-t) bc)else ZE a b o i j mg (i-t) bc
 | _=>pure (.done (some (TN a b o i j),i,j,o,mg,ac,bc))
abbrev Pw(lt:Keyed→Keyed→Bool)(l:List Keyed):Prop:=l.Pairwise fun x y=>lt x y=true
section
variable{X:List Keyed}{lt:Keyed→Keyed→Bool}{P Q:List Keyed}
structure MC(X:List Keyed)(lt:Keyed→Keyed→Bool)(P Q:List Keyed):Prop where
 sa:Pw lt P
 sb:Pw lt Q
 ia:∀x∈P,x∈X
 ib:∀x∈Q,x∈X
 ne:∀x∈P,∀y∈Q,x≠y
 fst:∀x∈P,∀y,Q[0]?=some y→lt y x=true
 lst:∀y∈Q,∀x,P[P.length-1]?=some x→lt y x=true
structure ML(lt:Keyed→Keyed→Bool)(P Q O:List Keyed)(i j:Nat):Prop where
 hi:i≤P.length
 hj:j≤Q.length
 xK:Pw lt O
 low:∀x∈O,∀y,y∈P.drop i∨y∈Q.drop j→lt x y=true
 prm:(O++(P.drop i++Q.drop j)).Perm (P++Q)
def MG(lt:Keyed→Keyed→Bool)(P Q R:List Keyed):Prop:=R.Perm (P++Q)∧Pw lt R
end
def Eg(st jh:SortSt):Prop:=kindOf jh=kindOf st∧arrOf jh=arrOf st∧pendingOf jh=pendingOf st∧failedOf jh=failedOf st
section
variable{prog:Program}{w:World}{A:Around}{E:Value→Shared→Prop}{s:Shared}{X:List Keyed}{κ:SortKind}{lt:Keyed→Keyed→Bool}(C:Rj prog w A s X κ lt){a b:Array Keyed}(M:MC X lt a.toList b.toList)
def ZF(lt:Keyed→Keyed→Bool)(a b:Array Keyed)(o:Array Keyed)(i j m:Nat):Prop:=ML lt a.toList b.toList o.toList i j∧i+1<a.size∧j<b.size∧m≤i+j
def P2(lt:Keyed→Keyed→Bool)(a b:Array Keyed)(m:Nat)(st:SortSt)(r:ForInStep S2)(jh:SortSt):Prop:=Eg st jh∧match r with
 | .done c=>(∃x,c.1=some x∧MG lt a.toList b.toList x.toList)∨(c.1=none∧ZF lt a b c.2.1 c.2.2.1 c.2.2.2.1 m)
 | .yield c=>c.1=none∧ZF lt a b c.2.1 c.2.2.1 c.2.2.2.1 m
include C M
end
section
variable{X:List Keyed}{lt:Keyed→Keyed→Bool}{P Q:List Keyed}
end
section
variable{prog:Program}{w:World}{A:Around}{E:Value→Shared→Prop}{s:Shared}{X:List Keyed}{κ:SortKind}{lt:Keyed→Keyed→Bool}(C:Rj prog w A s X κ lt){a b:Array Keyed}(M:MC X lt a.toList b.toList)
include C M
end
def XC(lo i n:Nat):StateT SortSt Sem AscSt:=forIn [i:n] ((none,i):AscSt) fun _ c=>do
 let z←ltAt' (lo+c.2) (lo+c.2-1)
 match z with
 |some v=>if v=true then pure (.done (none,c.2))else pure (.yield (none,c.2+1))
 | _=>pure (.done (some none,c.2))
def ZG(lo i n:Nat):StateT SortSt Sem (Option Nat):=do
 reverseSlice' lo (lo+i)
 let t←XC lo i n
 match t.1 with
 |some r=>pure r
 |none=>pure (some t.2)
def crD(lo i n:Nat):StateT SortSt Sem DescSt:=forIn [i:n] ((none,i,0):DescSt) fun _ c=>do
 let z←ltAt' (lo+c.2.1) (lo+c.2.1-1)
 match z with
 |some v=>
  if v=true then
   if c.2.2>0 then do
    reverseSlice' (lo+c.2.1-(c.2.2+1)) (lo+c.2.1)
    pure (.yield (none,c.2.1+1,0))
   else pure (.yield (none,c.2.1+1,0))
  else do
   let z←ltAt' (lo+c.2.1-1) (lo+c.2.1)
   match z with
   |some v=>if v=true then pure (.done (none,c.2.1,c.2.2))else pure (.yield (none,c.2.1+1,c.2.2+1))
   | _=>pure (.done (some none,c.2.1,c.2.2))
 | _=>pure (.done (some none,c.2.1,c.2.2))
def ZH(lo i n:Nat):StateT SortSt Sem (Option Nat):=do
 liftM (rule "list.sort.descending-run")
 let t←crD lo (i+1) n
 match t.1 with
 |some r=>pure r
 |none=>
  if t.2.2>0 then do
   reverseSlice' (lo+t.2.1-(t.2.2+1)) (lo+t.2.1)
   ZG lo t.2.1 n
  else ZG lo t.2.1 n
theorem P8(lo n:Nat):countRun' lo n=(do
 let t←XC lo 1 n
 match t.1 with
 |some r=>pure r
 |none=>
  if (t.2==n)=true then pure (some t.2)
  else if t.2>1 then do
   let z←ltAt' lo (lo+t.2-1)
   match z with
   |some v=>if v=true then pure (some t.2)else do
     reverseSlice' lo (lo+t.2)
     ZH lo t.2 n
   | _=>pure none
  else ZH lo t.2 n):=by kernel_rfl
def maW(j:Nat)(m:Array Keyed)(st:SortSt):SortSt:=setArr st (m.toList.zipIdx.foldl (fun c q=>c.setIfInBounds (j+q.2) q.1) (arrOf st))
theorem aaI(i:Nat):mergeAt' i=(do
 let g←get
 let (some (p,m,v),some (q,n,_)):=((pendingOf g)[i]?,(pendingOf g)[i+1]?)|unsupported "internal:list.sort.pending"
 set (setPending g (((pendingOf g).setIfInBounds i (p,m+n,v)).eraseIdxIfInBounds (i+1)))
 let some k←MF false (←elem' (arrOf g) q) (arrOf g) p m 0|return false
 if m-k==0 then return true
 let some n←MF true (←elem' (arrOf g) (p+k+(m-k)-1)) (arrOf g) q n (n-1)|return false
 if n==0 then return true
 let r←if m-k≤n then XA ((arrOf g).extract (p+k) q) ((arrOf g).extract q (q+n))else XB ((arrOf g).extract (p+k) q) ((arrOf g).extract q (q+n))
 modify fun st=>maW (p+k) r st
 return (failedOf (←get)).isNone):=by kernel_rfl
def srM(n w:Nat):StateT SortSt Sem (Option Unit×Unit):=forIn [0:n] ((none,()):Option Unit×Unit) fun _ _=>do
 let g←get
 match (if (pendingOf g).size>1 then(pendingOf g)[(pendingOf g).size-2]? else none)with
 |some (_,_,v)=>
  if v≤w then pure (.done (none,()))
  else do
   let z←mergeAt' ((pendingOf g).size-2)
   if (!z)=true then pure (.done (some (),()))else pure (.yield (none,()))
 | _=>pure (.done (none,()))
def srL(w:Nat)(st:SortSt):SortSt:=setPending st ((pendingOf st).modify ((pendingOf st).size-1) fun(p,l,_)=>(p,l,w))
def ZI(lo n:Nat)(st:SortSt):SortSt:=setPending st ((pendingOf st).push (lo,n,0))
def XE(N lo n:Nat):StateT SortSt Sem (ForInStep (Option Unit×Nat)):=do
 let g←get
 match (pendingOf g).back? with
 |some (p,l,_)=>do
  let t←srM N (power' N (2*p+l) (2*p+l+l+n) N)
  match t.1 with
  |some r=>pure (.done (some r,lo))
  |none=>do
   modify (srL (power' N (2*p+l) (2*p+l+l+n) N))
   modify (ZI lo n)
   pure (.yield (none,lo+n))
 | _=>do
  modify (ZI lo n)
  pure (.yield (none,lo+n))
def ZJ(N:Nat):StateT SortSt Sem (Option Unit×Unit):=forIn [0:N] ((none,()):Option Unit×Unit) fun _ _=>do
 let g←get
 if (pendingOf g).size≤1 then pure (.done (none,()))
 else do
  let z←mergeAt' (if (if (pendingOf g).size-2>0 then((pendingOf g)[(pendingOf g).size-2-1]?).map (·.2.1)else none).any (·<((pendingOf g)[(pendingOf g).size-2+1]?.elim 0 (·.2.1)))then(pendingOf g).size-2-1 else(pendingOf g).size-2)
  if (!z)=true then pure (.done (some (),()))else pure (.yield (none,()))
theorem MH:sortRuns'=(do
 let g←get
 let t←forIn [0:(arrOf g).size] ((none,0):Option Unit×Nat) fun _ c=>
  if c.2≥(arrOf g).size then pure (.done (none,c.2))
  else do
   let z←countRun' c.2 ((arrOf g).size-c.2)
   match z with
   |some n=>
    if n<minRun' (arrOf g).size (arrOf g).size 0 then do
     liftM (rule "list.sort.binary-insertion")
     let z←binarySort' c.2 (min ((arrOf g).size-c.2) (minRun' (arrOf g).size (arrOf g).size 0)) n
     if (!z)=true then pure (.done (some (),c.2))else XE (arrOf g).size c.2 (min ((arrOf g).size-c.2) (minRun' (arrOf g).size (arrOf g).size 0))
    else XE (arrOf g).size c.2 n
   | _=>pure (.done (some (),c.2))
 match t.1 with
 |some r=>pure r
 |none=>do
  let u←ZJ (arrOf g).size
  match u.1 with
  |some r=>pure r
  |none=>pure ()):=by kernel_rfl
structure SB(X:List Keyed)(κ:SortKind)(st:SortSt):Prop where
 pm:(arrOf st).toList.Perm X
 kd:kindOf st=κ
 fl:failedOf st=none
section
variable{prog:Program}{w:World}{A:Around}{E:Value→Shared→Prop}{s:Shared}{X:List Keyed}{κ:SortKind}{lt:Keyed→Keyed→Bool}
variable(C:Rj prog w A s X κ lt)
include C
omit C in
omit C in
end
section
variable{prog:Program}{w:World}{A:Around}{E:Value→Shared→Prop}{s:Shared}{X:List Keyed}{κ:SortKind}{lt:Keyed→Keyed→Bool}
variable(C:Rj prog w A s X κ lt)
include C
end
abbrev Rn:=Nat×Nat×Nat
section
variable{prog:Program}{w:World}{A:Around}{E:Value→Shared→Prop}{s:Shared}{X:List Keyed}{κ:SortKind}{lt:Keyed→Keyed→Bool}(C:Rj prog w A s X κ lt)
include C
end
open Classical in
noncomputable def ixX(X:List Keyed)(x:Keyed):Nat:=if h:∃i:Nat,X[i]?=some x then Classical.choose h else 0
section
variable{prog:Program}{w:World}{A:Around}{E:Value→Shared→Prop}{s:Shared}{X:List Keyed}{κ:SortKind}{lt:Nat→Nat→Bool}
end
def Kp(a:Addr)(h h':Heap):Prop:=∀b o,b≠a→h.get? b=some o→h'.get? b=some o
section
variable{prog:Program}{w:World}{A:Around}{E:Value→Shared→Prop}{s:Shared}
theorem CP{a:Addr}{vs:List Value}{n:Nat}{P:PySem.Fin→Shared→Prop}(ho:s.heap.get? a=some (seqObj "list" vs.toArray n))(h2:vs.length<2)
  (h:∀h' c,Kp a s.heap h'→h'.get? a=some (seqObj "list" vs.toArray c)→P (.done (.ret .none)) {s with heap:=h'}):
  wpAny (model prog w) A (Builtin.«list.sort» ⟨[.ref a],[]⟩) P E s:=by
 have s1:=Heap.SameBut.update s.heap a (Obj.mapSeq fun _=>(#[]:Array Value));obtain⟨e1,NZ⟩:∃e1,(ξ a).get? a=some (seqObj "list" #[] e1):=⟨_,get?_update_seq ho fun _=>#[]⟩
 rw[list_sort_plain];refine wpAny_bind (listItems_at ho rfl (Θ (listUpdate_at ho rfl ?_ (by rw[List.size_toArray,sizeLine_eq];lia) (Nat.zero_le _))));refine wpAny_bind (seqEpoch_at NZ rfl (Θ (wpAny_newTuple (Θ (wpAny_newList (wpAny_holding ?_) (Nat.zero_le _))) (by show vs.length≤_;rw[sizeLine_eq];lia))));generalize hh:(((ξ a).push {cls:= .type "tuple",data:= .seq vs.toArray 0}).push {cls:= .type "list",data:= .seq #[] 0})=h3;have k3:Kp a s.heap h3:=fun b o hb e=>by
  rw[←hh];exact Ο (Ο ((s1.2 b hb).trans e))
 have P9:h3.get? a=some (seqObj "list" #[] e1):=by
  rw[←hh];exact Ο (Ο NZ)
 show wpAny (model prog w) A _ P E {s with heap:=h3};dsimp only;have B_:vs.toArray.size<2:=by rw[List.size_toArray];lia
 rw[VH B_,VH B_];refine wpAny_bind (Δ (Θ (Δ ?_)));dsimp only;have XF:(arrOf (SortSt.mk' general' (vs.toArray.zip vs.toArray) #[] 7 none)).map (·.2)=vs.toArray:=by
  show(vs.toArray.zip vs.toArray).map (·.2)=vs.toArray;apply Array.toList_inj.mp;rw[Array.toList_map,Array.toList_zip];exact List.map_snd_zip Ξ
 have s2:=Heap.SameBut.update h3 a (Obj.mapSeq fun _=>vs.toArray);obtain⟨c2,DU⟩:∃c2,(h3.update a (Obj.mapSeq fun _=>vs.toArray)).get? a=some (seqObj "list" vs.toArray c2):=⟨_,get?_update_seq P9 fun _=>vs.toArray⟩
 rw[XF];refine wpAny_bind (seqEpoch_at (s:={s with heap:=h3}) P9 rfl (Θ (listUpdate_at (s:={s with heap:=h3}) P9 rfl ?_ (Nat.zero_le _) (by rw[List.size_toArray,sizeLine_eq];lia))));simp only[bne_self_eq_false,Bool.false_eq_true,if_false];exact Δ (h _ c2 (fun b o hb e=>(s2.2 b hb).trans (k3 b o hb e)) DU)
end
def jw(p q:Int×Int):Bool:=if p.1=q.1 then decide (p.2<q.2)else decide (p.1<q.1)
theorem EU{p q r:Int×Int}(a:jw p q=true)(b:jw q r=true):jw p r=true:=by
 unfold jw at*;split at a<;>split at b<;>split<;>simp_all<;>lia
theorem vX{p q:Int×Int}(a:jw p q=true):jw q p=false:=by
 unfold jw at*;split at a<;>split<;>simp_all<;>lia
theorem Aj{p q:Int×Int}(h:p≠q):jw p q=true∨jw q p=true:=by
 unfold jw;by_cases e:p.1=q.1
 ·have:p.2≠q.2:=fun z=>h (Prod.ext e z)
  simp[e];lia
 ·have e':¬q.1=p.1:=fun z=>e z.symm
  simp[e,e'];lia
section
variable{prog:Program}{w:World}{A:Around}{E:Value→Shared→Prop}{s:Shared}
def qk(h:Heap)(x:Addr)(p:Int×Int):Prop:=∃o t u n,h.get? x=some o∧o.cls= .type "tuple"∧o.data= .seq #[.int p.1 t, .int p.2 u] n
theorem GO{x y:Addr}{p q:Int×Int}{C:Bool→Shared→Prop}(hx:qk s.heap x p)(hy:qk s.heap y q)(h:C (jw p q) s):wpAny (model prog w) A (keyLt' (tuples' true) (.ref x) (.ref y)) C E s:=by
 obtain⟨ox,t,u,n,h1,h2,h3⟩:=hx;obtain⟨oy,t',u',n',g1,g2,g3⟩:=hy;refine kat_lt h1 h3 g1 g3 (kat_cons ?_);have e0:SeqAt.EqAt A s (.int p.1 t) (.int q.1 t') (kO (.int p.1) (.int q.1)):=sd ⟨t,rfl⟩ ⟨t',rfl⟩ rfl rfl;have e1:SeqAt.EqAt A s (.int p.2 u) (.int q.2 u') (kO (.int p.2) (.int q.2)):=sd ⟨u,rfl⟩ ⟨u',rfl⟩ rfl rfl;refine e0 _ _ _ _ ?_;by_cases a:p.1=q.1
 ·have:kO (.int p.1) (.int q.1)=true:=by simp[kO,a]
  rw[this];refine kat_yes (kat_cons (e1 _ _ _ _ ?_));by_cases b:p.2=q.2
  ·have:kO (.int p.2) (.int q.2)=true:=by simp[kO,b]
   rw[this];refine kat_yes (kat_nil ?_);have:jw p q=decide (#[Value.int p.1 t, .int p.2 u].size<#[Value.int q.1 t', .int q.2 u'].size):=by simp[jw,a,b]
   rw[this]at h;exact h
  ·have:kO (.int p.2) (.int q.2)=false:=by simp[kO,b]
   rw[this];refine kat_no (kat_one _ _ (lt_int ?_));have:jw p q=decide (p.2<q.2):=by simp[jw,a]
   rw[this]at h;exact h
 ·have:kO (.int p.1) (.int q.1)=false:=by simp[kO,a]
  rw[this];refine kat_no (oneLt_int ?_);have:jw p q=decide (p.1<q.1):=by simp[jw,a]
  rw[this]at h;exact h
theorem zf{h:Heap}:∀{its:List Value},(∀v∈its,∃x p,v= .ref x∧qk h x p)→∃fs,KatTups h its fs∧fs.length=its.length∧∀f∈fs,∃i t,f=Value.int i t
 |[],_=>⟨[], .nil,rfl,fun f hf=>by cases hf⟩
 |v::r,hv=>by
  obtain⟨x,p,rfl,o,t,u,n,h1,h2,h3⟩:=hv v (List.mem_cons_self ..);obtain⟨fs,k1,k2,k3⟩:=zf (its:=r) fun v Sj=>hv v (List.mem_cons_of_mem _ Sj)
  refine⟨.int p.1 t::fs, .cons h1 h2 h3 rfl k1,by simp[k2],fun f hf=>?_⟩;rcases List.mem_cons.mp hf with rfl|hf
  ·exact⟨_,_,rfl⟩
  ·exact k3 f hf
theorem HN{its:List Value}{Q:SortKind→Shared→Prop}(gO:0<its.length)(hv:∀v∈its,∃x p,v= .ref x∧qk s.heap x p)(h:Q (tuples' true) s):wpAny (model prog w) A (keyKind' its.toArray) Q E s:=by
 obtain⟨fs,k1,k2,k3⟩:=zf hv;refine kat_kind (T:= .type "int") k1 Nz (fun v hv=>?_) (QY) h;obtain⟨i,t,rfl⟩:=k3 v hv;exact .now
end
theorem CQ{l:List Nat}{f:Nat→V}{g:Nat→Value}(h:∀i∈l,RelV (f i) (g i)):Vals (l.map f) (l.map g):=by
 induction l with
 |nil=>exact .nil
 |cons i r ih=>exact .cons (h i (List.mem_cons_self ..)) (ih fun j hj=>h j (List.mem_cons_of_mem _ hj))
end L2
namespace QF
open PySem L2 PySem.Spec PyProof.Rows PySem.W PySem.Calls
end QF
namespace L2
open PySem PySem.Spec PyProof.Rows PySem.W PySem.Calls
open AutoSeq1 (wpAny_loadPart')
theorem Rl{A:Around}{s:Shared}{i j:Int}{t u:Tok}:SeqAt.EqAt A s (.int i t) (.int j u) (decide (i=j)):=by
 have:=sd (A:=A) (s:=s) (y:= .int i) (x:= .int j) ⟨t,rfl⟩ ⟨u,rfl⟩ rfl rfl;simpa[kO,Bool.beq_eq_decide_eq]using this
theorem TQ{prog:Program}{w:World}{A:Around}{E:Value→Shared→Prop}{s:Shared}{i j:Int}{t u:Tok}{Q:Value→Shared→Prop}(h:Q (.bool (decide (i<j))) s):wpAny (model prog w) A (richCompare .Lt (.int i t) (.int j u)) Q E s:=lt_int h
theorem KH(l b:Addr)(p q:Int×Int)(t u t' u':Tok)(n n2:Nat)(dd Ra:Option Addr)(sl DT:Array (Option Value)):
  Meets (Builtin.«tuple.__lt__» ⟨[.ref l, .ref b],[]⟩) (fun A R s=>s.heap.get? l=some {cls:= .type "tuple",dict:=dd,data:= .seq #[.int p.1 t, .int p.2 u] n,slots:=sl}∧s.heap.get? b=some {cls:= .type "tuple",dict:=Ra,data:= .seq #[.int q.1 t', .int q.2 u'] n2,slots:=DT}∧
    R (.ok (.ret (.bool (jw p q)))) s):=
 .of_wp fun prog w A R s h=>by
  obtain⟨hp,g,d,tk,os⟩:=s;obtain⟨hl,hb,h⟩:=h;have f2:=AutoSeq1.sub_tuple_tuple
  wp_walk using wpAny_loadPart' hl,wpAny_loadPart' hb
  refine(show wpAny (model prog w) A.in1 (eqBool (.int p.1 t) (.int q.1 t')) _ _ _ from Rl _ _ _ _ ?_);by_cases a:p.1=q.1
  ·rw[decide_eq_true a]
   wp_walk
   refine(show wpAny (model prog w) A.in1 (eqBool (.int p.2 u) (.int q.2 u')) _ _ _ from Rl _ _ _ _ ?_);by_cases c:p.2=q.2
   ·rw[decide_eq_true c]
    wp_walk
    have e:jw p q=false:=by simp[jw,a,c]
    rw[e]at h;exact⟨_,rfl,h⟩
   ·rw[decide_eq_false c];have e:jw p q=decide (p.2<q.2):=by simp[jw,a]
    rw[e]at h
    wp_walk using TQ
    exact⟨_,rfl,h⟩
  ·rw[decide_eq_false a];have e:jw p q=decide (p.1<q.1):=by simp[jw,a]
   rw[e]at h
   wp_walk using TQ
   exact⟨_,rfl,h⟩
theorem EV{prog:Program}{w:World}{A:Around}{E:Value→Shared→Prop}{s:Shared}{x y:Addr}{p q:Int×Int}{Q:Value→Shared→Prop}(hu:A.units<cLine)(hx:qk s.heap x p)(hy:qk s.heap y q)(h:Q (.bool (jw p q)) s):wpAny (model prog w) A (compareOp .Lt (.ref x) (.ref y)) Q E s:=by
 obtain⟨⟨c,dd,da,sl⟩,t,u,n,h1,h2,h3⟩:=hx;obtain⟨⟨c',NH,da',R1⟩,t',u',n',g1,g2,g3⟩:=hy;simp only at h2 h3 g2 g3;subst h2 h3 g2 g3;exact richCompare_meets_room (op:= .Lt) ⟨_,h1,rfl⟩ ⟨_,g1,rfl⟩ F.slot_tuple_lt F.entry_tuple_lt (F.args_tuple_lt_2 _ _) (KH x y p q t u t' u' n n' dd NH sl R1) ⟨h1,g1,show Value.bool (jw p q)≠Value.notImplemented∧Q (.bool (jw p q)) s from⟨(fun x=>nomatch x),h⟩⟩ hu
abbrev Kw:=Int×(Int×Int)
def CS(a b:Kw):Bool:=if a.1=b.1 then jw a.2 b.2 else decide (a.1<b.1)
theorem P_{p q r:Kw}(a:CS p q=true)(b:CS q r=true):CS p r=true:=by
 unfold CS at*;by_cases h1:p.1=q.1<;>by_cases h2:q.1=r.1
 ·rw[VH h1]at a;rw[VH h2]at b;rw[VH (h1.trans h2)];exact EU a b
 ·rw[M9 h2]at b;rw[M9 (by rw[h1];exact h2),h1];exact b
 ·rw[M9 h1]at a;rw[M9 (by rw[←h2];exact h1),←h2];exact a
 ·rw[M9 h1]at a;rw[M9 h2]at b;have a:=of_decide_eq_true a;have b:=of_decide_eq_true b;rw[M9 Nz];exact decide_eq_true Nz
theorem Qa{p q:Kw}(a:CS p q=true):CS q p=false:=by
 unfold CS at*;by_cases h1:p.1=q.1
 ·rw[VH h1]at a;rw[VH h1.symm];exact vX a
 ·rw[M9 h1]at a;rw[M9 (fun z=>h1 z.symm)];have a:=of_decide_eq_true a;exact decide_eq_false Nz
theorem MI{p q:Kw}(h:p≠q):CS p q=true∨CS q p=true:=by
 unfold CS;by_cases h1:p.1=q.1
 ·rw[VH h1,VH h1.symm];exact Aj fun z=>h (Prod.ext h1 z)
 ·rw[M9 h1,M9 (fun z=>h1 z.symm)];rcases Int.lt_or_lt_of_ne h1 with z|z
  ·exact .inl (decide_eq_true z)
  ·exact .inr (decide_eq_true z)
section
variable{prog:Program}{w:World}{A:Around}{E:Value→Shared→Prop}{s:Shared}
def KI(h:Heap)(x:Addr)(k:Kw):Prop:=∃o t y c,h.get? x=some o∧o.cls= .type "tuple"∧o.data= .seq #[.int k.1 t, .ref y] c∧qk h y k.2
theorem HP{x y:Addr}{p q:Int×Int}(hu:A.units+1<cLine)(hx:qk s.heap x p)(hy:qk s.heap y q):SeqAt.EqAt A s (.ref x) (.ref y) (decide (p=q)):=by
 obtain⟨o,t,u,n,h1,h2,h3⟩:=hx;obtain⟨o',t',u',n',g1,g2,g3⟩:=hy;by_cases e:x=y
 ·subst e;rw[h1]at g1;cases g1;rw[h3]at g3;injection g3 with g3 _;have g3:=congrArg Array.toList g3;simp at g3;have:p=q:=Prod.ext g3.1.1 g3.2.1;rw[decide_eq_true this];exact SeqAt.EqAt.same _
 ·have:=SeqAt.EqAt.of_refs e (SeqAt.RcAt.tuples (A:=A) (s:=s) (items:=#[.int p.1 t, .int p.2 u]) (items2:=#[.int q.1 t', .int q.2 u']) (e:=fun j=>if j=0 then decide (p.1=q.1)else decide (p.2=q.2)) ⟨o,h1,h2,n,h3⟩ ⟨o',g1,g2,n',g3⟩ Nz fun j h1 h2=>by
   have:j=0∨j=1:=by simp at h1;lia
   rcases this with rfl|rfl
   ·exact Rl
   ·exact Rl)
  have e2:((List.range (min #[Value.int p.1 t, .int p.2 u].size #[Value.int q.1 t', .int q.2 u'].size)).all (fun j=>if j=0 then decide (p.1=q.1)else decide (p.2=q.2))&&#[Value.int p.1 t, .int p.2 u].size==#[Value.int q.1 t', .int q.2 u'].size)=decide (p=q):=by
   simp[List.range_succ];by_cases a:p.1=q.1<;>by_cases b:p.2=q.2<;>simp[Prod.ext_iff,a,b]
  rw[e2]at this;exact this
theorem Qb{x y:Addr}{p q:Kw}{C:Bool→Shared→Prop}(hu:A.units+1<cLine)(hx:KI s.heap x p)(hy:KI s.heap y q)(h:C (CS p q) s):wpAny (model prog w) A (keyLt' (tuples' true) (.ref x) (.ref y)) C E s:=by
 obtain⟨ox,t,z,n,h1,h2,h3,h4⟩:=hx;obtain⟨oy,t',z',n',g1,g2,g3,g4⟩:=hy;refine kat_lt h1 h3 g1 g3 (kat_cons (Rl _ _ _ _ ?_));by_cases a:p.1=q.1
 ·rw[decide_eq_true a];refine kat_yes (kat_cons (HP hu h4 g4 _ _ _ _ ?_));have e:CS p q=jw p.2 q.2:=VH a;by_cases b:p.2=q.2
  ·rw[decide_eq_true b];refine kat_yes (kat_nil ?_);have:CS p q=decide (#[Value.int p.1 t, .ref z].size<#[Value.int q.1 t', .ref z'].size):=by rw[e,b];simp[jw]
   rw[this]at h;exact h
  ·rw[decide_eq_false b];rw[e]at h;exact kat_no (kat_one _ _ (EV Nz h4 g4 h))
 ·rw[decide_eq_false a];have e:CS p q=decide (p.1<q.1):=M9 a;rw[e]at h;exact kat_no (oneLt_int h)
end
theorem Qc{X:Cx}{cm:Bool}{k:Nat}{f:Addr}{fd:FuncData}{ps:List Str}{sp:Sp}{A':Around}{pins:List (Addr×Obj)}{σ:St}{H:Hp}{s:Shared}{Q:VK}{us:List Value}{vs:List V}{E:Value→Shared→Prop}
  (F:bE X.prog X.w X.K X.mg X.base (de X.prog X.w) cm k f fd ps sp) (hr:dY cm k A') (hf:A'.frames=X.A.frames) (hb:Binds X.K fd ps []) (I:Inv X pins σ H s) (r:Vals vs us) (h:sp vs H Q E0):
  wpAny (model X.prog X.w) A' (call (.ref f) us) (EP X pins σ Q) E s:=by
 have hl:(us++[]).length=ps.length:=by rw[List.append_nil,←r.length];exact F.len _ _ _ _ h
 have Rh:=hb s us I.pZ hl;rw[List.append_nil]at Rh;refine wpAny_call (codeAny_mono (F.run A' X.stack s H ⟨us,[]⟩ us vs Q E0 hr {I.O6 with frames:=by rw[hf];exact I.ok.frames} Rh r h) fun r s' hq=>?_);cases r with
 |error e=>obtain⟨_,_,_,_,_,_,_,_,_,_,_,_,_,h⟩:=hq;exact h.elim
 |ok fl=>
  cases fl with
  |ret u=>exact I.after hq
  |next=>exact False.elim hq
  |brk=>exact False.elim hq
  |cont=>exact False.elim hq
end L2
namespace QF
open PySem L2 PySem.Spec PyProof.Rows PySem.W PySem.Calls
def kl(ws:List Kw)(i j:Nat):Bool:=CS (ws.getD i (0,(0,0))) (ws.getD j (0,(0,0)))
section
variable{X:Cx}{cm:Bool}{k:Nat}{f:Addr}{fd:FuncData}{ps:List Str}{sp:Sp}{A':Around}{pins:List (Addr×Obj)}{σ:L2.St}{H:Hp}{s:Shared}{E:Value→Shared→Prop}{a kS:Addr}{vs:List Value}{xs:List V}{ws:List Kw}{e1:Nat}{P:PySem.Fin→Shared→Prop}
end
end QF
namespace L2
open PySem PySem.Spec PyProof.Rows PySem.W PySem.Calls
def Ro(hi:Int)(n:Nat):It:=⟨fun i _=>i<n,fun i H x H'=>H'=H∧x= .int (hi-i),fun i _=>n≤i⟩
theorem HQ{P:Program}{w:World}{K:PySem.W.Frag}{tg:Expr}(it:Addr)(hi:Int)(n:Nat):Turn P w K tg (Ro hi n) [it] it (fun i h=>IsRangeIter h it (hi+(i:Nat)*(-1)) ((n:Int)-(i:Nat)) (-1)) where
 mem:=Xx
 obj:=fun i h st b hb=>by
  have e:b=it:=by simpa using hb
  subst e;exact⟨_,st,fun v z=>by
   have z':Data.fields _=Data.cell v:=z;cases z'⟩
 keep:=fun i h h' st k=>k it (Xx) _ st
 item:=by
  intro X hP hw hK hc i pins s σ H E I hf st hg;subst hP hw hK;obtain⟨f0,f1,f2,f3,f4,f5⟩:=hf it (Xx);have W:=Walks.range (prog:=X.prog) (w:=X.w) (I.ok.hd hc) it hi (-1) n;refine W.item i s _ _ hg st fun v h' tk hv jh kk=>?_
  obtain⟨t,rfl⟩:=hv;have I1:Inv X pins σ H {s with heap:=h',toks:=tk}:=I.turned (fun b o hb e=>kk b o (by simpa using hb) e) f0 f1 f3 f4 f5;refine⟨_,rfl,Cr (s:={s with heap:=h',toks:=tk}) (n:="range_iterator") jh rfl rfl (QY) ⟨.int (hi-i),H,I1,⟨t,?_⟩,⟨rfl,rfl⟩,jh,fun b hb=>(hf b hb).1⟩⟩
  congr 1
  lia
 done:=by
  intro X hP hw hK hc i pins s σ H E I hf st hg;subst hP hw hK;obtain⟨f0,f1,f2,f3,f4,f5⟩:=hf it (Xx);exact wpAny_pyNext_range_end (I.ok.hd hc) st (by have:n≤i:=hg;lia) fun h' eb=>⟨rfl,I.turned (t':=s.toks) (fun b o hb e=>eb b o hb e) f0 f1 f3 f4 f5⟩
 self:=fun _ _ _ _ _ st h=>wpAny_pyIter_rangeiter st h
theorem rangeSize_down(a b:Int):Builtin.Range.rangeSize a b (-1)=if a>b then a-b else 0:=by
 unfold Builtin.Range.rangeSize;rw[if_neg Ε];split<;>simp
theorem small_down{a b:Int}(ha:-(2^62)≤a)(TU:a<2^62)(hb:-(2^62)≤b)(Rh:b<2^62):Builtin.Range.small a b (-1)=true:=by
 unfold Builtin.Range.small;rw[rangeSize_down];simp only[Builtin.Range.rangeFitsLong,Bool.and_eq_true,Bool.or_eq_true,decide_eq_true_eq,beq_iff_eq,show ¬(-1:Int)>0 by decide,if_false];split<;>lia
section
variable{X:Cx}{tg:Expr}
theorem MJ{pins:List (Addr×Obj)}{σ:L2.St}{H:Hp}{s:Shared}{R:It→Hp→Prop}{E:Value→Shared→Prop}{hi lo:Int}{t u v:Tok}{tk:Nat}(I:Inv X pins σ H s)(h1:-(2^62)≤hi)(h2:hi<2^62)(h3:-(2^62)≤lo)(h4:lo<2^62)
  (q:R (Ro hi (hi-lo).toNat) H):wpAny (model X.prog X.w) X.A (pyIter (.ref s.heap.objs.size)) (WL X pins σ tg R) E {s with heap:=s.heap.push {cls:= .type "range",data:= .fields #[.int hi t, .int lo u, .int (-1) v]},toks:=tk}:=by
 refine wpAny_pyIter_range (IsRange.new ..) (small_down h1 h2 h3 h4) ?_;have I1:Inv X pins σ H {s with heap:=s.heap.push {cls:= .type "range",data:= .fields #[.int hi t, .int lo u, .int (-1) v]},toks:=tk}:=I.kept fun b o e=>Ο e
 refine⟨(s.heap.push {cls:= .type "range",data:= .fields #[.int hi t, .int lo u, .int (-1) v]}).objs.size,[(s.heap.push {cls:= .type "range",data:= .fields #[.int hi t, .int lo u, .int (-1) v]}).objs.size],_,_,H,rfl,
  I1.kept (t':=tk) fun b o e=>Ο e,HQ _ hi (hi-lo).toNat,?_,fun b hb=>?_,q⟩
 ·have e1:hi+((0:Nat):Int)*(-1)=hi:=Xx;have e2:(((hi-lo).toNat:Nat):Int)-((0:Nat):Int)=Builtin.Range.rangeSize hi lo (-1):=by rw[rangeSize_down];split<;>lia
  show IsRangeIter _ _ (hi+((0:Nat):Int)*(-1)) ((((hi-lo).toNat:Nat):Int)-((0:Nat):Int)) (-1);rw[e1,e2];exact Heap.get?_push_size _ rfl
 ·have e:b=(s.heap.push {cls:= .type "range",data:= .fields #[.int hi t, .int lo u, .int (-1) v]}).objs.size:=by simpa using hb
  subst e;exact I1.xN Ξ (I1.cC.fresh Ξ)
def TX(ta:TA):TI:=fun σ H R=>ta σ H fun vs H1=>∃i j:Int,vs=[.int i, .int j, .int (-1)]∧(-(2^30)≤i∧i<2^30∧-(2^30)≤j∧j<2^30)∧R (Ro i (i-j).toNat) H1
theorem zg{a b c:Expr}{ta:TA}{p pos:Pos}(hg:Gl X "range")(hm:X.mg "range"=none)(ha:PA X [a,b,c] ta)(hs:starEach [a,b,c] X.env=[(false,eval a X.env),(false,eval b X.env),(false,eval c X.env)]:=by rfl)(O3:starEach [b,c] X.env=[(false,eval b X.env),(false,eval c X.env)]:=by rfl):
  PI X tg (.Call (.Name "range" p) [a,b,c] [] pos) (TX ta):=by
 intro pins s σ H R I h;refine Call_ (mY I hg hm boot_range (PyProof.Rows.callWith_type1 (cY (ha pos pins s σ H _ I h) fun us s1 ⟨vs,H1,I1,r1,q1⟩=>?_) (by rw[hs,O3]) (by rw[O3];rfl)));obtain⟨i,j,e,⟨q1,q2,q3,q4⟩,q⟩:=q1;subst e;cases r1 with
 |cons r rr=>
  cases rr with
  |cons r' rr=>
   cases rr with
   |cons r2 rr=>
    cases rr;obtain⟨t,rfl⟩:=r;obtain⟨t',rfl⟩:=r';obtain⟨t2,rfl⟩:=r2;exact call_range_3 Ε (MJ I1 Nz (by lia) (by lia) (by lia) q) (Or.inl (PyProof.noPylong_small Nz))
theorem CU{hi:Int}{n:Nat}{g:TG}{tb:TS}{D:Ends}{σ:L2.St}{H:Hp}(Pv:Nat→L2.St→Hp→Prop)(h0:Pv 0 σ H)
  (hs:∀i σ H,i<n→Pv i σ H→g (.int (hi-i)) σ H fun gh H2=>tb {D with nx:=Pv (i+1),ct:=Pv (i+1),bk:=D.nx} gh H2) (hd:∀σ H,Pv n σ H→D.nx σ H):
  ∃W:Nat→Nat→L2.St→Hp→Prop,(∃m,W 0 m σ H)∧∀i m σ H,W i m σ H→
   ((Ro hi n).stop i H∧D.nx σ H)∨((Ro hi n).go i H∧∃N:L2.St→Hp→Prop,(∀bG H',N bG H'→∃m',m'<m∧W (i+1) m' bG H')∧∀x H',(Ro hi n).Lo i H x H'→g x σ H' fun gh H2=>tb {D with nx:=N,ct:=N,bk:=D.nx} gh H2):=by
 refine⟨fun i m σ H=>m=n-i∧i≤n∧Pv i σ H,⟨n,Xx,Nat.zero_le _,h0⟩,?_⟩;rintro i m σ H ⟨rfl,Mi,p⟩;by_cases jv:i<n
 ·refine .inr ⟨jv,Pv (i+1),fun bG H' p'=>⟨n-(i+1),by lia,rfl,jv,p'⟩,fun x H' y=>?_⟩;obtain⟨e,y⟩:=y;subst e y;exact hs i σ _ jv p
 ·have e:i=n:=by lia
  subst e;exact .inl ⟨Nat.le_refl _,hd σ H p⟩
end
theorem HR{d:Addr}{o:Obj}{kvs:List (List Key×V)}{ls:List Str}{js:List Nat}{g:TG}{tt:TT}{te:TE}{σ:L2.St}{H1:Hp}{D:Addr}{Q:VK}(Pv:Nat→List V→L2.St→Hp→Prop)
  (h0:Pv 0 [] (nh ls js σ) (upd H1 D (.lst []))) (hl:∀i ys σ H,i≤kvs.length→Pv i ys σ H→H d=some (.ve o (.dT kvs)))
  (hs:∀i p ys σ H,kvs[i]?=some p→Pv i ys σ H→g p.2 σ H fun gh H3=>tt gh H3 fun b H4=>if b=true then te gh H4 fun y H5=>H5 D=some (.lst ys)∧ys.length<sizeLine∧Pv (i+1) (ys++[y]) gh (upd H5 D (.lst (ys++[y])))else Pv (i+1) ys gh H4)
  (hd:∀ys σ H,Pv kvs.length ys σ H→Q (.ref D) H):vM (Xz d o kvs) ls js g tt te σ H1 D Q:=
 qf (n:=kvs.length) Pv h0 (fun i ys σ H hi p=>⟨hl i ys σ H (Nat.le_of_lt hi) p,hi⟩) (fun ys σ H p=>⟨hl _ ys σ H Ξ p,Nat.le_refl _⟩)
  (fun i ys σ H x H2 hi p y=>by
   obtain⟨rfl,q,hq,rfl⟩:=y;exact hs i q ys σ _ hq p) hd
theorem KJ{X:Cx}{cm:Bool}{k:Nat}{x:Str}{C:Addr}{ps:List Str}{nW:List V}{sp:Sp}{E:L2.St→XK}{p pos:Pos}(D:j5 X.prog X.w X.K X.mg X.base cm k x C ps nW sp)(hr:dY cm (k+1) X.A)(hx:Passes (de X.prog X.w) X E)(hg:Gl X x:=by rfl)(xO:(x==("__debug__":Str))=false:=by decide):
  PE X (.Call (.Name x p) [] [] pos) (Gf C sp nW E JD):=by
 obtain⟨f,fd,ds,ok,M,hm,hb,hd⟩:=D;exact JG M ok hr hg hm hb hd hx xO
end L2
namespace QF
open PySem L2
structure sF(H:Hp)(C x dx e b:Addr)(es bs:List Addr)(f:Nat→Nat→Option Int)(o p:Int)(n m:Nat):Prop where
 ob:H x=some (.ins C dx (ik o p e b))
 he:H e=some (.lst (es.map V.ref))
 te:jF H es (dZ f o p) n m
 hb:H b=some (.lst (bs.map V.ref))
 tb:jF H bs (Bq f o p) (n+1) (m+1)
theorem sF.keep{H H':Hp}{C x dx e b:Addr}{es bs:List Addr}{f:Nat→Nat→Option Int}{o p:Int}{n m:Nat}(t:sF H C x dx e b es bs f o p n m)(s:av H H'):sF H' C x dx e b es bs f o p n m:=
 ⟨s _ _ t.ob,s _ _ t.he,t.te.same s,s _ _ t.hb,t.tb.same s⟩
theorem KL(o p:Int)(e b:Addr):(ik o p e b).lookup ("goes_on":Str)=none:=by kernel_rfl
theorem GP(o p:Int)(e b:Addr):(ik o p e b).lookup ("crossings_before":Str)=none:=by kernel_rfl
theorem N0(o p:Int)(e b:Addr):(ik o p e b).lookup ("is_brought_by":Str)=none:=by kernel_rfl
theorem Qd(o p:Int)(e b:Addr):(ik o p e b).lookup ("pair_before":Str)=none:=by kernel_rfl
theorem TY(o p:Int)(e b:Addr):(ik o p e b).lookup ("way_to":Str)=none:=by kernel_rfl
def il:Option Int→Bool
 |none=>false
 |some b=>decide (0≤b)
def bX(f:Nat→Nat→Option Int)(o p:Int)(i j:Nat):List Pr:=
 (if cc (Bq f o p i (j+1)) o=Bq f o p (i+1) (j+1)then[((i:Int),((j+1:Nat):Int))]else[])++(if cc (Bq f o p (i+1) j) p=Bq f o p (i+1) (j+1)then[(((i+1:Nat):Int),(j:Int))]else[])
def dh(f:Nat→Nat→Option Int)(o p:Int):Nat→Nat→Nat×Nat
 |0,_=>(0,0)
 | _+1,0=>(0,0)
 |i+1,j+1=>if dZ f o p i j=Bq f o p (i+1) (j+1)then(i,j)else if cc (Bq f o p i (j+1)) o=Bq f o p (i+1) (j+1)then dh f o p i (j+1)else dh f o p (i+1) j
termination_by i j=>(i,j)
theorem lW(f:Nat→Nat→Option Int)(o p:Int):∀i j,0<i→0<j→(dh f o p i j).1<i∧(dh f o p i j).2<j∨Bq f o p i j=none
 |0,_,h,_=>absurd h Nz
 | _+1,0,_,h=>absurd h Nz
 |i+1,j+1,_,_=>by
  cases hB:Bq f o p (i+1) (j+1)with
  |none=>exact .inr rfl
  |some v=>
   left
   unfold dh;by_cases h1:dZ f o p i j=Bq f o p (i+1) (j+1)
   ·rw[VH h1];exact⟨Xx,Xx⟩
   ·rw[M9 h1];by_cases h2:cc (Bq f o p i (j+1)) o=Bq f o p (i+1) (j+1)
    ·rw[VH h2];have hn:Bq f o p i (j+1)≠none:=fun z=>by rw[z,hB]at h2;simp[cc]at h2
     have hi:0<i:=by
      cases i with
      |zero=>exact absurd (jm f o p (j+1)) hn
      |succ i=>lia
     rcases lW f o p i (j+1) hi Nz with z|z
     ·exact⟨by lia,z.2⟩
     ·exact absurd z hn
    ·rw[M9 h2];have hn:Bq f o p (i+1) j≠none:=fun z=>by
      have e:Bq f o p (i+1) (j+1)=qi [dZ f o p i j,cc (Bq f o p i (j+1)) o,cc (Bq f o p (i+1) j) p]:=by
       rw[Bq];rfl
      rw[z]at e;have:cc none p=(none:Option Int):=rfl;rw[this]at e;have key:∀a b:Option Int,qi [a,b,none]=a∨qi [a,b,none]=b:=fun a b=>by
       cases a<;>cases b<;>simp[qi]
       rename_i x y
       by_cases MK:x≤y
       ·right;lia
       ·left;lia
      rcases key (dZ f o p i j) (cc (Bq f o p i (j+1)) o)with k|k
      ·exact h1 (by rw[e,k])
      ·exact h2 (by rw[e,k])
     have hj:0<j:=by
      cases j with
      |zero=>exact absurd (by unfold Bq;rfl) hn
      |succ j=>lia
     rcases lW f o p (i+1) j Nz hj with z|z
     ·exact⟨z.1,by lia⟩
     ·exact absurd z hn
termination_by i j=>(i,j)
def fh(f:Nat→Nat→Option Int)(o p:Int):Nat→Nat→Nat→List (Nat×Nat)
 |0,i,j=>[(i,j)]
 |k+1,i,j=>if il (Bq f o p i j)=true then fh f o p k (dh f o p i j).1 (dh f o p i j).2++[(i,j)]else[(i,j)]
def bp(q:Nat×Nat):Pr:=((q.1:Int),(q.2:Int))
inductive sJ(C CT:Addr)(vs:List V)(H:Hp)(Q:VK)(u3:XK):Prop
 |mk (x dx w t:Addr) (c:Case) (as:List Addr) (f:Nat→Nat→Option Int) (n m:Nat) (_:vs=[.ref x, .ref w, .ref t]) (_:H x=some (.ins C dx [])) (_:H dx=some (.own x)) (_:H w=some (.lst (as.map V.ref))) (_:jF H as f n m) (_:uC H CT t c) (_:n≤1000) (_:m≤1000) (_:∀H' e b,SameBut x H H'→H' x=some (.ins C dx (ik c.out c.into e b))→Tab H H' e (dZ f c.out c.into) n m→(0<n→Tab H H' b (Bq f c.out c.into) (n+1) (m+1))→Q .cF H'):sJ C CT vs H Q u3
inductive Ak(C:Addr)(vs:List V)(H:Hp)(Q:VK)(u3:XK):Prop
 |mk (x dx e b:Addr) (es bs:List Addr) (f:Nat→Nat→Option Int) (o p:Int) (n m:Nat) (pr:Addr) (i j:Nat) (_:vs=[.ref x, .ref pr]) (_:sF H C x dx e b es bs f o p n m) (_:H pr=some (.tup [.int i, .int j])) (_:i≤n) (_:j≤m) (_:Q (.bl (il (Bq f o p i j))) H):Ak C vs H Q u3
inductive EW(C:Addr)(vs:List V)(H:Hp)(Q:VK)(u3:XK):Prop
 |mk (x dx e b:Addr) (es bs:List Addr) (f:Nat→Nat→Option Int) (o p:Int) (n m:Nat) (cr pr:Addr) (i j k l:Nat) (_:vs=[.ref x, .ref cr, .ref pr]) (_:sF H C x dx e b es bs f o p n m) (_:H cr=some (.tup [.int i, .int j])) (_:H pr=some (.tup [.int k, .int l])) (_:i≤n) (_:j≤m) (_:k<n) (_:l<m) (_:Q (.bl (decide (dZ f o p k l=Bq f o p i j))) H):EW C vs H Q u3
inductive vY(C:Addr)(vs:List V)(H:Hp)(Q:VK)(u3:XK):Prop
 |mk (x dx e b:Addr) (es bs:List Addr) (f:Nat→Nat→Option Int) (o p:Int) (n m:Nat) (cr:Addr) (i j:Nat) (_:vs=[.ref x, .ref cr]) (_:sF H C x dx e b es bs f o p n m) (_:H cr=some (.tup [.int ((i+1:Nat):Int), .int ((j+1:Nat):Int)])) (_:i<n) (_:j<m) (_:∀H' r us,av H H'→H r=none→H' r=some (.lst us)→iX H' us (bX f o p i j)→Q (.ref r) H'):vY C vs H Q u3
inductive Al(C:Addr)(vs:List V)(H:Hp)(Q:VK)(u3:XK):Prop
 |mk (x dx e b:Addr) (es bs:List Addr) (f:Nat→Nat→Option Int) (o p:Int) (n m:Nat) (pr:Addr) (i j:Nat) (_:vs=[.ref x, .ref pr]) (_:sF H C x dx e b es bs f o p n m) (_:H pr=some (.tup [.int i, .int j])) (_:i≤n) (_:j≤m) (_:Bq f o p i j≠none) (_:∀H' r,av H H'→H' r=some (.tup (mU (bp (dh f o p i j))))→Q (.ref r) H'):Al C vs H Q u3
inductive EX(C:Addr)(vs:List V)(H:Hp)(Q:VK)(u3:XK):Prop
 |mk (x dx e b:Addr) (es bs:List Addr) (f:Nat→Nat→Option Int) (o p:Int) (n m:Nat) (pr:Addr) (i j:Nat) (_:vs=[.ref x, .ref pr]) (_:sF H C x dx e b es bs f o p n m) (_:H pr=some (.tup [.int i, .int j])) (_:i<n) (_:j<m) (_:n≤1000) (_:∀H' r us,av H H'→H r=none→H' r=some (.lst us)→iX H' us ((fh f o p i i j).map bp)→Q (.ref r) H'):EX C vs H Q u3
theorem mx3(a b:Option Int):qi [a,b,none]=a∨qi [a,b,none]=b:=by
 cases a<;>cases b<;>simp[qi]
 rename_i x y
 by_cases MK:x≤y
 ·right;lia
 ·left;lia
theorem CV{f:Nat→Nat→Option Int}{o p:Int}{i j:Nat}(hB:Bq f o p (i+1) (j+1)≠none)(h1:dZ f o p i j≠Bq f o p (i+1) (j+1)):
  ∃i2 j2,(bX f o p i j)[0]?=some (bp (i2+1,j2+1))∧i2≤i∧j2≤j∧i2+j2<i+j∧Bq f o p (i2+1) (j2+1)≠none∧dh f o p (i2+1) (j2+1)=dh f o p (i+1) (j+1):=by
 by_cases h2:cc (Bq f o p i (j+1)) o=Bq f o p (i+1) (j+1)
 ·have hn:Bq f o p i (j+1)≠none:=fun z=>by rw[z]at h2;exact hB h2.symm
  cases i with
  |zero=>exact absurd (jm f o p (j+1)) hn
  |succ i=>
   refine⟨i,j,?_,by lia,by lia,by lia,hn,?_⟩
   ·unfold bX;rw[VH h2];rfl
   ·conv=>rhs;unfold dh
    rw[M9 h1,VH h2]
 ·have hn:Bq f o p (i+1) j≠none:=fun z=>by
   have e:Bq f o p (i+1) (j+1)=qi [dZ f o p i j,cc (Bq f o p i (j+1)) o,cc (Bq f o p (i+1) j) p]:=by rw[Bq];rfl
   rw[z,show cc none p=(none:Option Int)from rfl]at e;rcases mx3 (dZ f o p i j) (cc (Bq f o p i (j+1)) o)with k|k
   ·exact h1 (by rw[e,k])
   ·exact h2 (by rw[e,k])
  have h3:cc (Bq f o p (i+1) j) p=Bq f o p (i+1) (j+1):=by
   have e:Bq f o p (i+1) (j+1)=qi [dZ f o p i j,cc (Bq f o p i (j+1)) o,cc (Bq f o p (i+1) j) p]:=by rw[Bq];rfl
   have key:∀a b c:Option Int,qi [a,b,c]≠a→qi [a,b,c]≠b→c=qi [a,b,c]:=fun a b c=>by
    cases a<;>cases b<;>cases c<;>simp[qi]<;>lia
   rw[e];exact key _ _ _ (fun z=>h1 (by rw[e];exact z.symm)) (fun z=>h2 (by rw[e];exact z.symm))
  cases j with
  |zero=>exact absurd (by unfold Bq;rfl) hn
  |succ j=>
   refine⟨i,j,?_,by lia,by lia,by lia,hn,?_⟩
   ·unfold bX;rw[M9 h2,VH h3];rfl
   ·conv=>rhs;unfold dh
    rw[M9 h1,M9 h2]
theorem lD{f:Nat→Nat→Option Int}{o p:Int}{i j:Nat}(h:il (Bq f o p i j)=true):0<i∧0<j∧Bq f o p i j≠none:=by
 have hn:Bq f o p i j≠none:=fun z=>by rw[z]at h;cases h
 refine⟨?_,?_,hn⟩
 ·cases i with
  |zero=>exact absurd (jm f o p j) hn
  |succ i=>lia
 ·cases j with
  |zero=>cases i with
   |zero=>exact absurd (jm f o p 0) hn
   |succ i=>exact absurd (by unfold Bq;rfl) hn
  |succ j=>lia
theorem iB{f:Nat→Nat→Option Int}{o p:Int}{i j:Nat}(h:¬il (Bq f o p i j)=true):∀k,fh f o p k i j=[(i,j)]
 |0=>rfl
 |k+1=>by rw[fh,M9 h]
theorem HS(f:Nat→Nat→Option Int)(o p:Int)(i:Nat):∀k k' j,i≤k→i≤k'→fh f o p k i j=fh f o p k' i j:=by
 induction i using Nat.strongRecOn with
 |ind i ih=>
  intro k k' j h h';by_cases hg:il (Bq f o p i j)=true
  ·obtain⟨a,b,c⟩:=lD hg;have hl:=(lW f o p i j a b).resolve_right c;obtain⟨k,rfl⟩:∃k1,k=k1+1:=⟨k-1,by lia⟩
   obtain⟨k',rfl⟩:∃k1,k'=k1+1:=⟨k'-1,by lia⟩
   rw[fh,fh,VH hg,VH hg,ih _ hl.1 k k' _ (by lia) (by lia)]
  ·rw[iB hg,iB hg]
theorem zh{f:Nat→Nat→Option Int}{o p:Int}{i j:Nat}(h:il (Bq f o p i j)=true):fh f o p i i j=fh f o p (dh f o p i j).1 (dh f o p i j).1 (dh f o p i j).2++[(i,j)]:=by
 obtain⟨a,b,c⟩:=lD h;have hl:=(lW f o p i j a b).resolve_right c;obtain⟨i,rfl⟩:∃k1,i=k1+1:=⟨i-1,by lia⟩
 rw[fh,VH h,HS f o p _ i _ _ (by lia) (Nat.le_refl _)]
structure N1(K:W.Frag)(C:Addr):Prop where
 cl:xH K C
 worth:bJ K C "worth"
 way:bJ K C "way"
 row:bJ K C "row"
 pairs:bJ K C "pairs"
def oP(w:Int)(a r p:Addr):List (Str×V):=[("worth", .int w),("way", .ref a),("row", .ref r),("pairs", .ref p)]
theorem CY(w:Int)(a r p:Addr):(oP w a r p).lookup ("worth":Str)=some (V.int w):=by kernel_rfl
theorem Qe(w:Int)(a r p:Addr):(oP w a r p).lookup ("way":Str)=some (V.ref a):=by kernel_rfl
theorem Qf(w:Int)(a r p:Addr):(oP w a r p).lookup ("row":Str)=some (V.ref r):=by kernel_rfl
theorem vZ(w:Int)(a r p:Addr):(oP w a r p).lookup ("pairs":Str)=some (V.ref p):=by kernel_rfl
theorem Qg(w:Int)(a r p:Addr):bq "pairs" (.ref p) (bq "row" (.ref r) (bq "way" (.ref a) (bq "worth" (.int w) [])))=oP w a r p:=by kernel_rfl
inductive v7(C:Addr)(vs:List V)(H:Hp)(Q:VK)(u3:XK):Prop
 |mk (x dx a r p:Addr) (w:Int) (_:vs=[.ref x, .int w, .ref a, .ref r, .ref p]) (_:H x=some (.ins C dx [])) (_:Q .cF (upd H x (.ins C dx (oP w a r p)))):v7 C vs H Q u3
inductive v8(C:Addr)(vs:List V)(H:Hp)(Q:VK)(u3:XK):Prop
 |mk (x dx a r p:Addr) (w:Int) (us:List V) (ps:List Pr) (_:vs=[.ref x]) (_:H x=some (.ins C dx (oP w a r p))) (_:H p=some (.lst us)) (_:iX H us ps) (_:ps≠[]) (_:∀H' k t,av H H'→H' k=some (.tup [.int (-w), .ref t])→H' t=some (.tup [.int (jW ps).1, .int (jW ps).2])→Q (.ref k) H'):v8 C vs H Q u3
inductive EY(C CF:Addr)(vs:List V)(H:Hp)(Q:VK)(u3:XK):Prop
 |mk (x dx e b:Addr) (es bs:List Addr) (f:Nat→Nat→Option Int) (o p:Int) (n m:Nat) (w:Int) (pr:Addr) (us:List V) (ps:List (Nat×Nat)) (q0:Nat×Nat) (_:vs=[.ref x, .int w, .ref pr]) (_:sF H C x dx e b es bs f o p n m) (_:H pr=some (.lst us)) (_:iX H us (ps.map bp)) (_:∀q∈ps,q.1<n∧q.2<m) (_:(ps.filter fun q=>decide (dZ f o p q.1 q.2=some w))[0]?=some q0) (_:n≤1000) (_:ps.length≤5000)
  (_:∀H' y dy wy rw us2,av H H'→H y=none→H dy=none→H wy=none→H rw=none→H' y=some (.ins CF dy (oP w wy rw pr))→H' dy=some (.own y)→H' wy=some (.lst us2)→iX H' us2 ((fh f o p q0.1 q0.1 q0.2).map bp)→H' rw=some (.lst ((fh f o p q0.1 q0.1 q0.2).map fun q=>cA (dZ f o p q.1 q.2)))→Q (.ref y) H'):EY C CF vs H Q u3
theorem GQ{f:Nat→Nat→Option Int}{o p:Int}{n m:Nat}:∀k i j,i<n→j<m→∀q∈fh f o p k i j,q.1<n∧q.2<m
 |0,i,j,hi,hj,q,hq=>by
  have:q=(i,j):=by simpa[fh]using hq
  subst this;exact⟨hi,hj⟩
 |k+1,i,j,hi,hj,q,hq=>by
  by_cases h:il (Bq f o p i j)=true
  ·rw[fh,VH h]at hq;obtain⟨a,b,c⟩:=lD h;have hl:=(lW f o p i j a b).resolve_right c;rcases List.mem_append.mp hq with z|z
   ·exact GQ k _ _ (by lia) (by lia) q z
   ·have:q=(i,j):=by simpa using z
    subst this;exact⟨hi,hj⟩
  ·rw[iB h]at hq;have:q=(i,j):=by simpa using hq
   subst this;exact⟨hi,hj⟩
theorem CZ{f:Nat→Nat→Option Int}{o p:Int}:∀k i j,(fh f o p k i j).length≤k+1
 |0,i,j=>by simp[fh]
 |k+1,i,j=>by
  by_cases h:il (Bq f o p i j)=true
  ·rw[fh,VH h,List.length_append];have:=CZ (f:=f) (o:=o) (p:=p) k (dh f o p i j).1 (dh f o p i j).2;simp
   lia
  ·rw[iB h];simp
end QF
namespace L2
open PySem PySem.Spec PyProof.Rows PySem.W PySem.Calls
section
variable{X:Cx}
inductive MM(K:Frag)(x:V)(y:V)(H:Hp)(Q:VK):Prop
 |mk (p q:Addr) (xs ys:List V) (_:x= .ref p) (_:y= .ref q) (_:Jc K H p xs) (_:Jc K H q ys) (_:xs.all f_=true) (_:ys.all f_=true) (_:Q (.bl (!xQ xs ys)) H):MM K x y H Q
theorem HU(K:Frag)(hu:X.A.units<cLine)(hK:X.K=K:=by rfl):rX X (compareOp .NotEq) (MM K):=by
 subst hK;intro pins s σ H x y v u Q I rx ry h;obtain⟨p,q,xs,ys,rfl,rfl,hp,hq,f1,f2,k⟩:=h;cases rx;cases ry;obtain⟨its,r,pl,hz⟩:=I.tuple hp;obtain⟨kP,r2,Xs,hz2⟩:=I.tuple hq;have he:=Kr (A:=X.A.in1) (s:=s) r r2 f1 f2;obtain⟨⟨cls,dd,data,sl⟩,ho,hc,n,hd⟩:=id pl;obtain⟨⟨Xu,Ra,data2,DT⟩,Lq,DU,n2,hd2⟩:=id Xs;simp only at hc hd DU hd2;subst hc hd DU hd2;refine richCompare_meets_room (op:= .NotEq) ⟨_,ho,rfl⟩ ⟨_,Lq,rfl⟩ F.slot_tuple_ne F.entry_tuple_ne (F.args_tuple_ne_2 _ _) (SeqAt.tuple_neAt p q its.toArray kP.toArray n n2 dd Ra sl DT _) ⟨ho,Lq,he,?_⟩ hu;have e:(!((List.range (min its.toArray.size kP.toArray.size)).all (fun j=>kO (xs.getD j .cF) (ys.getD j .cF))&&its.toArray.size==kP.toArray.size))=!xQ xs ys:=by
  rw[←vU,r.length,r2.length];simp
 rw[e];exact⟨(fun x=>nomatch x), .bl (!xQ xs ys),H,I,rfl,k⟩
end
end L2
namespace QF
open PySem L2
theorem d_{p q:Pr}(h:bS p=bS q):p=q:=by
 simp only[bS,List.cons.injEq,Sum.inl.injEq,and_true]at h;exact Prod.ext h.1 h.2
theorem len_sub{α:Type}[DecidableEq α]:∀(l m:List α),l.Nodup→(∀x∈l,x∈m)→l.length≤m.length
 |[],m,_,_=>Xx
 |x::r,m,hn,h=>by
  have D_:=List.nodup_cons.mp hn;have hx:=h x (Xx);have:=len_sub r (m.erase x) D_.2 fun y hy=>(List.mem_erase_of_ne (fun e:y=x=>D_.1 (by rw[←e];exact hy))).mpr (h y (by simp[hy]))
  rw[List.length_erase_of_mem hx]at this;have:=List.length_pos_of_mem hx;simp
  lia
def N2(E:Pr→Pr→Prop)(p:Pr):Pr→Pr→Prop:=fun a b=>E a b∨(a=p∧b=p)
def sL(E:Pr→Pr→Prop)(p q:Pr):Pr→Pr→Prop:=fun a b=>E a b∨((E a p∨E a q)∧(E b p∨E b q))
theorem HV{E:Pr→Pr→Prop}{p q a b:Pr}:sL E p q a b↔sL E q p a b:=by
 unfold sL;rw[or_comm (a:=E a p),or_comm (a:=E b p)]
structure ql(S:Addr→Prop)(H:Hp)(S':Addr→Prop)(H':Hp):Prop where
 grow:∀a,S' a→S a∨H a=none
 keep:∀a o,¬S a→H a=some o→H' a=some o
theorem ql.trans{S S' VL:Addr→Prop}{H H' VM:Hp}(a:ql S H S' H')(b:ql S' H' VL VM):ql S H VL VM:=by
 refine⟨fun x hx=>?_,fun x o hs hx=>b.keep x o (fun z=>?_) (a.keep x o hs hx)⟩
 ·rcases b.grow x hx with h|h
  ·exact a.grow x h
  ·by_cases hs:S x
   ·exact .inl hs
   ·right
    cases e:H x with
    |none=>rfl
    |some o=>rw[a.keep x o hs e]at h;cases h
 ·rcases a.grow x z with h|h
  ·exact hs h
  ·rw[hx]at h;cases h
theorem ql.same{S:Addr→Prop}{H H':Hp}(s:av H H'):ql S H S H':=⟨fun _ h=> .inl h,fun a o _ h=>s a o h⟩
theorem ql.put{S:Addr→Prop}{H:Hp}{a:Addr}{o:HO}(h:S a):ql S H S (upd H a o):=⟨fun _ h=> .inl h,fun b u hb e=>by rw[aj (fun z:b=a=>hb (by rw[z];exact h))];exact e⟩
structure T8(K:W.Frag)(C:Addr):Prop where
 cl:xH K C
 qm:bJ K C "leads"
 members:bJ K C "members"
def uo(dl dm:Addr):List (Str×V):=[("leads", .ref dl),("members", .ref dm)]
theorem j9(a b:Addr):(uo a b).lookup ("leads":Str)=some (V.ref a):=by kernel_rfl
theorem jx(a b:Addr):(uo a b).lookup ("members":Str)=some (V.ref b):=by kernel_rfl
theorem T9(a b:Addr):bq "members" (.ref b) (bq "leads" (.ref a) [])=uo a b:=by kernel_rfl
theorem T_(a b:Addr):(uo a b).lookup ("has":Str)=none:=by kernel_rfl
theorem KN(a b:Addr):(uo a b).lookup ("take_in":Str)=none:=by kernel_rfl
theorem GR(a b:Addr):(uo a b).lookup ("unite":Str)=none:=by kernel_rfl
theorem Qh(a b:Addr):(uo a b).lookup ("told":Str)=none:=by kernel_rfl
def Qi(H:Hp)(v:Option V):Option Pr→Prop
 |none=>v=none
 |some l=>∃t,v=some (.ref t)∧H t=some (.tup (mU l))
def XG(H:Hp)(S:Addr→Prop)(v:Option V):Option (List Pr)→Prop
 |none=>v=none
 |some ms=>∃a us,v=some (.ref a)∧H a=some (.lst us)∧iX H us ms∧S a
theorem Qi.cO{H H':Hp}{v:Option V}{o:Option Pr}(h:Qi H v o)(t:fD H H'):Qi H' v o:=by
 cases o with
 |none=>exact h
 |some l=>obtain⟨a,h1,h2⟩:=h;exact⟨a,h1,t _ _ h2⟩
structure Jg(H:Hp)(S:Addr→Prop)(dl dm:Addr)(kl km:List (List Key×V))(ld:Pr→Option Pr)(mm:Pr→Option (List Pr)):Prop where
 hl:H dl=some (.dT kl)
 hm:H dm=some (.dT km)
 sl:S dl
 sm:S dm
 ne:dl≠dm
 lv:∀p,Qi H (b_ kl (bS p)) (ld p)
 mv:∀p,XG H S (b_ km (bS p)) (mm p)
 inj:∀p q a,b_ km (bS p)=some (.ref a)→b_ km (bS q)=some (.ref a)→p=q
 key:∀kv∈km,∃p,kv.1=bS p
 GU:(km.map (·.1)).Nodup
 ms:∀l ms,mm l=some ms→ms.Nodup∧∀p,p∈ms↔ld p=some l
 ml:∀p l,ld p=some l→∃ms,mm l=some ms
 self:∀l ms,mm l=some ms→ld l=some l
theorem Jg.keep{H H':Hp}{S:Addr→Prop}{dl dm:Addr}{kl km:List (List Key×V)}{ld:Pr→Option Pr}{mm:Pr→Option (List Pr)}(d:Jg H S dl dm kl km ld mm)(h:∀a o,S a→H a=some o→H' a=some o)(t:fD H H'):Jg H' S dl dm kl km ld mm:=by
 refine⟨h _ _ d.sl d.hl,h _ _ d.sm d.hm,d.sl,d.sm,d.ne,fun p=>(d.lv p).cO t,fun p=>?_,d.inj,d.key,d.GU,d.ms,d.ml,d.self⟩;have:=d.mv p;cases e:mm p with
 |none=>rw[e]at this;exact this
 |some ms=>
  rw[e]at this;obtain⟨a,us,h1,h2,h3,h4⟩:=this;exact⟨a,us,h1,h _ _ h4 h2,h3.cO t,h4⟩
theorem Jg.Ca{H:Hp}{S:Addr→Prop}{dl dm:Addr}{kl km:List (List Key×V)}{ld:Pr→Option Pr}{mm:Pr→Option (List Pr)}(d:Jg H S dl dm kl km ld mm){ms:List Pr}(hn:ms.Nodup)(h:∀p∈ms,∃l,ld p=some l):ms.length≤kl.length:=by
 have:=len_sub (ms.map bS) (kl.map (·.1)) (List.Pairwise.map _ (fun a b EZ z=>EZ (d_ z)) hn) fun k hk=>by
  obtain⟨p,hp,rfl⟩:=List.mem_map.mp hk;obtain⟨l,hl⟩:=h p hp;have:=d.lv p;rw[hl]at this;obtain⟨t,h1,_⟩:=this;exact Gm h1
 simpa using this
theorem Jg.take{H H':Hp}{S:Addr→Prop}{dl dm a t:Addr}{kl km:List (List Key×V)}{ld:Pr→Option Pr}{mm:Pr→Option (List Pr)}{p:Pr}(d:Jg H S dl dm kl km ld mm)(hn:ld p=none)(ht:H t=some (.tup (mU p)))(ha:H a=none)
  (h1:H' dl=some (.dT (putK kl (bS p) (.ref t)))) (h2:H' dm=some (.dT (putK km (bS p) (.ref a)))) (h3:H' a=some (.lst [.ref t])) (hk:∀b o,b≠dl→b≠dm→H b=some o→H' b=some o):
  Jg H' (fun x=>S x∨x=a) dl dm (putK kl (bS p) (.ref t)) (putK km (bS p) (.ref a)) (fun q=>if q=p then some p else ld q) (fun q=>if q=p then some [p]else mm q):=by
 have T:fD H H':=fun b v hb=>hk b _ (fun z=>by rw[z,d.hl]at hb;cases hb) (fun z=>by rw[z,d.hm]at hb;cases hb) hb
 have ZK:mm p=none:=by
  cases e:mm p with
  |none=>rfl
  |some ms=>have:=d.self p ms e;rw[hn]at this;cases this
 have KO:b_ km (bS p)=none:=by have:=d.mv p;rw[ZK]at this;exact this
 have Ua:∀q b,b_ km (bS q)=some (.ref b)→b≠a:=fun q b hq z=>by
  have:=d.mv q;cases e:mm q with
  |none=>rw[e]at this;have:b_ km (bS q)=none:=this;rw[this]at hq;cases hq
  |some ms=>
   rw[e]at this;obtain⟨a',us,e1,e2,_⟩:=this;rw[hq]at e1;cases e1;rw[z,ha]at e2;cases e2
 refine⟨h1,h2, .inl d.sl, .inl d.sm,d.ne,fun q=>?_,fun q=>?_,fun q r b hq hr=>?_,fun kv VN=>?_,?_,fun l ms hl=>?_,fun q l hq=>?_,fun l ms hl=>?_⟩
 ·rw[ll];by_cases e:q=p
  ·rw[VH (by rw[e]),VH e];exact⟨t,rfl,T _ _ ht⟩
  ·rw[M9 (fun z=>e (d_ z)),M9 e];exact(d.lv q).cO T
 ·show XG _ _ _ (if q=p then some [p]else mm q);rw[ll];by_cases e:q=p
  ·rw[VH (by rw[e]),VH e];exact⟨a,_,rfl,h3,iX.one (T _ _ ht), .inr rfl⟩
  ·rw[M9 (fun z=>e (d_ z)),M9 e];have:=d.mv q;cases e2:mm q with
   |none=>rw[e2]at this;exact this
   |some ms=>
    rw[e2]at this;obtain⟨b,us,z1,z2,z3,z4⟩:=this;exact⟨b,us,z1,hk b _ (fun z=>by rw[z,d.hl]at z2;cases z2) (fun z=>by rw[z,d.hm]at z2;cases z2) z2,z3.cO T, .inl z4⟩
 ·rw[ll]at hq hr;by_cases e:q=p
  ·by_cases e2:r=p
   ·rw[e,e2]
   ·rw[VH (by rw[e])]at hq;rw[M9 (fun z=>e2 (d_ z))]at hr;cases hq;exact absurd rfl (Ua r _ hr)
  ·rw[M9 (fun z=>e (d_ z))]at hq;by_cases e2:r=p
   ·rw[VH (by rw[e2])]at hr;cases hr;exact absurd rfl (Ua q _ hq)
   ·rw[M9 (fun z=>e2 (d_ z))]at hr;exact d.inj q r b hq hr
 ·rw[vF _ KO]at VN;rcases List.mem_append.mp VN with z|z
  ·exact d.key kv z
  ·exact⟨p,by rw[List.mem_singleton.mp z]⟩
 ·rw[vF _ KO,List.map_append];refine List.nodup_append.mpr ⟨d.GU,Xx,fun x hx y hy e=>?_⟩;have hy:y=bS p:=by simpa using hy
  rw[e,hy]at hx;exact CJ KO hx
 ·have hl:(if l=p then some [p]else mm l)=some ms:=hl;by_cases e:l=p
  ·rw[VH e]at hl;cases hl;refine⟨Xx,fun q=>?_⟩;rw[List.mem_singleton];show q=p↔(if q=p then some p else ld q)=some l;by_cases e2:q=p
   ·rw[VH e2,e];simp[e2]
   ·rw[M9 e2];refine⟨fun z=>absurd z e2,fun z=>?_⟩;obtain⟨ms,HW⟩:=d.ml q l z;rw[e,ZK]at HW;cases HW
  ·rw[M9 e]at hl;obtain⟨z1,z2⟩:=d.ms l ms hl;refine⟨z1,fun q=>?_⟩;rw[z2];show ld q=some l↔(if q=p then some p else ld q)=some l;by_cases e2:q=p
   ·rw[VH e2,e2,hn];refine⟨fun z=>(by cases z),fun z=>absurd (Ρ z).symm e⟩
   ·rw[M9 e2]
 ·have hq:(if q=p then some p else ld q)=some l:=hq;show ∃ms,(if l=p then some [p]else mm l)=some ms;by_cases e:l=p
  ·exact⟨[p],VH e⟩
  ·rw[M9 e];by_cases e2:q=p
   ·rw[VH e2]at hq;exact absurd (Ρ hq).symm e
   ·rw[M9 e2]at hq;exact d.ml q l hq
 ·have hl:(if l=p then some [p]else mm l)=some ms:=hl;show(if l=p then some p else ld l)=some l;by_cases e:l=p
  ·rw[VH e,e]
  ·rw[M9 e]at hl⊢;exact d.self l ms hl
theorem GV{κ:Type}[DecidableEq κ]{k:κ}{v:V}:∀{kvs:List (κ×V)}{i:Nat},(kvs.map (·.1)).Nodup→kvs[i]?=some (k,v)→b_ kvs k=some v
 |[],i,_,h=>by simp at h
 |p::r,0,_,h=>by
  have h:p=(k,v):=by simpa using h
  subst h;exact cW rfl
 |p::r,i+1,hn,h=>by
  have D_:=List.nodup_cons.mp (show(p.1::r.map (·.1)).Nodup from hn);have h:r[i]?=some (k,v):=by simpa using h
  rw[cR (fun e=>D_.1 (by rw[e];exact List.mem_map.mpr ⟨_,Ψ h,rfl⟩))];exact GV D_.2 h
theorem C4{κ:Type}[DecidableEq κ]{k:κ}{v:V}:∀{kvs:List (κ×V)},b_ kvs k=some v→∃i:Nat,kvs[i]?=some (k,v)
 |[],h=>by cases h
 |p::r,h=>by
  by_cases e:p.1=k
  ·rw[cW e]at h;exact⟨0,by simp;exact Prod.ext e (Ρ h)⟩
  ·rw[cR e]at h;obtain⟨i,hi⟩:=C4 h;exact⟨i+1,by simpa using hi⟩
theorem nY{κ:Type}[DecidableEq κ](k j:κ):∀kvs:List (κ×V),b_ (jC kvs k) j=if j=k then none else b_ kvs j
 |[]=>by simp[jC,b_]
 |p::r=>by
  have ih:=nY k j r;unfold jC at ih⊢;rw[List.filter_cons];by_cases e:p.1=k
  ·rw[M9 (by simpa using e),ih];by_cases e2:j=k
   ·rw[VH e2,VH e2]
   ·rw[M9 e2,M9 e2,cR (fun z=>e2 (z.symm.trans e))]
  ·rw[VH (by simpa using e)];by_cases e2:p.1=j
   ·rw[cW e2,M9 (fun z=>e (e2.trans z)),cW e2]
   ·rw[cR e2,ih,cR e2]
theorem Jg.Ub{H H':Hp}{S:Addr→Prop}{dl dm al tl:Addr}{kl xR km:List (List Key×V)}{ld:Pr→Option Pr}{mm:Pr→Option (List Pr)}{l g:Pr}{m1 m2:List Pr}{us1 us2:List V}(d:Jg H S dl dm kl km ld mm)(GW:l≠g)(h1:mm l=some m1)(h2:mm g=some m2)(uE:b_ km (bS l)=some (.ref al))(P1:iX H us1 m1)(P2:iX H us2 m2)(WY:H al=some (.lst us1))(zi:H tl=some (.tup (mU l)))
  (ZL:∀r,b_ xR (bS r)=if r∈m2 then some (.ref tl)else b_ kl (bS r)) (e1:H' dl=some (.dT xR)) (e2:H' dm=some (.dT (jC km (bS g)))) (e3:H' al=some (.lst (us1++us2))) (hk:∀b o,b≠dl→b≠dm→b≠al→H b=some o→H' b=some o):
  Jg H' S dl dm xR (jC km (bS g)) (fun r=>if r∈m2 then some l else ld r) (fun r=>if r=g then none else if r=l then some (m1++m2)else mm r):=by
 have T:fD H H':=fun b v hb=>hk b _ (fun z=>by rw[z,d.hl]at hb;cases hb) (fun z=>by rw[z,d.hm]at hb;cases hb) (fun z=>by rw[z,WY]at hb;cases hb) hb
 obtain⟨n1,q1⟩:=d.ms l m1 h1;obtain⟨n2,q2⟩:=d.ms g m2 h2;refine⟨e1,e2,d.sl,d.sm,d.ne,fun r=>?_,fun r=>?_,fun p q a hp hq=>?_,fun kv VN=>d.key kv (List.mem_filter.mp VN).1,d.GU.sublist (List.filter_sublist.map _),fun x ms hx=>?_,fun p x hp=>?_,fun x ms hx=>?_⟩
 ·show Qi H' _ (if r∈m2 then some l else ld r);rw[ZL];by_cases e:r∈m2
  ·rw[VH e,VH e];exact⟨tl,rfl,T _ _ zi⟩
  ·rw[M9 e,M9 e];exact(d.lv r).cO T
 ·show XG H' S _ (if r=g then none else if r=l then some (m1++m2)else mm r);rw[nY];by_cases e:r=g
  ·rw[VH (by rw[e]),VH e];rfl
  ·rw[M9 (fun z=>e (d_ z)),M9 e];by_cases e4:r=l
   ·rw[VH e4,e4,uE];have:=d.mv l;rw[h1]at this;obtain⟨a,us,z1,_,_,z4⟩:=this;rw[uE]at z1;cases z1;exact⟨al,_,rfl,e3,(P1.append P2).cO T,z4⟩
   ·rw[M9 e4];have:=d.mv r;cases e5:mm r with
    |none=>rw[e5]at this;exact this
    |some ms=>
     rw[e5]at this;obtain⟨a,us,z1,z2,z3,z4⟩:=this;exact⟨a,us,z1,hk a _ (fun z=>by rw[z,d.hl]at z2;cases z2) (fun z=>by rw[z,d.hm]at z2;cases z2) (fun z=>e4 (d.inj r l al (by rw[z1,z]) uE)) z2,z3.cO T,z4⟩
 ·rw[nY]at hp hq;by_cases e:p=g
  ·rw[VH (by rw[e])]at hp;cases hp
  ·by_cases e4:q=g
   ·rw[VH (by rw[e4])]at hq;cases hq
   ·rw[M9 (fun z=>e (d_ z))]at hp;rw[M9 (fun z=>e4 (d_ z))]at hq;exact d.inj p q a hp hq
 ·have hx:(if x=g then none else if x=l then some (m1++m2)else mm x)=some ms:=hx;by_cases e:x=g
  ·rw[VH e]at hx;cases hx
  ·rw[M9 e]at hx;by_cases e4:x=l
   ·rw[VH e4]at hx;cases hx;refine⟨List.nodup_append.mpr ⟨n1,n2,fun a ha b hb z=>?_⟩,fun p=>?_⟩
    ·have ha:=(q1 a).mp ha;have hb:=(q2 b).mp hb;rw[z,hb]at ha;exact GW (Ρ ha).symm
    ·rw[List.mem_append];show p∈m1∨p∈m2↔(if p∈m2 then some l else ld p)=some x;rw[e4];by_cases e5:p∈m2
     ·rw[VH e5];simp[e5]
     ·rw[M9 e5,←q1];simp[e5]
   ·rw[M9 e4]at hx;obtain⟨z1,z2⟩:=d.ms x ms hx;refine⟨z1,fun p=>?_⟩;rw[z2];show ld p=some x↔(if p∈m2 then some l else ld p)=some x;by_cases e5:p∈m2
    ·rw[VH e5,(q2 p).mp e5];exact⟨fun z=>absurd (Ρ z).symm e,fun z=>absurd (Ρ z).symm e4⟩
    ·rw[M9 e5]
 ·have hp:(if p∈m2 then some l else ld p)=some x:=hp;show ∃ms,(if x=g then none else if x=l then some (m1++m2)else mm x)=some ms;by_cases e5:p∈m2
  ·rw[VH e5]at hp;cases hp;exact⟨m1++m2,by rw[M9 GW,if_pos rfl]⟩
  ·rw[M9 e5]at hp;have hg:x≠g:=fun z=>e5 ((q2 p).mpr (by rw[hp,z]))
   by_cases e4:x=l
   ·exact⟨m1++m2,by rw[M9 hg,VH e4]⟩
   ·obtain⟨ms,HW⟩:=d.ml p x hp;exact⟨ms,by rw[M9 hg,M9 e4];exact HW⟩
 ·have hx:(if x=g then none else if x=l then some (m1++m2)else mm x)=some ms:=hx;show(if x∈m2 then some l else ld x)=some x;by_cases e:x=g
  ·rw[VH e]at hx;cases hx
  ·rw[M9 e]at hx;have ZM:ld x=some x:=by
    by_cases e4:x=l
    ·rw[e4];exact d.self l m1 h1
    ·rw[M9 e4]at hx;exact d.self x ms hx
   have:x∉m2:=fun z=>by
    have:=(q2 x).mp z;rw[ZM]at this;exact e (Ρ this)
   rw[M9 this,ZM]
theorem Qj{ld:Pr→Option Pr}{l g p q:Pr}{m2:List Pr}(GW:l≠g)(hp:ld p=some l)(hq:ld q=some g)(q2:∀r,r∈m2↔ld r=some g){E:Pr→Pr→Prop}(hE:∀a b,E a b↔∃x,ld a=some x∧ld b=some x)(a b:Pr):
  sL E p q a b↔∃x,(if a∈m2 then some l else ld a)=some x∧(if b∈m2 then some l else ld b)=some x:=by
 have A:∀c,(E c p∨E c q)↔(if c∈m2 then some l else ld c)=some l:=fun c=>by
  rw[hE,hE,hp,hq];by_cases e:c∈m2
  ·rw[VH e,(q2 c).mp e];simp
  ·rw[M9 e];have:ld c≠some g:=fun z=>e ((q2 c).mpr z)
   constructor
   ·rintro(⟨x,h1,h2⟩|⟨x,h1,h2⟩)
    ·cases h2;exact h1
    ·cases h2;exact absurd h1 this
   ·exact fun z=> .inl ⟨l,z,rfl⟩
 unfold sL;rw[A,A,hE];constructor
 ·rintro(⟨x,h1,h2⟩|⟨h1,h2⟩)
  ·by_cases e:x=g
   ·subst e;exact⟨l,by rw[VH ((q2 a).mpr h1)],by rw[VH ((q2 b).mpr h2)]⟩
   ·exact⟨x,by rw[M9 (fun z=>e (by have:=(q2 a).mp z;rw[h1]at this;exact Ρ this))];exact h1,by rw[M9 (fun z=>e (by have:=(q2 b).mp z;rw[h2]at this;exact Ρ this))];exact h2⟩
  ·exact⟨l,h1,h2⟩
 ·rintro⟨x,h1,h2⟩;by_cases e:x=l
  ·subst e;exact .inr ⟨h1,h2⟩
  ·left
   refine⟨x,?_,?_⟩
   ·by_cases e2:a∈m2
    ·rw[VH e2]at h1;exact absurd (Ρ h1).symm e
    ·rw[M9 e2]at h1;exact h1
   ·by_cases e2:b∈m2
    ·rw[VH e2]at h2;exact absurd (Ρ h2).symm e
    ·rw[M9 e2]at h2;exact h2
def kU(H:Hp)(C g:Addr)(S:Addr→Prop)(E:Pr→Pr→Prop)(B:Nat):Prop:=
 ∃dg dl dm kl km ld mm,H g=some (.ins C dg (uo dl dm))∧¬S g∧Jg H S dl dm kl km ld mm∧(∀a b,E a b↔∃l,ld a=some l∧ld b=some l)∧kl.length≤B∧km.length≤B
theorem kU.keep{H H':Hp}{C g:Addr}{S:Addr→Prop}{E:Pr→Pr→Prop}{B:Nat}(G:kU H C g S E B)(h:∀a o,S a→H a=some o→H' a=some o)(t:fD H H')(hg:∀o,H g=some o→H' g=some o):kU H' C g S E B:=by
 obtain⟨dg,dl,dm,kl,km,ld,mm,a1,a2,a3,a4⟩:=G;exact⟨dg,dl,dm,kl,km,ld,mm,hg _ a1,a2,a3.keep h t,a4⟩
theorem kU.same{H H':Hp}{C g:Addr}{S:Addr→Prop}{E:Pr→Pr→Prop}{B:Nat}(G:kU H C g S E B)(s:av H H'):kU H' C g S E B:=G.keep (fun a o _ h=>s a o h) (fD.same s) (fun o h=>s _ _ h)
theorem kU.iff{H:Hp}{C g:Addr}{S:Addr→Prop}{E E':Pr→Pr→Prop}{B B':Nat}(G:kU H C g S E B)(h:∀a b,E' a b↔E a b)(hB:B≤B'):kU H C g S E' B':=by
 obtain⟨dg,dl,dm,kl,km,ld,mm,a1,a2,a3,a4,a5,a6⟩:=G;exact⟨dg,dl,dm,kl,km,ld,mm,a1,a2,a3,fun a b=>(h a b).trans (a4 a b),by lia,by lia⟩
structure Told(E:Pr→Pr→Prop)(gs:List (List Pr)):Prop where
 xK:∀ps∈gs,ps.Pairwise fun p q=>jw p q=true
 ne:∀ps∈gs,ps≠[]
 cls:∀ps∈gs,∀a∈ps,∀b,b∈ps↔E a b
 all:∀a,E a a→∃ps∈gs,a∈ps
 apart:gs.Pairwise fun ps qs=>∀a∈ps,a∉qs
inductive v9(C:Addr)(vs:List V)(H:Hp)(Q:VK)(u3:XK):Prop
 |mk (x dx:Addr) (_:vs=[.ref x]) (_:H x=some (.ins C dx [])) (_:∀H' S,SameBut x H H'→(∀a,S a→H a=none)→kU H' C x S (fun _ _=>False) 0→Q .cF H'):v9 C vs H Q u3
inductive E2(C:Addr)(vs:List V)(H:Hp)(Q:VK)(u3:XK):Prop
 |mk (x t:Addr) (p:Pr) (S:Addr→Prop) (E:Pr→Pr→Prop) (B:Nat) (_:vs=[.ref x, .ref t]) (_:kU H C x S E B) (_:H t=some (.tup (mU p))) (_:∀b:Bool,(b=true↔E p p)→Q (.bl b) H):E2 C vs H Q u3
inductive Am(C:Addr)(vs:List V)(H:Hp)(Q:VK)(u3:XK):Prop
 |mk (x t:Addr) (p:Pr) (S:Addr→Prop) (E:Pr→Pr→Prop) (B:Nat) (_:vs=[.ref x, .ref t]) (_:kU H C x S E B) (_:H t=some (.tup (mU p))) (_:B≤10000) (_:∀H' S',ql S H S' H'→kU H' C x S' (N2 E p) (B+1)→Q .cF H'):Am C vs H Q u3
inductive v_(C:Addr)(vs:List V)(H:Hp)(Q:VK)(u3:XK):Prop
 |mk (x t u:Addr) (p q:Pr) (S:Addr→Prop) (E:Pr→Pr→Prop) (B:Nat) (_:vs=[.ref x, .ref t, .ref u]) (_:kU H C x S E B) (_:H t=some (.tup (mU p))) (_:H u=some (.tup (mU q))) (_:E p p) (_:E q q) (_:B≤10000) (_:∀H',ql S H S H'→kU H' C x S (sL E p q) B→Q .cF H'):v_ C vs H Q u3
theorem E3(g:Pr→Option Int)(o i:Int){as:List Pr}(gO:as≠[])(q:Pr)(bs:List Pr):vl g o i (as++q::bs)=vl g o i as-gp o i (lstP as) q+vl g o i (q::bs):=by
 rw[Ah,vn g o i gO]
 lia
theorem Wy.app{g:Pr→Option Int}{as:List Pr}{q:Pr}{bs:List Pr}(a:Wy g as)(b:Wy g (q::bs))(s:EL (lstP as) q):Wy g (as++q::bs):=by
 refine⟨Xx,fun x hx=>?_,List.pairwise_append.mpr ⟨a.up,b.up,fun x hx y hy=>?_⟩⟩
 ·rcases List.mem_append.mp hx with h|h
  ·exact a.ok x h
  ·exact b.ok x h
 ·have h1:EL x q:=by
   rcases pw_lst a.up hx with e|e
   ·rw[e];exact s
   ·exact sC e s
  rcases List.mem_cons.mp hy with e|e
  ·rw[e];exact h1
  ·exact sC h1 ((List.pairwise_cons.mp b.up).1 y e)
theorem Wy.left{g:Pr→Option Int}{as bs:List Pr}(w:Wy g (as++bs))(h:as≠[]):Wy g as:=⟨h,fun x hx=>w.ok x (List.mem_append_left _ hx),(List.pairwise_append.mp w.up).1⟩
theorem Wy.right{g:Pr→Option Int}{as bs:List Pr}(w:Wy g (as++bs))(h:bs≠[]):Wy g bs:=⟨h,fun x hx=>w.ok x (δ hx),(List.pairwise_append.mp w.up).2.1⟩
section
variable(f:Nat→Nat→Option Int)(o p W:Int)
def BW(ps:List Pr):Prop:=Wy (lf f) ps∧vl (lf f) o p ps=W
def eM:Prop:=∀ps,Wy (lf f) ps→vl (lf f) o p ps≤W
inductive fE:Pr→Pr→Prop
 |way {a b:Pr} (ps:List Pr) (_:BW f o p W ps) (_:a∈ps) (_:b∈ps):fE a b
 |tr {a b c:Pr} (_:fE a b) (_:fE b c):fE a c
def xS(as:List Pr)(x y:Int):Int:=vl (lf f) o p as-(o*(x-1-(lstP as).1)+p*(y-1-(lstP as).2))
def Uc(q:Pr)(bs:List Pr)(x y:Int):Int:=vl (lf f) o p (q::bs)-(o*(q.1-x)+p*(q.2-y))
def Over(x y:Int)(r:Pr):Prop:=∃as q bs,Wy (lf f) as∧Wy (lf f) (q::bs)∧(lstP as).1<x∧(lstP as).2<y∧x≤q.1∧y≤q.2∧vl (lf f) o p (as++q::bs)=W∧r∈q::bs
end
section
variable{f:Nat→Nat→Option Int}{o p W:Int}
theorem fE.symm{a b:Pr}(h:fE f o p W a b):fE f o p W b a:=by
 induction h with
 |way ps h1 h2 h3=>exact .way ps h1 h3 h2
 |tr _ _ i1 i2=>exact .tr i2 i1
theorem fE.left{a b:Pr}(h:fE f o p W a b):fE f o p W a a:= .tr h h.symm
theorem fE.on{a b:Pr}(h:fE f o p W a b):∃ps,BW f o p W ps∧a∈ps:=by
 induction h with
 |way ps h1 h2 h3=>exact⟨ps,h1,h2⟩
 |tr _ _ i1 _=>exact i1
theorem pd{as:List Pr}{q:Pr}{bs:List Pr}(gO:as≠[])(x y:Int):vl (lf f) o p (as++q::bs)=xS f o p as x y+Uc f o p q bs x y:=by
 rw[E3 _ _ _ gO];unfold xS Uc gp;have e1:q.1-(lstP as).1-1=(x-1-(lstP as).1)+(q.1-x):=by lia
 have e2:q.2-(lstP as).2-1=(y-1-(lstP as).2)+(q.2-y):=by lia
 rw[e1,e2,Int.mul_add,Int.mul_add]
 lia
theorem nZ(T:eM f o p W){as Cd:List Pr}{q:Pr}{bs:List Pr}{x y:Int}(a:Wy (lf f) as)(b:Wy (lf f) (q::bs))(h3:x≤q.1)(h4:y≤q.2)(hW:vl (lf f) o p (as++q::bs)=W)
  (a':Wy (lf f) Cd) (l1:(lstP Cd).1<x) (l2:(lstP Cd).2<y) (hb:xS f o p as x y≤xS f o p Cd x y):BW f o p W (Cd++q::bs):=by
 have w:=a'.app b ⟨by lia,by lia⟩;refine⟨w,?_⟩;have:=T _ w;rw[pd a'.ne x y]at this⊢;rw[pd a.ne x y]at hW
 lia
theorem An{as:List Pr}{i j:Nat}(a:Wy (lf f) as)(l1:(lstP as).1<(i:Int))(l2:(lstP as).2<(j:Int)):∃b,Bq f o p i j=some b∧xS f o p as i j≤b:=by
 have m:=gK f o p i j;cases e:Bq f o p i j with
 |none=>rw[e]at m;exact absurd ⟨as,a,l1,l2,rfl⟩ (m _)
 |some b=>rw[e]at m;exact⟨b,rfl,m.2 _ ⟨as,a,l1,l2,rfl⟩⟩
theorem Ao{i j:Nat}{b:Int}(e:Bq f o p i j=some b):∃as,Wy (lf f) as∧(lstP as).1<(i:Int)∧(lstP as).2<(j:Int)∧xS f o p as i j=b:=by
 have m:=gK f o p i j;rw[e]at m;obtain⟨as,h1,h2,h3,h4⟩:=m.1;exact⟨as,h1,h2,h3,h4.symm⟩
theorem n5{i j:Nat}{b:Int}(e:dZ f o p i j=some b):∃as,Wy (lf f) as∧lstP as=bp (i,j)∧vl (lf f) o p as=b:=by
 have m:=vV f o p i j;rw[e]at m;obtain⟨as,h1,h2,h3⟩:=m.1;exact⟨as,h1,h2,h3.symm⟩
theorem Ap{as:List Pr}{i j:Nat}(a:Wy (lf f) as)(l:lstP as=bp (i,j)):∃b,dZ f o p i j=some b∧vl (lf f) o p as≤b:=by
 have m:=vV f o p i j;cases e:dZ f o p i j with
 |none=>rw[e]at m;exact absurd ⟨as,a,l,rfl⟩ (m _)
 |some b=>rw[e]at m;exact⟨b,rfl,m.2 _ ⟨as,a,l,rfl⟩⟩
theorem KP{i j:Nat}(e:dZ f o p i j=some W):fE f o p W (bp (i,j)) (bp (i,j)):=by
 obtain⟨as,h1,h2,h3⟩:=n5 e;have:bp (i,j)∈as:=by rw[←h2];exact dO h1.ne
 exact .way as ⟨h1,h3⟩ this this
theorem HX(T:eM f o p W){i j:Nat}{r:Pr}(h:Over f o p W ((i+1:Nat):Int) ((j+1:Nat):Int) r)(e:dZ f o p i j=Bq f o p (i+1) (j+1)):fE f o p W (bp (i,j)) r:=by
 obtain⟨as,q,bs,a,b,l1,l2,l3,l4,hW,hr⟩:=h;obtain⟨v,hv,hle⟩:=An (o:=o) (p:=p) a l1 l2;rw[hv]at e;obtain⟨Cd,a',k1,k2⟩:=n5 e;have hb:xS f o p Cd ((i+1:Nat):Int) ((j+1:Nat):Int)=v:=by
  unfold xS;rw[k1,k2];have e1:((i+1:Nat):Int)-1-(bp (i,j)).1=0:=by show((i+1:Nat):Int)-1-(i:Int)=0;lia
  have e2:((j+1:Nat):Int)-1-(bp (i,j)).2=0:=by show((j+1:Nat):Int)-1-(j:Int)=0;lia
  rw[e1,e2,Int.mul_zero,Int.mul_zero];lia
 have:=nZ T a b l3 l4 hW a' (by rw[k1];simp[bp];lia) (by rw[k1];simp[bp];lia) (by rw[hb];exact hle);refine .way _ this (List.mem_append_left _ ?_) (δ hr);rw[←k1];exact dO a'.ne
theorem uq(T:eM f o p W){i j x y:Nat}{r:Pr}{c:Int}(h:Over f o p W ((i+1:Nat):Int) ((j+1:Nat):Int) r)(hx:x≤i+1)(hy:y≤j+1)(hc:c=o*((i+1:Nat)-x:Int)+p*((j+1:Nat)-y:Int))(e:cc (Bq f o p x y) c=Bq f o p (i+1) (j+1)):Over f o p W (x:Int) (y:Int) r:=by
 obtain⟨as,q,bs,a,b,l1,l2,l3,l4,hW,hr⟩:=h;obtain⟨v,hv,hle⟩:=An (o:=o) (p:=p) a l1 l2;rw[hv]at e;cases e2:Bq f o p x y with
 |none=>rw[e2]at e;cases e
 |some v2=>
  rw[e2]at e;have e:v2-c=v:=by simpa[cc]using e
  obtain⟨Cd,a',k1,k2,k3⟩:=Ao e2;have hb:xS f o p Cd ((i+1:Nat):Int) ((j+1:Nat):Int)=v:=by
   unfold xS at k3⊢;have e1:((i+1:Nat):Int)-1-(lstP Cd).1=((x:Int)-1-(lstP Cd).1)+((i+1:Nat)-x:Int):=by lia
   have e2:((j+1:Nat):Int)-1-(lstP Cd).2=((y:Int)-1-(lstP Cd).2)+((j+1:Nat)-y:Int):=by lia
   rw[e1,e2,Int.mul_add,Int.mul_add]
   lia
  have:=nZ T a b l3 l4 hW a' Nz (by lia) (by rw[hb];exact hle);exact⟨Cd,q,bs,a',b,k1,k2,by lia,by lia,this.2,hr⟩
theorem MN(T:eM f o p W){i j:Nat}(h:fE f o p W (bp (i,j)) (bp (i,j)))(g:il (Bq f o p i j)=true):Over f o p W (i:Int) (j:Int) (bp (i,j)):=by
 obtain⟨ws,⟨hw,hW⟩,hm⟩:=h.on;obtain⟨u,v,rfl⟩:=List.append_of_mem hm;cases e:Bq f o p i j with
 |none=>rw[e]at g;cases g
 |some b=>
  rw[e]at g;have g:0≤b:=by simpa[il]using g
  obtain⟨as,a,k1,k2,k3⟩:=Ao e;have hr:Wy (lf f) (bp (i,j)::v):=hw.right XD;have ws:=a.app hr ⟨k1,k2⟩;have hle:=T _ ws;have cv:=pd (f:=f) (o:=o) (p:=p) (q:=bp (i,j)) (bs:=v) a.ne (i:Int) (j:Int);have ha:Uc f o p (bp (i,j)) v (i:Int) (j:Int)=vl (lf f) o p (bp (i,j)::v):=by
   unfold Uc;have e1:(bp (i,j)).1-(i:Int)=0:=by simp[bp]
   have e2:(bp (i,j)).2-(j:Int)=0:=by simp[bp]
   rw[e1,e2,Int.mul_zero,Int.mul_zero];lia
  have hge:W≤b+vl (lf f) o p (bp (i,j)::v):=by
   by_cases hu:u=[]
   ·subst hu;simp only[List.nil_append]at hW
    lia
   ·have cu:=pd (f:=f) (o:=o) (p:=p) (q:=bp (i,j)) (bs:=v) hu (i:Int) (j:Int);have VO:Wy (lf f) u:=hw.left hu;have hs:EL (lstP u) (bp (i,j)):=(List.pairwise_append.mp hw.up).2.2 _ (dO hu) _ (Xx);obtain⟨b2,E4,aaR⟩:=An (o:=o) (p:=p) VO (i:=i) (j:=j) hs.1 hs.2;rw[e]at E4;cases E4
    lia
  exact⟨as,bp (i,j),v,a,hr,k1,k2,by simp[bp],by simp[bp],by lia,Xx⟩
theorem over_over(T:eM f o p W){x y:Int}{r r':Pr}(h:Over f o p W x y r)(h':Over f o p W x y r'):fE f o p W r r':=by
 obtain⟨as,q,bs,a,b,l1,l2,l3,l4,hW,hr⟩:=h;obtain⟨Cd,q',Jh,a',b',k1,k2,k3,k4,ZN,Qk⟩:=h';have w1:BW f o p W (as++q::bs):=⟨a.app b ⟨by lia,by lia⟩,hW⟩
 have w2:BW f o p W (Cd++q'::Jh):=⟨a'.app b' ⟨by lia,by lia⟩,ZN⟩
 by_cases hb:xS f o p as x y≤xS f o p Cd x y
 ·have:=nZ T a b l3 l4 hW a' k1 k2 hb;exact .tr (.way (b:=lstP Cd) _ this (δ hr) (List.mem_append_left _ (dO a'.ne))) (.way _ w2 (List.mem_append_left _ (dO a'.ne)) (δ Qk))
 ·have:=nZ T a' b' k3 k4 ZN a l1 l2 Nz;exact .tr (.way (b:=lstP as) _ w1 (δ hr) (List.mem_append_left _ (dO a.ne))) (.way _ this (List.mem_append_left _ (dO a.ne)) (δ Qk))
theorem between(T:eM f o p W){u v:List Pr}{q r:Nat×Nat}(w:BW f o p W (u++bp q::bp r::v)):
  (∀x y:Nat,q.1<x→q.2<y→x≤r.1→y≤r.2→Bq f o p x y=some (xS f o p (u++[bp q]) x y))∧dZ f o p q.1 q.2=some (vl (lf f) o p (u++[bp q]))∧0≤xS f o p (u++[bp q]) r.1 r.2:=by
 obtain⟨w,hW⟩:=w;have e:u++bp q::bp r::v=(u++[bp q])++bp r::v:=Xx;rw[e]at w hW;have hl:Wy (lf f) (u++[bp q]):=w.left XD;have hr:Wy (lf f) (bp r::v):=w.right XD;have ls:lstP (u++[bp q])=bp q:=fe;have xG:EL (bp q) (bp r):=by
  have:=(List.pairwise_append.mp w.up).2.2 _ (dO hl.ne) (bp r) (Xx);rw[ls]at this;exact this
 refine⟨fun x y h1 h2 h3 h4=>?_,?_,?_⟩
 ·have c1:(lstP (u++[bp q])).1<(x:Int):=by rw[ls];simp[bp];lia
  have c2:(lstP (u++[bp q])).2<(y:Int):=by rw[ls];simp[bp];lia
  obtain⟨b,hb,hle⟩:=An (o:=o) (p:=p) hl c1 c2;rw[hb]
  congr 1
  obtain⟨as,a,k1,k2,k3⟩:=Ao hb;have wa:=a.app hr ⟨by simp[bp];lia,by simp[bp];lia⟩;have:=T _ wa;rw[pd a.ne (x:Int) (y:Int)]at this;rw[pd hl.ne (x:Int) (y:Int)]at hW
  lia
 ·obtain⟨b,hb,hle⟩:=Ap (o:=o) (p:=p) hl (i:=q.1) (j:=q.2) ls;rw[hb]
  congr 1
  obtain⟨as,a,k1,k2⟩:=n5 hb;have wa:=a.app hr (by rw[k1];exact xG);have:=T _ wa;rw[E3 _ _ _ a.ne,k1,show bp (q.1,q.2)=bp q from rfl]at this;rw[E3 _ _ _ hl.ne,ls]at hW
  lia
 ·have:=T _ hr;rw[pd hl.ne (r.1:Int) (r.2:Int)]at hW;unfold Uc at hW;have e1:(bp r).1-(r.1:Int)=0:=by simp[bp]
  have e2:(bp r).2-(r.2:Int)=0:=by simp[bp]
  rw[e1,e2,Int.mul_zero,Int.mul_zero]at hW
  lia
end
abbrev GS:=(Pr→Pr→Prop)×(Pr→Option Pr)
def C5(s:GS)(c r:Pr):GS:=
 match s.2 c with
 |some r0=>(sL s.1 r0 r,s.2)
 |none=>(s.1,fun x=>if x=c then some r else s.2 x)
section
variable(f:Nat→Nat→Option Int)(o p W:Int)
def N3(i j:Nat)(s:GS)(r:Pr):GS:=(if dZ f o p i j=Bq f o p (i+1) (j+1)then sL (N2 s.1 (bp (i,j))) (bp (i,j)) r else s.1,s.2)
def Ql(i j:Nat)(s:GS)(r:Pr):GS:=(bX f o p i j).foldl (fun s c=>C5 s c r) (N3 f o p i j s r)
def MO(i j:Nat)(s:GS):GS:=(if dZ f o p i j=some W then N2 s.1 (bp (i,j))else s.1,s.2)
def HY(i j:Nat)(s:GS):GS:=
 match s.2 (bp (i+1,j+1))with
 |some r=>Ql f o p i j (MO f o p W i j s) r
 |none=>MO f o p W i j s
open Classical in
noncomputable def DW(i j:Nat)(s:GS):GS:=if (HY f o p W i j s).1 (bp (i,j)) (bp (i,j))∧il (Bq f o p i j)=true then C5 (HY f o p W i j s) (bp (i,j)) (bp (i,j))else HY f o p W i j s
structure i4(s:GS):Prop where
 sy:∀a b,s.1 a b→s.1 b a
 tr:∀a b c,s.1 a b→s.1 b c→s.1 a c
 hg:∀a b,s.1 a b→fE f o p W a b
 mr:∀c r,s.2 c=some r→s.1 r r∧∃i j:Nat,c=bp (i,j)∧Over f o p W (i:Int) (j:Int) r
end
structure Gw(s s':GS)(N:Pr→Prop)(M:Pr→Prop):Prop where
 e:∀a b,s.1 a b→s'.1 a b
 n:∀a,s'.1 a a→s.1 a a∨N a
 m:∀c r,s.2 c=some r→s'.2 c=some r
 k:∀c r,s'.2 c=some r→s.2 c=some r∨M c
theorem Gw.refl{s:GS}{N M:Pr→Prop}:Gw s s N M:=⟨fun _ _ h=>h,fun _ h=> .inl h,fun _ _ h=>h,fun _ _ h=> .inl h⟩
theorem Gw.trans{s s' zB:GS}{N M:Pr→Prop}(a:Gw s s' N M)(b:Gw s' zB N M):Gw s zB N M:=
 ⟨fun x y h=>b.e x y (a.e x y h),fun x h=>(b.n x h).elim (a.n x) .inr,fun c r h=>b.m c r (a.m c r h),fun c r h=>(b.k c r h).elim (a.k c r) .inr⟩
theorem Gw.wide{s s':GS}{N M N' M':Pr→Prop}(a:Gw s s' N M)(hN:∀x,N x→N' x)(hM:∀x,M x→M' x):Gw s s' N' M':=⟨a.e,fun x h=>(a.n x h).imp id (hN x),a.m,fun c r h=>(a.k c r h).imp id (hM c)⟩
section
variable{f:Nat→Nat→Option Int}{o p W:Int}{s:GS}
theorem i4.ZO(k:i4 f o p W s){a b:Pr}(ha:s.1 a a)(hb:s.1 b b)(h:fE f o p W a b):i4 f o p W (sL s.1 a b,s.2):=by
 have hc:∀c,s.1 c a∨s.1 c b→fE f o p W c a:=fun c h'=>h'.elim (k.hg c a) fun z=> .tr (k.hg c b z) h.symm
 refine⟨fun x y h=>?_,fun x y z h1 h2=>?_,fun x y h=>?_,fun c r h=>⟨.inl (k.mr c r h).1,(k.mr c r h).2⟩⟩
 ·exact h.imp (k.sy x y) fun h=>⟨h.2,h.1⟩
 ·rcases h1 with h1|⟨h1,Ri⟩
  ·rcases h2 with h2|⟨h2,NO⟩
   ·exact .inl (k.tr _ _ _ h1 h2)
   ·exact .inr ⟨h2.imp (k.tr _ _ _ h1) (k.tr _ _ _ h1),NO⟩
  ·rcases h2 with h2|⟨h2,NO⟩
   ·exact .inr ⟨h1,Ri.imp (k.tr _ _ _ (k.sy _ _ h2)) (k.tr _ _ _ (k.sy _ _ h2))⟩
   ·exact .inr ⟨h1,NO⟩
 ·rcases h with h|⟨h1,h2⟩
  ·exact k.hg x y h
  ·exact .tr (hc x h1) (hc y h2).symm
theorem i4.take(k:i4 f o p W s){a:Pr}(h:fE f o p W a a):i4 f o p W (N2 s.1 a,s.2):=by
 refine⟨fun x y h=>?_,fun x y z h1 h2=>?_,fun x y h'=>?_,fun c r h=>⟨.inl (k.mr c r h).1,(k.mr c r h).2⟩⟩
 ·exact h.imp (k.sy x y) fun h=>⟨h.2,h.1⟩
 ·rcases h1 with h1|⟨h1,Ri⟩
  ·rcases h2 with h2|⟨h2,NO⟩
   ·exact .inl (k.tr _ _ _ h1 h2)
   ·subst h2 NO;exact .inl h1
  ·subst h1 Ri;exact h2
 ·rcases h' with h'|⟨h1,h2⟩
  ·exact k.hg x y h'
  ·subst h1 h2;exact h
theorem KQ(sy:∀a b,s.1 a b→s.1 b a)(tr:∀a b c,s.1 a b→s.1 b c→s.1 a c){a b:Pr}:Gw s (sL s.1 a b,s.2) (fun _=>False) (fun _=>False):=by
 refine⟨fun _ _ h=> .inl h,fun x h=> .inl ?_,fun _ _ h=>h,fun _ _ h=> .inl h⟩;rcases h with h|⟨h,_⟩
 ·exact h
 ·exact h.elim (fun z=>tr _ _ _ z (sy _ _ z)) fun z=>tr _ _ _ z (sy _ _ z)
theorem i4.mark(T:eM f o p W)(k:i4 f o p W s){i j:Nat}{r:Pr}(hr:s.1 r r)(ov:Over f o p W (i:Int) (j:Int) r):i4 f o p W (C5 s (bp (i,j)) r):=by
 unfold C5;cases e:s.2 (bp (i,j))with
 |some r0=>
  obtain⟨h1,i2,j2,h2,h3⟩:=k.mr _ _ e;have h2:(i:Int)=i2∧(j:Int)=j2:=by simpa[bp]using h2
  rw[←h2.1,←h2.2]at h3;exact k.ZO h1 hr (over_over T h3 ov)
 |none=>
  refine⟨k.sy,k.tr,k.hg,fun c r' h=>?_⟩;have h:(if c=bp (i,j)then some r else s.2 c)=some r':=h;by_cases e2:c=bp (i,j)
  ·rw[VH e2]at h;cases h;exact⟨hr,i,j,e2,ov⟩
  ·rw[M9 e2]at h;exact k.mr c r' h
theorem N4(k:i4 f o p W s){c r:Pr}:Gw s (C5 s c r) (fun _=>False) (·=c):=by
 unfold C5;cases e:s.2 c with
 |some r0=>exact(KQ k.sy k.tr).wide (fun _ h=>h) fun _ h=>h.elim
 |none=>
  refine⟨fun _ _ h=>h,fun _ h=> .inl h,fun c' r' h=>?_,fun c' r' h=>?_⟩
  ·show(if c'=c then some r else s.2 c')=some r';rw[M9 (fun z=>by rw[z,e]at h;cases h)];exact h
  ·have h:(if c'=c then some r else s.2 c')=some r':=h;by_cases e2:c'=c
   ·exact .inr e2
   ·rw[M9 e2]at h;exact .inl h
theorem KR(k:i4 f o p W s){c r:Pr}(hr:s.1 r r):∃r',(C5 s c r).2 c=some r'∧(C5 s c r).1 r r':=by
 unfold C5;cases e:s.2 c with
 |some r0=>exact⟨r0,e, .inr ⟨.inr hr, .inl (k.mr _ _ e).1⟩⟩
 |none=>exact⟨r,Xx,hr⟩
theorem wc(T:eM f o p W){r:Pr}:∀(cs:List Pr)(s:GS),i4 f o p W s→s.1 r r→(∀c∈cs,∃i j:Nat,c=bp (i,j)∧Over f o p W (i:Int) (j:Int) r)→
  i4 f o p W (cs.foldl (fun s c=>C5 s c r) s)∧Gw s (cs.foldl (fun s c=>C5 s c r) s) (fun _=>False) (·∈cs)∧∀c∈cs,∃r',(cs.foldl (fun s c=>C5 s c r) s).2 c=some r'∧(cs.foldl (fun s c=>C5 s c r) s).1 r r'
 |[],s,k,_,_=>⟨k, .refl,fun c h=>by cases h⟩
 |c::cs,s,k,hr,h=>by
  obtain⟨i,j,rfl,ov⟩:=h c (Xx);have k1:=k.mark T hr ov;have g1:=N4 k (c:=bp (i,j)) (r:=r);obtain⟨r',m1,m2⟩:=KR k (c:=bp (i,j)) hr;obtain⟨a1,a2,a3⟩:=wc T cs _ k1 (g1.e _ _ hr) fun c hc=>h c (by simp[hc])
  refine⟨a1,(g1.wide (fun _ h=>h) fun x hx=>?_).trans (a2.wide (fun _ h=>h) fun x hx=>?_),fun c hc=>?_⟩
  ·show x∈_::_;rw[hx];simp
  ·exact List.mem_cons_of_mem _ hx
  ·rcases List.mem_cons.mp hc with rfl|hc
   ·exact⟨r',a2.m _ _ m1,a2.e _ _ m2⟩
   ·exact a3 c hc
theorem ur(T:eM f o p W){i j:Nat}{r:Pr}(h:Over f o p W ((i+1:Nat):Int) ((j+1:Nat):Int) r):∀c∈bX f o p i j,∃x y:Nat,c=bp (x,y)∧Over f o p W (x:Int) (y:Int) r:=by
 intro c hc;unfold bX at hc;rcases List.mem_append.mp hc with hc|hc
 ·split at hc
  ·rename_i e
   have:c=bp (i,j+1):=by simpa[bp]using hc
   refine⟨i,j+1,this,uq T h Nz (by lia) ?_ e⟩;have e1:((i+1:Nat):Int)-(i:Int)=1:=by lia
   have e2:((j+1:Nat):Int)-((j+1:Nat):Int)=0:=by lia
   rw[e1,e2];lia
  ·cases hc
 ·split at hc
  ·rename_i e
   have:c=bp (i+1,j):=by simpa[bp]using hc
   refine⟨i+1,j,this,uq T h Nz (by lia) ?_ e⟩;have e1:((i+1:Nat):Int)-((i+1:Nat):Int)=0:=by lia
   have e2:((j+1:Nat):Int)-(j:Int)=1:=by lia
   rw[e1,e2];lia
  ·cases hc
theorem KS(T:eM f o p W)(k:i4 f o p W s){i j:Nat}{r:Pr}(hr:s.1 r r)(ov:Over f o p W ((i+1:Nat):Int) ((j+1:Nat):Int) r):
  i4 f o p W (N3 f o p i j s r)∧Gw s (N3 f o p i j s r) (·=bp (i,j)) (·∈bX f o p i j)∧(dZ f o p i j=Bq f o p (i+1) (j+1)→(N3 f o p i j s r).1 (bp (i,j)) r):=by
 unfold N3;by_cases e:dZ f o p i j=Bq f o p (i+1) (j+1)
 ·rw[VH e];have h:=HX T ov e;have k1:=k.take h.left;have k2:=k1.ZO (a:=bp (i,j)) (b:=r) (.inr ⟨rfl,rfl⟩) (.inl hr) h;refine⟨k2,⟨fun a b h=> .inl (.inl h),fun a h=>?_,fun _ _ h=>h,fun _ _ h=> .inl h⟩,fun _=> .inr ⟨.inl (.inr ⟨rfl,rfl⟩), .inr (.inl hr)⟩⟩;rcases(KQ (s:=(N2 s.1 (bp (i,j)),s.2)) k1.sy k1.tr).n a h with h|h
  ·exact h.imp id And.left
  ·exact h.elim
 ·rw[M9 e];exact⟨⟨k.sy,k.tr,k.hg,k.mr⟩, .refl,fun z=>absurd z e⟩
theorem Ud(T:eM f o p W)(k:i4 f o p W s){i j:Nat}{r:Pr}(hr:s.1 r r)(ov:Over f o p W ((i+1:Nat):Int) ((j+1:Nat):Int) r):
  i4 f o p W (Ql f o p i j s r)∧Gw s (Ql f o p i j s r) (·=bp (i,j)) (·∈bX f o p i j)∧(dZ f o p i j=Bq f o p (i+1) (j+1)→(Ql f o p i j s r).1 (bp (i,j)) r)∧∀c∈bX f o p i j,∃r',(Ql f o p i j s r).2 c=some r'∧(Ql f o p i j s r).1 r r':=by
 obtain⟨b1,b2,b3⟩:=KS T k hr ov;obtain⟨a1,a2,a3⟩:=wc T (bX f o p i j) _ b1 (b2.e _ _ hr) (ur T ov);exact⟨a1,b2.trans (a2.wide (fun _ h=>h.elim) fun _ h=>h),fun e=>a2.e _ _ (b3 e),a3⟩
theorem KU(k:i4 f o p W s)(i j:Nat):i4 f o p W (MO f o p W i j s)∧Gw s (MO f o p W i j s) (·=bp (i,j)) (fun _=>False)∧(dZ f o p i j=some W→(MO f o p W i j s).1 (bp (i,j)) (bp (i,j))):=by
 unfold MO;by_cases e:dZ f o p i j=some W
 ·rw[VH e];exact⟨k.take (KP e),⟨fun _ _ h=> .inl h,fun _ h=>h.imp id And.left,fun _ _ h=>h,fun _ _ h=> .inl h⟩,fun _=> .inr ⟨rfl,rfl⟩⟩
 ·rw[M9 e];exact⟨⟨k.sy,k.tr,k.hg,k.mr⟩, .refl,fun z=>absurd z e⟩
def Qm(f:Nat→Nat→Option Int)(o p:Int)(i j:Nat)(c:Pr):Prop:=c∈bX f o p i j∨c=bp (i,j)
theorem KW(T:eM f o p W)(k:i4 f o p W s)(i j:Nat):i4 f o p W (HY f o p W i j s)∧Gw s (HY f o p W i j s) (·=bp (i,j)) (Qm f o p i j)∧(dZ f o p i j=some W→(HY f o p W i j s).1 (bp (i,j)) (bp (i,j)))∧∀r,s.2 (bp (i+1,j+1))=some r→
  (dZ f o p i j=Bq f o p (i+1) (j+1)→(HY f o p W i j s).1 (bp (i,j)) r)∧∀c∈bX f o p i j,∃r',(HY f o p W i j s).2 c=some r'∧(HY f o p W i j s).1 r r':=by
 obtain⟨k1,g1,e1⟩:=KU k i j;unfold HY;cases e:s.2 (bp (i+1,j+1))with
 |none=>exact⟨k1,g1.wide (fun _ h=>h) fun _ h=>h.elim,e1,fun r h=>by cases h⟩
 |some r=>
  obtain⟨h1,i2,j2,h2,h3⟩:=k.mr _ _ e;have h2:((i+1:Nat):Int)=i2∧((j+1:Nat):Int)=j2:=by simpa[bp]using h2
  rw[←h2.1,←h2.2]at h3;obtain⟨a1,a2,a3,a4⟩:=Ud T k1 (g1.e _ _ h1) h3;refine⟨a1,(g1.wide (fun _ h=>h) fun _ h=>h.elim).trans (a2.wide (fun _ h=>h) fun _ h=> .inl h),fun z=>a2.e _ _ (e1 z),fun r' h=>?_⟩;cases h;exact⟨a3,a4⟩
theorem Ue(T:eM f o p W)(k:i4 f o p W s)(i j:Nat):i4 f o p W (DW f o p W i j s)∧Gw s (DW f o p W i j s) (·=bp (i,j)) (Qm f o p i j)∧(dZ f o p i j=some W→(DW f o p W i j s).1 (bp (i,j)) (bp (i,j)))∧(∀r,s.2 (bp (i+1,j+1))=some r→
  (dZ f o p i j=Bq f o p (i+1) (j+1)→(DW f o p W i j s).1 (bp (i,j)) r)∧∀c∈bX f o p i j,∃r',(DW f o p W i j s).2 c=some r'∧(DW f o p W i j s).1 r r')∧
  ((DW f o p W i j s).1 (bp (i,j)) (bp (i,j))→il (Bq f o p i j)=true→∃r,(DW f o p W i j s).2 (bp (i,j))=some r∧(DW f o p W i j s).1 (bp (i,j)) r):=by
 obtain⟨k1,g1,e1,o1⟩:=KW T k i j;unfold DW;split
 ·rename_i h
  have k2:=k1.mark T h.1 (MN T (k1.hg _ _ h.1) h.2);have g2:=N4 k1 (c:=bp (i,j)) (r:=bp (i,j));refine⟨k2,g1.trans (g2.wide (fun _ h=>h.elim) fun _ h=> .inr h),fun z=>g2.e _ _ (e1 z),fun r hr=>?_,fun _ _=>KR k1 h.1⟩;obtain⟨a1,a2⟩:=o1 r hr;refine⟨fun z=>g2.e _ _ (a1 z),fun c hc=>?_⟩;obtain⟨r',b1,b2⟩:=a2 c hc;exact⟨r',g2.m _ _ b1,g2.e _ _ b2⟩
 ·rename_i h
  exact⟨k1,g1,e1,o1,fun h1 h2=>absurd ⟨h1,h2⟩ h⟩
end
structure Vd(f:Nat→Nat→Option Int)(o p W:Int)(V:Nat→Nat→Prop)(s:GS):Prop where
 ok:i4 f o p W s
 vis:∀a,s.1 a a→∃i j:Nat,a=bp (i,j)∧V i j
 en:∀i j,V i j→dZ f o p i j=some W→s.1 (bp (i,j)) (bp (i,j))
 on:∀i j,V i j→s.1 (bp (i,j)) (bp (i,j))→il (Bq f o p i j)=true→∃r,s.2 (bp (i,j))=some r∧s.1 (bp (i,j)) r
 ov:∀i j r,V i j→s.2 (bp (i+1,j+1))=some r→(dZ f o p i j=Bq f o p (i+1) (j+1)→s.1 (bp (i,j)) r)∧∀c∈bX f o p i j,∃r',s.2 c=some r'∧s.1 r r'
theorem gT{a b c d:Nat}(h:bp (a,b)=bp (c,d)):a=c∧b=d:=by
 have h:(a:Int)=c∧(b:Int)=d:=by simpa[bp]using h
 lia
theorem KY{f:Nat→Nat→Option Int}{o p:Int}{i j a b:Nat}(h:Qm f o p i j (bp (a+1,b+1))):(a+1=i∧b+1=j)∨(a+1=i∧b=j)∨(a=i∧b+1=j):=by
 rcases h with h|h
 ·unfold bX at h;rcases List.mem_append.mp h with h|h
  ·split at h
   ·have:bp (a+1,b+1)=bp (i,j+1):=by simpa[bp]using h
    have:=gT this
    lia
   ·cases h
  ·split at h
   ·have:bp (a+1,b+1)=bp (i+1,j):=by simpa[bp]using h
    have:=gT this
    lia
   ·cases h
 ·have:=gT h
  lia
def Vb(n m i j:Nat)(a b:Nat):Prop:=a<n∧b<m∧(i<a∨(i=a∧j≤b))
theorem Vd.start(f:Nat→Nat→Option Int)(o p W:Int)(n m:Nat):Vd f o p W (Vb n m n 0) (fun _ _=>False,fun _=>none):=by
 have no:∀a b,¬Vb n m n 0 a b:=fun a b ⟨h1,_,h2⟩=>by lia
 exact⟨⟨fun _ _ h=>h.elim,fun _ _ _ h=>h.elim,fun _ _ h=>h.elim,fun _ _ h=>(by cases h)⟩,fun _ h=>h.elim,fun i j h=>absurd h (no i j),fun i j h=>absurd h (no i j),fun i j r h=>absurd h (no i j)⟩
theorem Vd.turn{f:Nat→Nat→Option Int}{o p W:Int}{n m i:Nat}{s:GS}(v:Vd f o p W (Vb n m (i+1) 0) s):Vd f o p W (Vb n m i m) s:=by
 have e:Vb n m (i+1) 0=Vb n m i m:=by
  funext a b
  simp only[Vb,eq_iff_iff]
  lia
 rw[←e];exact v
theorem Vd.next{f:Nat→Nat→Option Int}{o p W:Int}{n m i j:Nat}{s:GS}(T:eM f o p W)(hi:i<n)(hj:j<m)(v:Vd f o p W (Vb n m i (j+1)) s):Vd f o p W (Vb n m i j) (DW f o p W i j s):=by
 obtain⟨k,g,e,ov,on⟩:=Ue T v.ok i j;have cut:∀a b,Vb n m i j a b→(a=i∧b=j)∨Vb n m i (j+1) a b:=fun a b h=>by
  unfold Vb at h⊢
  lia
 have old:∀a b r,Vb n m i j a b→(DW f o p W i j s).2 (bp (a+1,b+1))=some r→s.2 (bp (a+1,b+1))=some r:=fun a b r h hr=>by
  rcases g.k _ _ hr with z|z
  ·exact z
  ·have:=KY z;unfold Vb at h
   lia
 refine⟨k,fun a ha=>?_,fun a b h he=>?_,fun a b h h1 h2=>?_,fun a b r h hr=>?_⟩
 ·rcases g.n a ha with z|z
  ·obtain⟨x,y,h1,h2⟩:=v.vis a z;exact⟨x,y,h1,by unfold Vb at h2⊢;lia⟩
  ·exact⟨i,j,z,by unfold Vb;lia⟩
 ·rcases cut a b h with⟨rfl,rfl⟩|h'
  ·exact e he
  ·exact g.e _ _ (v.en a b h' he)
 ·rcases cut a b h with⟨rfl,rfl⟩|h'
  ·exact on h1 h2
  ·have hs:s.1 (bp (a,b)) (bp (a,b)):=by
    rcases g.n _ h1 with z|z
    ·exact z
    ·have:=gT z;unfold Vb at h'
     lia
   obtain⟨r,z1,z2⟩:=v.on a b h' hs h2;exact⟨r,g.m _ _ z1,g.e _ _ z2⟩
 ·have Qk:=old a b r h hr;rcases cut a b h with⟨rfl,rfl⟩|h'
  ·exact ov r Qk
  ·obtain⟨z1,z2⟩:=v.ov a b r h' Qk;refine⟨fun z=>g.e _ _ (z1 z),fun c hc=>?_⟩;obtain⟨r',y1,y2⟩:=z2 c hc;exact⟨r',g.m _ _ y1,g.e _ _ y2⟩
theorem kW{f:Nat→Nat→Option Int}{n m:Nat}(t:Jf f n m){ps:List Pr}(w:Wy (lf f) ps){a:Pr}(h:a∈ps):∃i j:Nat,a=bp (i,j)∧i<n∧j<m:=by
 have hs:=w.ok a h;obtain⟨i,j,rfl⟩:=GI hs;rw[sD]at hs;obtain⟨h1,h2⟩:=t i j hs;exact⟨i,j,rfl,h1,h2⟩
theorem Vd.step{f:Nat→Nat→Option Int}{o p W:Int}{n m:Nat}{s:GS}(T:eM f o p W)(v:Vd f o p W (Vb n m 0 0) s){us vs:List Pr}{q r:Nat×Nat}(w:BW f o p W (us++bp q::bp r::vs))(hr:r.1<n)(xM:r.2<m)(hq:q.1<r.1)(XH:q.2<r.2)(hE:s.1 (bp r) (bp r)):s.1 (bp q) (bp r):=by
 obtain⟨b1,b2,b3⟩:=between T w;have ok:=v.ok;have V0:∀a b,a<n→b<m→Vb n m 0 0 a b:=fun a b h1 h2=>⟨h1,h2,by lia⟩
 have top:=b1 r.1 r.2 hq XH Ξ (Nat.le_refl _);obtain⟨r0,m0,e0⟩:=v.on r.1 r.2 (V0 _ _ hr xM) hE (by rw[top];simpa[il]using b3);have brx:∀x y:Nat,xS f o p (us++[bp q]) (x:Int) (y:Int)-o=xS f o p (us++[bp q]) ((x+1:Nat):Int) (y:Int):=fun x y=>by
  unfold xS;have e1:((x+1:Nat):Int)-1-(lstP (us++[bp q])).1=((x:Int)-1-(lstP (us++[bp q])).1)+1:=by lia
  rw[e1,Int.mul_add];lia
 have bry:∀x y:Nat,xS f o p (us++[bp q]) (x:Int) (y:Int)-p=xS f o p (us++[bp q]) (x:Int) ((y+1:Nat):Int):=fun x y=>by
  unfold xS;have e1:((y+1:Nat):Int)-1-(lstP (us++[bp q])).2=((y:Int)-1-(lstP (us++[bp q])).2)+1:=by lia
  rw[e1,Int.mul_add];lia
 have go:∀d x y:Nat,(r.1-x)+(r.2-y)=d→q.1<x→q.2<y→x≤r.1→y≤r.2→∃r',s.2 (bp (x,y))=some r'∧s.1 (bp r) r':=by
  intro d
  induction d with
  |zero=>
   intro x y hd h1 h2 h3 h4;have:x=r.1:=by lia
   have:y=r.2:=by lia
   subst x y;exact⟨r0,m0,e0⟩
  |succ d ih=>
   intro x y hd h1 h2 h3 h4;by_cases hx:x<r.1
   ·obtain⟨r1,m1,e1⟩:=ih (x+1) y Nz (by lia) h2 Nz h4;obtain⟨y,rfl⟩:∃y',y=y'+1:=⟨y-1,by lia⟩
    obtain⟨_,z⟩:=v.ov x y r1 (V0 _ _ (by lia) (by lia)) m1;have hc:bp (x,y+1)∈bX f o p x y:=by
     unfold bX;refine List.mem_append_left _ ?_;rw[if_pos]
     ·simp[bp]
     ·rw[b1 x (y+1) h1 h2 h3 h4,b1 (x+1) (y+1) (by lia) h2 Nz h4];simp only[cc];rw[brx]
    obtain⟨r2,m2,e2⟩:=z _ hc;exact⟨r2,m2,ok.tr _ _ _ e1 e2⟩
   ·obtain⟨r1,m1,e1⟩:=ih x (y+1) (by lia) h1 Nz h3 Nz;obtain⟨x,rfl⟩:∃x',x=x'+1:=⟨x-1,by lia⟩
    obtain⟨_,z⟩:=v.ov x y r1 (V0 _ _ (by lia) (by lia)) m1;have hc:bp (x+1,y)∈bX f o p x y:=by
     unfold bX;refine List.mem_append_right _ ?_;rw[if_pos]
     ·simp[bp]
     ·rw[b1 (x+1) y h1 h2 h3 h4,b1 (x+1) (y+1) h1 Nz h3 Nz];simp only[cc];rw[bry]
    obtain⟨r2,m2,e2⟩:=z _ hc;exact⟨r2,m2,ok.tr _ _ _ e1 e2⟩
 obtain⟨r1,m1,e1⟩:=go _ (q.1+1) (q.2+1) rfl (by lia) (by lia) (by lia) (by lia);obtain⟨z,_⟩:=v.ov q.1 q.2 r1 (V0 _ _ (by lia) (by lia)) m1;have:=z (by
  rw[b2,b1 (q.1+1) (q.2+1) (by lia) (by lia) (by lia) (by lia)]
  congr 1
  unfold xS;rw[fe];have z1:((q.1+1:Nat):Int)-1-(bp q).1=0:=by show((q.1+1:Nat):Int)-1-(q.1:Int)=0;lia
  have z2:((q.2+1:Nat):Int)-1-(bp q).2=0:=by show((q.2+1:Nat):Int)-1-(q.2:Int)=0;lia
  rw[z1,z2,Int.mul_zero,Int.mul_zero];lia)
 exact ok.tr _ _ _ this (ok.sy _ _ e1)
theorem Vd.all{f:Nat→Nat→Option Int}{o p W:Int}{n m:Nat}{s:GS}(T:eM f o p W)(t:Jf f n m)(v:Vd f o p W (Vb n m 0 0) s){ws:List Pr}(w:BW f o p W ws):
  ∀(vs us:List Pr),ws=us++vs→vs≠[]→∀a∈vs,s.1 a (jW vs)
 |[],_,_,h=>absurd rfl h
 |[l],us,e,_=>fun a ha=>by
  have ha:a=l:=by simpa using ha
  subst ha;show s.1 a a;obtain⟨i,j,rfl,hi,hj⟩:=kW t w.1 (a:=a) (by rw[e];simp);have hl:lstP ws=bp (i,j):=by rw[e];exact fe
  obtain⟨b,hb,hle⟩:=Ap (o:=o) (p:=p) w.1 hl;obtain⟨as,a1,a2,a3⟩:=n5 hb;have:=T _ a1;have hW:=w.2;exact v.en i j ⟨hi,hj,by lia⟩ (by rw[hb];congr 1;lia)
 |q::r::vs,us,e,_=>fun a ha=>by
  have ih:=Vd.all T t v w (r::vs) (us++[q]) (by rw[e];simp) (Xx);have Rp:s.1 r r:=ih r XD;have ok:=v.ok;obtain⟨i,j,hq,hi,hj⟩:=kW t w.1 (a:=q) (by rw[e];simp);obtain⟨x,y,hr,hx,hy⟩:=kW t w.1 (a:=r) (by rw[e];simp);have xG:EL q r:=by
   have:=w.1.up;rw[e]at this;exact(List.pairwise_cons.mp (List.pairwise_append.mp this).2.1).1 r XD
  rw[hq,hr]at xG;have h1:(i:Int)<x:=xG.1;have h2:(j:Int)<y:=xG.2;rw[e,hq,hr]at w;have key:=v.step T w (q:=(i,j)) (r:=(x,y)) hx hy (by show i<x;lia) (by show j<y;lia) (by rw[←hr];exact Rp);rw[←hq,←hr]at key;show s.1 a q;rcases List.mem_cons.mp ha with rfl|ha
  ·exact ok.tr _ _ _ key (ok.sy _ _ key)
  ·exact ok.tr _ _ _ (ih a ha) (ok.sy _ _ key)
theorem Vd.Qn{f:Nat→Nat→Option Int}{o p W:Int}{n m:Nat}{s:GS}(T:eM f o p W)(t:Jf f n m)(v:Vd f o p W (Vb n m 0 0) s)(a b:Pr):s.1 a b↔fE f o p W a b:=by
 refine⟨v.ok.hg a b,fun h=>?_⟩
 induction h with
 |way ps w h1 h2=>
  have k:=Vd.all T t v w ps [] rfl w.1.ne;exact v.ok.tr _ _ _ (k _ h1) (v.ok.sy _ _ (k _ h2))
 |tr _ _ i1 i2=>exact v.ok.tr _ _ _ i1 i2
theorem Told.iff{E E':Pr→Pr→Prop}{gs:List (List Pr)}(t:Told E gs)(h:∀a b,E a b↔E' a b):Told E' gs:=
 ⟨t.xK,t.ne,fun ps hp a ha b=>(t.cls ps hp a ha b).trans (h a b),fun a ha=>t.all a ((h a a).mpr ha),t.apart⟩
def NT(H:Hp)(a:Addr):Prop:=∃o,H a=some o∧∀v,o≠ .tup v
theorem NT.same{H H':Hp}{a:Addr}(h:NT H a)(s:av H H'):NT H' a:=let ⟨o,h1,h2⟩:=h;⟨o,s _ _ h1,h2⟩
theorem ql.cO{S S':Addr→Prop}{H H':Hp}(u:ql S H S' H')(h:∀a,S a→NT H a):fD H H':=fun t v e=>u.keep t _ (fun z=>by
 obtain⟨o,h1,h2⟩:=h t z;rw[e]at h1;cases h1;exact h2 v rfl) e
theorem ql.out{S S':Addr→Prop}{H H':Hp}(u:ql S H S' H'){a:Addr}{o:HO}(h:¬S a)(e:H a=some o):¬S' a:=fun z=>by
 rcases u.grow a z with z|z
 ·exact h z
 ·rw[e]at z;cases z
theorem kU.nt{H:Hp}{C g:Addr}{S:Addr→Prop}{E:Pr→Pr→Prop}{B:Nat}(G:kU H C g S E B):kU H C g (fun a=>S a∧NT H a) E B:=by
 obtain⟨dg,dl,dm,kl,km,ld,mm,a1,a2,D,a4⟩:=G;refine⟨dg,dl,dm,kl,km,ld,mm,a1,fun z=>a2 z.1,⟨D.hl,D.hm,⟨D.sl,_,D.hl,fun v=>(Xx)⟩,⟨D.sm,_,D.hm,fun v=>(Xx)⟩,D.ne,D.lv,fun p=>?_,D.inj,D.key,D.GU,D.ms,D.ml,D.self⟩,a4⟩;have:=D.mv p;cases e:mm p with
 |none=>rw[e]at this;exact this
 |some ms=>
  rw[e]at this;obtain⟨a,us,h1,h2,h3,h4⟩:=this;exact⟨a,us,h1,h2,h3,h4,_,h2,fun v=>(Xx)⟩
structure N5(K:W.Frag)(C:Addr):Prop where
 cl:xH K C
 we:bJ K C "trails"
 worth:bJ K C "worth"
 groups:bJ K C "groups"
 marks:bJ K C "marks"
def kY(tr:Addr)(W:Int)(g dk:Addr):List (Str×V):=[("trails", .ref tr),("worth", .int W),("groups", .ref g),("marks", .ref dk)]
theorem n6(a:Addr)(W:Int)(b c:Addr):(kY a W b c).lookup ("trails":Str)=some (V.ref a):=by kernel_rfl
theorem KZ(a:Addr)(W:Int)(b c:Addr):(kY a W b c).lookup ("worth":Str)=some (V.int W):=by kernel_rfl
theorem jy(a:Addr)(W:Int)(b c:Addr):(kY a W b c).lookup ("groups":Str)=some (V.ref b):=by kernel_rfl
theorem ny(a:Addr)(W:Int)(b c:Addr):(kY a W b c).lookup ("marks":Str)=some (V.ref c):=by kernel_rfl
theorem GX(a:Addr)(W:Int)(b c:Addr):(kY a W b c).lookup ("mark":Str)=none:=by kernel_rfl
theorem MP(a:Addr)(W:Int)(b c:Addr):(kY a W b c).lookup ("go_over":Str)=none:=by kernel_rfl
theorem K0(a:Addr)(W:Int)(b c:Addr):(kY a W b c).lookup ("visit":Str)=none:=by kernel_rfl
theorem Qo(a:Addr)(W:Int)(b c:Addr):bq "marks" (.ref c) (bq "groups" (.ref b) (bq "worth" (.int W) (bq "trails" (.ref a) [])))=kY a W b c:=by kernel_rfl
structure Qp(H:Hp)(C CG x tr:Addr)(W:Int)(S:Addr→Prop)(s:GS)(B M:Nat)(dx g dk:Addr)(km:List (List Key×V))(S1:Addr→Prop):Prop where
 ob:H x=some (.ins C dx (kY tr W g dk))
 gr:kU H CG g S1 s.1 B
 hk:H dk=some (.dT km)
 mv:∀c,Qi H (b_ km (bS c)) (s.2 c)
 len:km.length≤M
 sS:∀a,S a↔S1 a∨a=dk
 GU:¬S1 dk
 nx:¬S x
 ng:¬S g
 nt:∀a,S a→NT H a
def i5(H:Hp)(C CG x tr:Addr)(W:Int)(S:Addr→Prop)(s:GS)(B M:Nat):Prop:=∃dx g dk km S1,Qp H C CG x tr W S s B M dx g dk km S1
theorem i5.nt{H:Hp}{C CG x tr:Addr}{W:Int}{S:Addr→Prop}{s:GS}{B M:Nat}(G:i5 H C CG x tr W S s B M):∀a,S a→NT H a:=let ⟨_,_,_,_,_,D⟩:=G;D.nt
theorem i5.same{H H':Hp}{C CG x tr:Addr}{W:Int}{S:Addr→Prop}{s:GS}{B M:Nat}(G:i5 H C CG x tr W S s B M)(t:av H H'):i5 H' C CG x tr W S s B M:=by
 obtain⟨dx,g,dk,km,S1,D⟩:=G;exact⟨dx,g,dk,km,S1,t _ _ D.ob,D.gr.same t,t _ _ D.hk,fun c=>(D.mv c).cO (fD.same t),D.len,D.sS,D.GU,D.nx,D.ng,fun a h=>(D.nt a h).same t⟩
theorem i5.out{H:Hp}{C CG x tr:Addr}{W:Int}{S:Addr→Prop}{s:GS}{B M:Nat}(G:i5 H C CG x tr W S s B M){a:Addr}(h:H a=none):¬S a:=fun z=>by
 obtain⟨o,e,_⟩:=G.nt a z;rw[h]at e;cases e
theorem i5.cast{H:Hp}{C CG x tr:Addr}{W:Int}{S:Addr→Prop}{s s':GS}{B M B' M':Nat}(G:i5 H C CG x tr W S s B M)(h:s=s')(hB:B≤B')(hM:M≤M'):i5 H C CG x tr W S s' B' M':=by
 subst h;obtain⟨dx,g,dk,km,S1,D⟩:=G;exact⟨dx,g,dk,km,S1,D.ob,D.gr.iff (fun _ _=>Iff.rfl) hB,D.hk,D.mv,by have:=D.len;lia,D.sS,D.GU,D.nx,D.ng,D.nt⟩
section
variable{H H':Hp}{C CG x tr dx g dk:Addr}{W:Int}{S S1 Qq:Addr→Prop}{s:GS}{B M B':Nat}{km:List (List Key×V)}
theorem Qp.VP(D:Qp H C CG x tr W S s B M dx g dk km S1){E':Pr→Pr→Prop}(u:ql S1 H Qq H')(G:kU H' CG g Qq E' B'):∃S' S2,ql S H S' H'∧Qp H' C CG x tr W S' (E',s.2) B' M dx g dk km S2:=by
 have s1:∀a,S1 a→S a:=fun a h=>(D.sS a).mpr (.inl h)
 have nt1:∀a,S1 a→NT H a:=fun a h=>D.nt a (s1 a h)
 have T:=u.cO nt1;have Je:=u.keep dk _ D.GU D.hk;obtain⟨dg,dl,dm,kl,MQ,ld,mm,og,_⟩:=id D.gr;have gone:∀{a o},¬S a→H a=some o→a≠dk→¬((Qq a∧NT H' a)∨a=dk):=fun{a o} h1 h2 h3 z=>by
  rcases z with z|z
  ·exact u.out (fun y=>h1 (s1 _ y)) h2 z.1
  ·exact h3 z
 have E5:S dk:=(D.sS dk).mpr (.inr rfl);refine⟨fun a=>(Qq a∧NT H' a)∨a=dk,fun a=>Qq a∧NT H' a,⟨fun a h=>?_,fun a o h e=>u.keep a o (fun z=>h (s1 a z)) e⟩,⟨u.keep x _ (fun z=>D.nx (s1 _ z)) D.ob,G.nt,Je,fun c=>(D.mv c).cO T,D.len,fun a=>Iff.rfl,fun z=>u.out D.GU D.hk z.1,gone D.nx D.ob (fun z=>D.nx (by rw[z];exact E5)),gone D.ng og (fun z=>D.ng (by rw[z];exact E5)),fun a h=>?_⟩⟩
 ·rcases h with h|h
  ·exact(u.grow a h.1).imp (s1 a) id
  ·exact .inl (by rw[h];exact E5)
 ·rcases h with h|h
  ·exact h.2
  ·exact⟨_,by rw[h];exact Je,fun v=>(Xx)⟩
theorem Qp.put(D:Qp H C CG x tr W S s B M dx g dk km S1){c r:Pr}{t:Addr}(ht:H t=some (.tup (mU r))):ql S H S (upd H dk (.dT (putK km (bS c) (.ref t))))∧Qp (upd H dk (.dT (putK km (bS c) (.ref t)))) C CG x tr W S (s.1,fun y=>if y=c then some r else s.2 y) B (M+1) dx g dk (putK km (bS c) (.ref t)) S1:=by
 have E5:S dk:=(D.sS dk).mpr (.inr rfl);have nx:x≠dk:=fun z=>D.nx (by rw[z];exact E5)
 have ng:g≠dk:=fun z=>D.ng (by rw[z];exact E5)
 have T:fD H (upd H dk (.dT (putK km (bS c) (.ref t)))):=fun b v hb=>by
  rw[aj (fun z=>by rw[z,D.hk]at hb;cases hb)];exact hb
 refine⟨.put E5,⟨by rw[aj nx];exact D.ob,D.gr.keep (fun a o h e=>by rw[aj (fun z=>D.GU (by rw[←z];exact h))];exact e) T (fun o e=>by rw[aj ng];exact e),af,fun y=>?_,Nat.le_trans (gH _ _ _) (by have:=D.len;lia),D.sS,D.GU,D.nx,D.ng,fun a h=>?_⟩⟩
 ·show Qi _ _ (if y=c then some r else s.2 y);rw[ll];by_cases e:y=c
  ·rw[VH (by rw[e]),VH e];exact⟨t,rfl,T _ _ ht⟩
  ·rw[M9 (fun z=>e (d_ z)),M9 e];exact(D.mv y).cO T
 ·by_cases e:a=dk
  ·exact⟨_,by rw[e];exact af,fun v=>(Xx)⟩
  ·obtain⟨o,h1,h2⟩:=D.nt a h;exact⟨o,by rw[aj e];exact h1,h2⟩
end
structure Base(H0 H:Hp)(S:Addr→Prop):Prop where
 same:av H0 H
 free:∀a,S a→H0 a=none
theorem Base.ups{H0 H H':Hp}{S S':Addr→Prop}(b:Base H0 H S)(u:ql S H S' H'):Base H0 H' S':=by
 refine⟨fun a o h=>u.keep a o (fun z=>by rw[b.free a z]at h;cases h) (b.same a o h),fun a h=>?_⟩;rcases u.grow a h with z|z
 ·exact b.free a z
 ·exact b.same.free z
theorem Base.more{H0 H H':Hp}{S:Addr→Prop}(b:Base H0 H S)(s:av H H'):Base H0 H' S:=⟨b.same.trans s,b.free⟩
inductive sM(C CG:Addr)(vs:List V)(H:Hp)(Q:VK)(u3:XK):Prop
 |mk (x dx tr:Addr) (W:Int) (_:vs=[.ref x, .ref tr, .int W]) (_:H x=some (.ins C dx [])) (_:∀H' S,SameBut x H H'→(∀a,S a→H a=none)→i5 H' C CG x tr W S (fun _ _=>False,fun _=>none) 0 0→Q .cF H'):sM C CG vs H Q u3
inductive wg(C CG:Addr)(vs:List V)(H:Hp)(Q:VK)(u3:XK):Prop
 |mk (x tc tp tr:Addr) (W:Int) (c r:Pr) (S:Addr→Prop) (s:GS) (B M:Nat) (_:vs=[.ref x, .ref tc, .ref tp]) (_:i5 H C CG x tr W S s B M) (_:H tc=some (.tup (mU c))) (_:H tp=some (.tup (mU r))) (_:s.1 r r) (_:∀r0,s.2 c=some r0→s.1 r0 r0) (_:B≤10000) (_:M≤10000) (_:∀H' S',ql S H S' H'→i5 H' C CG x tr W S' (C5 s c r) B (M+1)→Q .cF H'):wg C CG vs H Q u3
inductive wj(C CG CT:Addr)(vs:List V)(H:Hp)(Q:VK)(u3:XK):Prop
 |mk (x tc tp tr dt e b:Addr) (es bs:List Addr) (f:Nat→Nat→Option Int) (o p:Int) (n m:Nat) (W:Int) (i j:Nat) (r:Pr) (S:Addr→Prop) (s:GS) (B M:Nat) (H0:Hp) (_:vs=[.ref x, .ref tc, .ref tp]) (_:i5 H C CG x tr W S s B M) (_:sF H0 CT tr dt e b es bs f o p n m) (_:Base H0 H S) (_:H tc=some (.tup (mU (bp (i+1,j+1))))) (_:H tp=some (.tup (mU (bp (i,j))))) (_:i<n) (_:j<m) (_:eM f o p W) (_:i4 f o p W s) (_:s.2 (bp (i+1,j+1))=some r) (_:B<10000) (_:M+2≤10000)
  (_:∀H' S',ql S H S' H'→i5 H' C CG x tr W S' (Ql f o p i j s r) (B+1) (M+2)→Q .cF H'):wj C CG CT vs H Q u3
inductive sN(C CG CT:Addr)(vs:List V)(H:Hp)(Q:VK)(u3:XK):Prop
 |mk (x tr dt e b:Addr) (es bs:List Addr) (f:Nat→Nat→Option Int) (o p:Int) (n m:Nat) (W:Int) (i j:Nat) (S:Addr→Prop) (s:GS) (B M:Nat) (H0:Hp) (_:vs=[.ref x, .int i, .int j]) (_:i5 H C CG x tr W S s B M) (_:sF H0 CT tr dt e b es bs f o p n m) (_:Base H0 H S) (_:i<n) (_:j<m) (_:n≤1000) (_:m≤1000) (_:eM f o p W) (_:i4 f o p W s) (_:B+2≤10000) (_:M+3≤10000)
  (_:∀H' S',ql S H S' H'→i5 H' C CG x tr W S' (DW f o p W i j s) (B+2) (M+3)→Q .cF H'):sN C CG CT vs H Q u3
structure Fd where
 worth:Int
 way:List Pr
 row:List Int
 pairs:List Pr
def GY(g:Pr→Option Int)(o p:Int)(ps:List Pr):List Int:=(List.range ps.length).map fun k=>vl g o p (ps.take (k+1))
theorem K1(g:Pr→Option Int)(o p:Int)(ps:List Pr)(q:Pr):GY g o p (ps++[q])=GY g o p ps++[vl g o p (ps++[q])]:=by
 unfold GY;rw[List.length_append,List.length_singleton,List.range_succ,List.map_append]
 congr 1
 ·apply List.map_congr_left;intro k hk;have:k<ps.length:=by simpa using hk
  rw[List.take_append_of_le_length Nz]
 ·simp;rw[List.take_of_length_le XD]
structure Ug(f:Nat→Nat→Option Int)(o p W:Int)(d:Fd):Prop where
 worth:d.worth=W
 way:BW f o p W d.way
 row:d.row=GY (lf f) o p d.way
 sub:∀q∈d.way,q∈d.pairs
def mL(f:Nat→Nat→Option Int)(ps:List Pr):Nat→Nat→Option Int:=fun i j=>if bp (i,j)∈ps then none else f i j
def Stop(f:Nat→Nat→Option Int)(o p least:Int):Prop:=∀ps,Wy (lf f) ps→vl (lf f) o p ps<least
structure n8(f:Nat→Nat→Option Int)(o p least W:Int)(gs:List (List Pr))(ds:List Fd):Prop where
 top:eM f o p W
 ex:∃ps,BW f o p W ps
 least:least≤W
 told:Told (fE f o p W) gs
 Ls:ds.map Fd.pairs=gs
 ok:∀d∈ds,Ug f o p W d
inductive Reach(f0:Nat→Nat→Option Int)(o p least:Int):List Fd→(Nat→Nat→Option Int)→Prop
 |start:Reach f0 o p least [] f0
 |round {done:List Fd} {f:Nat→Nat→Option Int} {W:Int} {gs:List (List Pr)} {ds:List Fd} (_:Reach f0 o p least done f) (_:n8 f o p least W gs ds):Reach f0 o p least (done++ds) (mL f gs.flatten)
theorem K2{f:Nat→Nat→Option Int}{n m:Nat}(t:Jf f n m)(ps:List Pr):Jf (mL f ps) n m:=fun i j h=>t i j (by
 unfold mL at h;split at h
 ·cases h
 ·exact h)
theorem Reach.XI{f0 f:Nat→Nat→Option Int}{o p least:Int}{ds:List Fd}{n m:Nat}(t:Jf f0 n m)(r:Reach f0 o p least ds f):Jf f n m:=by
 induction r with
 |start=>exact t
 |round _ _ ih=>exact K2 ih _
theorem vo(f:Nat→Nat→Option Int)(ps:List Pr)(q:Pr):lf (mL f ps) q=if q∈ps then none else lf f q:=by
 unfold lf mL;by_cases h:0≤q.1∧0≤q.2
 ·rw[VH h,VH h];have:bp (q.1.toNat,q.2.toNat)=q:=Prod.ext (by simp[bp];lia) (by simp[bp];lia);rw[this]
 ·rw[M9 h,M9 h];split<;>rfl
theorem fE.open{f:Nat→Nat→Option Int}{o p W:Int}{a b:Pr}(h:fE f o p W a b):(lf f a).isSome=true:=by
 obtain⟨ps,⟨w,_⟩,hm⟩:=h.on;exact w.ok a hm
theorem Told.mem{E:Pr→Pr→Prop}{gs:List (List Pr)}(t:Told E gs){ps:List Pr}(h:ps∈gs){a:Pr}(ha:a∈ps):E a a:=(t.cls ps h a ha a).mp ha
structure Apart(f0 f:Nat→Nat→Option Int)(ds:List Fd):Prop where
 sub:∀q,(lf f q).isSome=true→lf f q=lf f0 q
 shut:∀d∈ds,∀q∈d.pairs,lf f q=none∧(lf f0 q).isSome=true
 ap:ds.Pairwise fun a b=>∀q∈a.pairs,q∉b.pairs
 xK:∀d∈ds,d.pairs.Pairwise (fun p q=>jw p q=true)∧d.pairs≠[]
 gone:∀q,lf f q=none→(lf f0 q).isSome=true→∃d∈ds,q∈d.pairs
theorem Reach.apart{f0 f:Nat→Nat→Option Int}{o p least:Int}{ds:List Fd}(r:Reach f0 o p least ds f):Apart f0 f ds:=by
 induction r with
 |start=>exact⟨fun _ _=>rfl,fun d h=>(by cases h), .nil,fun d h=>(by cases h),fun q h1 h2=>by rw[h1]at h2;cases h2⟩
 |@round done f W gs ds r R ih=>
  have mem:∀d∈ds,d.pairs∈gs:=fun d h=>by rw[←R.Ls];exact List.mem_map.mpr ⟨d,h,rfl⟩
  have op:∀d∈ds,∀q∈d.pairs,(lf f q).isSome=true:=fun d h q hq=>(R.told.mem (mem d h) hq).open
  refine⟨fun q h=>?_,fun d h q hq=>?_,?_,fun d h=>?_,fun q h1 h2=>?_⟩
  ·rw[vo]at h⊢;split at h
   ·cases h
   ·rename_i hn
    rw[M9 hn];exact ih.sub q h
  ·rw[vo];rcases List.mem_append.mp h with h|h
   ·obtain⟨h1,h2⟩:=ih.shut d h q hq;exact⟨by split;rfl;exact h1,h2⟩
   ·rw[VH (List.mem_flatten.mpr ⟨_,mem d h,hq⟩)];have:=op d h q hq;exact⟨rfl,by rw[←ih.sub q this];exact this⟩
  ·refine List.pairwise_append.mpr ⟨ih.ap,?_,fun a ha b hb q hq XH=>?_⟩
   ·have:=R.told.apart;rw[←R.Ls,List.pairwise_map]at this;exact this
   ·have h1:=(ih.shut a ha q hq).1;have h2:=op b hb q XH;rw[h1]at h2;cases h2
  ·rcases List.mem_append.mp h with h|h
   ·exact ih.xK d h
   ·exact⟨R.told.xK _ (mem d h),R.told.ne _ (mem d h)⟩
  ·rw[vo]at h1;by_cases hm:q∈gs.flatten
   ·obtain⟨ps,Ji,hq⟩:=List.mem_flatten.mp hm;rw[←R.Ls]at Ji;obtain⟨d,hd,rfl⟩:=List.mem_map.mp Ji;exact⟨d,δ hd,hq⟩
   ·rw[M9 hm]at h1;obtain⟨d,hd,hq⟩:=ih.gone q h1 h2;exact⟨d,List.mem_append_left _ hd,hq⟩
theorem wk(f:Nat→Nat→Option Int)(o p:Int):∀i j v,Bq f o p i j=some v→∃e,dZ f o p (dh f o p i j).1 (dh f o p i j).2=some e∧v=e-(o*((i:Int)-1-(dh f o p i j).1)+p*((j:Int)-1-(dh f o p i j).2))
 |0,j,v,h=>by rw[jm]at h;cases h
 |i+1,0,v,h=>by unfold Bq at h;cases h
 |i+1,j+1,v,hB=>by
  unfold dh;by_cases h1:dZ f o p i j=Bq f o p (i+1) (j+1)
  ·rw[VH h1];refine⟨v,by rw[h1,hB],?_⟩;have e1:((i+1:Nat):Int)-1-((i,j).1:Int)=0:=by show((i+1:Nat):Int)-1-(i:Int)=0;lia
   have e2:((j+1:Nat):Int)-1-((i,j).2:Int)=0:=by show((j+1:Nat):Int)-1-(j:Int)=0;lia
   rw[e1,e2,Int.mul_zero,Int.mul_zero];lia
  ·rw[M9 h1];by_cases h2:cc (Bq f o p i (j+1)) o=Bq f o p (i+1) (j+1)
   ·rw[VH h2];cases e:Bq f o p i (j+1)with
    |none=>rw[e,hB]at h2;cases h2
    |some v2=>
     rw[e,hB]at h2;have h2:v2-o=v:=by simpa[cc]using h2
     obtain⟨x,hx,hv⟩:=wk f o p i (j+1) v2 e;refine⟨x,hx,?_⟩;have e1:((i+1:Nat):Int)-1-((dh f o p i (j+1)).1:Int)=((i:Int)-1-(dh f o p i (j+1)).1)+1:=by lia
     rw[e1,Int.mul_add]
     lia
   ·rw[M9 h2];have e0:Bq f o p (i+1) (j+1)=qi [dZ f o p i j,cc (Bq f o p i (j+1)) o,cc (Bq f o p (i+1) j) p]:=by rw[Bq];rfl
    have key:∀a b c:Option Int,qi [a,b,c]≠a→qi [a,b,c]≠b→c=qi [a,b,c]:=fun a b c=>by
     cases a<;>cases b<;>cases c<;>simp[qi]<;>lia
    have h3:cc (Bq f o p (i+1) j) p=Bq f o p (i+1) (j+1):=by
     rw[e0];exact key _ _ _ (fun z=>h1 (by rw[e0];exact z.symm)) (fun z=>h2 (by rw[e0];exact z.symm))
    cases e:Bq f o p (i+1) j with
    |none=>rw[e,hB]at h3;cases h3
    |some v2=>
     rw[e,hB]at h3;have h3:v2-p=v:=by simpa[cc]using h3
     obtain⟨x,hx,hv⟩:=wk f o p (i+1) j v2 e;refine⟨x,hx,?_⟩;have e1:((j+1:Nat):Int)-1-((dh f o p (i+1) j).2:Int)=((j:Int)-1-(dh f o p (i+1) j).2)+1:=by lia
     rw[e1,Int.mul_add]
     lia
termination_by i j=>(i,j)
theorem MR(f:Nat→Nat→Option Int)(o p:Int):∀(k i j:Nat)(v:Int),i≤k→dZ f o p i j=some v→Wy (lf f) ((fh f o p i i j).map bp)∧lstP ((fh f o p i i j).map bp)=bp (i,j)∧vl (lf f) o p ((fh f o p i i j).map bp)=v∧(fh f o p i i j).map (fun q=>dZ f o p q.1 q.2)=(GY (lf f) o p ((fh f o p i i j).map bp)).map some:=by
 intro k
 induction k with
 |zero=>
  intro i j v hi he;have:i=0:=by lia
  subst this;rw[iB (fun h=>by rw[jm]at h;cases h)];have hw:f 0 j=some v:=by
   unfold dZ at he;rw[jm]at he;cases e:f 0 j with
   |none=>rw[e]at he;cases he
   |some w=>rw[e]at he;exact he
  have hl:lf f (bp (0,j))=some v:=by rw[←hw];exact sD f 0 j
  refine⟨.one (by rw[hl];rfl),rfl,by simp[vl,hl],?_⟩;simp[GY,vl,hl,he]
 |succ k ih=>
  intro i j v hi he;by_cases hg:il (Bq f o p i j)=true
  ·obtain⟨a1,a2,a3⟩:=lD hg;obtain⟨l1,l2⟩:=(lW f o p i j a1 a2).resolve_right a3;rw[zh hg,List.map_append,List.map_append];cases eb:Bq f o p i j with
   |none=>exact absurd eb a3
   |some b=>
    obtain⟨x,hx,hb⟩:=wk f o p i j b eb;obtain⟨w1,w2,w3,w4⟩:=ih _ _ x (by lia) hx;have hgb:0≤b:=by rw[eb]at hg;simpa[il]using hg
    have hw:∃w,f i j=some w∧v=w+b:=by
     unfold dZ at he;rw[eb]at he;cases e:f i j with
     |none=>rw[e]at he;cases he
     |some w=>
      rw[e]at he;simp only[Mx,show ¬b<0 by lia,if_false,Option.some.injEq]at he;exact⟨w,rfl,by lia⟩
    obtain⟨w,hw,hv⟩:=hw;have hl:lf f (bp (i,j))=some w:=by rw[←hw];exact sD f i j
    have st:EL (lstP ((fh f o p (dh f o p i j).1 (dh f o p i j).1 (dh f o p i j).2).map bp)) (bp (i,j)):=by
     rw[w2];exact⟨by simp[bp];lia,by simp[bp];lia⟩
    have ev:vl (lf f) o p ((fh f o p (dh f o p i j).1 (dh f o p i j).1 (dh f o p i j).2).map bp++[bp (i,j)])=v:=by
     rw[vn _ _ _ w1.ne,w2,w3,hl];simp only[gp,Option.getD_some];have e1:(bp (i,j)).1-(bp ((dh f o p i j).1,(dh f o p i j).2)).1-1=(i:Int)-1-(dh f o p i j).1:=by show(i:Int)-((dh f o p i j).1:Int)-1=_;lia
     have e2:(bp (i,j)).2-(bp ((dh f o p i j).1,(dh f o p i j).2)).2-1=(j:Int)-1-(dh f o p i j).2:=by show(j:Int)-((dh f o p i j).2:Int)-1=_;lia
     rw[e1,e2]
     lia
    refine⟨w1.snoc (by rw[hl];rfl) st,fe,ev,?_⟩;show _++[dZ f o p i j]=(GY (lf f) o p (_++[bp (i,j)])).map some;rw[K1,List.map_append,w4,he];show _++[some v]=_++[some _];rw[ev]
  ·rw[iB hg];have hw:f i j=some v:=by
    unfold dZ at he;cases e:f i j with
    |none=>rw[e]at he;cases he
    |some w=>
     rw[e]at he;cases eb:Bq f o p i j with
     |none=>rw[eb]at he;exact he
     |some b=>
      rw[eb]at he hg;have:b<0:=by
       have:¬0≤b:=fun z=>hg (by simpa[il]using z)
       lia
      simp only[Mx,this,if_true]at he;exact he
   have hl:lf f (bp (i,j))=some v:=by rw[←hw];exact sD f i j
   refine⟨.one (by rw[hl];rfl),rfl,by simp[vl,hl],?_⟩;simp[GY,vl,hl,he]
def MS(f:Nat→Nat→Option Int)(o p:Int)(n m:Nat):Option Int:=qi ((List.range n).map fun i=>qi ((List.range m).map (dZ f o p i)))
theorem K3{f:Nat→Nat→Option Int}{n m:Nat}(t:Jf f n m)(o p:Int):gJ (fun v=>∃ps,Wy (lf f) ps∧v=vl (lf f) o p ps) (MS f o p n m):=by
 refine(lU _).Zz (fun v hv=>?_) (fun v hv=>?_)
 ·obtain⟨i,_,h2⟩:=List.mem_map.mp hv;have h3:=lU ((List.range m).map (dZ f o p i));rw[h2]at h3;obtain⟨j,_,h4⟩:=List.mem_map.mp h3.1;obtain⟨as,a1,_,a3⟩:=n5 h4;exact⟨as,a1,a3.symm⟩
 ·obtain⟨ps,w,rfl⟩:=hv;obtain⟨i,j,hl,hi,hj⟩:=kW t w (dO w.ne);obtain⟨b,hb,hle⟩:=Ap (o:=o) (p:=p) w hl;have h3:=lU ((List.range m).map (dZ f o p i));have Hw:some b∈(List.range m).map (dZ f o p i):=List.mem_map.mpr ⟨j,by simpa using hj,hb⟩;cases e:qi ((List.range m).map (dZ f o p i))with
  |none=>rw[e]at h3;exact absurd Hw (h3 b)
  |some u=>
   rw[e]at h3;refine⟨u,List.mem_map.mpr ⟨i,by simpa using hi,e⟩,?_⟩;have:=h3.2 b Hw
   lia
theorem HZ{f:Nat→Nat→Option Int}{o p W:Int}(T:eM f o p W){n m:Nat}(t:Jf f n m){a b:Pr}(h:fE f o p W a b):∃i j:Nat,dZ f o p i j=some W∧i<n∧j<m∧fE f o p W a (bp (i,j)):=by
 obtain⟨ps,w,hm⟩:=h.on;obtain⟨i,j,hl,hi,hj⟩:=kW t w.1 (dO w.1.ne);obtain⟨v,hb,hle⟩:=Ap (o:=o) (p:=p) w.1 hl;obtain⟨as,a1,_,a3⟩:=n5 hb;have:=T _ a1;have hW:=w.2;refine⟨i,j,by rw[hb];congr 1;lia,hi,hj, .way ps w hm ?_⟩;rw[←hl];exact dO w.1.ne
def wm(n m:Nat):List Pr:=(List.range n).flatMap fun i=>(List.range m).map fun j=>bp (i,j)
theorem qp(n m:Nat):(wm n m).length=n*m:=by
 unfold wm
 induction n with
 |zero=>simp
 |succ n ih=>
  rw[List.range_succ,List.flatMap_append,List.length_append,ih,Nat.succ_mul];simp
theorem C6{n m i j:Nat}(hi:i<n)(hj:j<m):bp (i,j)∈wm n m:=List.mem_flatMap.mpr ⟨i,by simpa using hi,List.mem_map.mpr ⟨j,by simpa using hj,rfl⟩⟩
theorem Told.Ca{E:Pr→Pr→Prop}{gs:List (List Pr)}{n m:Nat}(t:Told E gs)(h:∀g∈gs,∀a∈g,∃i j:Nat,a=bp (i,j)∧i<n∧j<m):gs.length≤n*m:=by
 have hf:∀g∈gs,jW g∈g:=fun g hg=>by
  cases e:g with
  |nil=>exact absurd e (t.ne g hg)
  |cons a r=>simp[jW]
 have:=len_sub (gs.map jW) (wm n m) (List.pairwise_map.mpr (List.Pairwise.imp_of_mem (fun{a b} ha hb EZ e=>EZ (jW a) (hf a ha) (by rw[e];exact hf b hb)) t.apart)) fun x hx=>by
  obtain⟨g,hg,rfl⟩:=List.mem_map.mp hx;obtain⟨i,j,e,hi,hj⟩:=h g hg _ (hf g hg);rw[e];exact C6 hi hj
 rw[List.length_map,qp]at this;exact this
structure zj(P:Addr→Prop)(H:Hp)(CF a:Addr)(d:Fd)(dy wy rw pr:Addr)(us1 us2:List V):Prop where
 ob:H a=some (.ins CF dy (oP d.worth wy rw pr))
 hw:H wy=some (.lst us1)
 pw:iX H us1 d.way
 hr:H rw=some (.lst (d.row.map V.int))
 hp:H pr=some (.lst us2)
 pp:iX H us2 d.pairs
 fa:P a
 fw:P wy
 fr:P rw
 fp:P pr
def dC(P:Addr→Prop)(H:Hp)(CF:Addr)(us:List V)(ds:List Fd):Prop:=us.length=ds.length∧∀(k:Nat) d,ds[k]?=some d→∃a dy wy rw pr us1 us2,us[k]?=some (V.ref a)∧zj P H CF a d dy wy rw pr us1 us2
theorem zj.keep{P P':Addr→Prop}{H H':Hp}{CF a:Addr}{d:Fd}{dy wy rw pr:Addr}{us1 us2:List V}(F:zj P H CF a d dy wy rw pr us1 us2)(h:∀b o,P b→H b=some o→H' b=some o)(t:fD H H')(hP:∀b,P b→P' b):zj P' H' CF a d dy wy rw pr us1 us2:=
 ⟨h _ _ F.fa F.ob,h _ _ F.fw F.hw,F.pw.cO t,h _ _ F.fr F.hr,h _ _ F.fp F.hp,F.pp.cO t,hP _ F.fa,hP _ F.fw,hP _ F.fr,hP _ F.fp⟩
theorem dC.keep{P P':Addr→Prop}{H H':Hp}{CF:Addr}{us:List V}{ds:List Fd}(F:dC P H CF us ds)(h:∀b o,P b→H b=some o→H' b=some o)(t:fD H H')(hP:∀b,P b→P' b):dC P' H' CF us ds:=
 ⟨F.1,fun k d e=>let ⟨a,dy,wy,rw,pr,us1,us2,h1,h2⟩:=F.2 k d e;⟨a,dy,wy,rw,pr,us1,us2,h1,h2.keep h t hP⟩⟩
theorem dC.nil{P:Addr→Prop}{H:Hp}{CF:Addr}:dC P H CF [] []:=⟨rfl,fun k d e=>by simp at e⟩
theorem dC.append{P:Addr→Prop}{H:Hp}{CF:Addr}{us vs:List V}{ds es:List Fd}(F:dC P H CF us ds)(G:dC P H CF vs es):dC P H CF (us++vs) (ds++es):=by
 refine⟨by rw[List.length_append,List.length_append,F.1,G.1],fun k d e=>?_⟩;by_cases hk:k<ds.length
 ·rw[ζ hk]at e;rw[ζ (by rw[F.1];exact hk)];exact F.2 k d e
 ·rw[θ Nz]at e;rw[θ (by rw[F.1];lia),F.1];exact G.2 _ d e
inductive wt(CT:Addr)(vs:List V)(H:Hp)(Q:VK)(u3:XK):Prop
 |mk (f g t:Addr) (v:V) (c:Case) (shut:List Pr) (_:vs=[.ref f, .ref g, .ref t,v]) (_:H f=some (.lst (c.xs.map V.str))) (_:H g=some (.lst (c.ys.map V.str))) (_:uC H CT t c) (_:Ku H v shut) (_:shut.length≤1000) (_:c.xs.length≤1000) (_:c.ys.length≤1000) (_:∀H' e as,av H H'→H' e=some (.lst (as.map V.ref))→H e=none→jF H' as (jV c shut) c.xs.length c.ys.length→as.Nodup→e∉as→(∀a∈as,H a=none)→Q (.ref e) H'):wt CT vs H Q u3
inductive wu(CF:Addr)(vs:List V)(H:Hp)(Q:VK)(u3:XK):Prop
 |mk (w md:Addr) (as:List Addr) (us:List V) (ds:List Fd) (f:Nat→Nat→Option Int) (n m:Nat) (_:vs=[.ref w, .ref md]) (_:H w=some (.lst (as.map V.ref))) (_:as.Nodup) (_:w∉as) (_:jF H as f n m) (_:H md=some (.lst us)) (_:md∉as) (_:dC (fun b=>b∉as) H CF us ds) (_:∀d∈ds,∀q∈d.pairs,∃i j:Nat,q=bp (i,j)∧i<n∧j<m)
  (_:∀H',(∀b o,b∉as→H b=some o→H' b=some o)→fD H H'→jF H' as (mL f (ds.map Fd.pairs).flatten) n m→Q .cF H'):wu CF vs H Q u3
def Uh(a b:Fd):Bool:=if a.worth=b.worth then jw (jW a.pairs) (jW b.pairs)else decide (b.worth<a.worth)
structure gU(f0:Nat→Nat→Option Int)(o p least:Int)(es:List Fd):Prop where
 VQ:∃ds f,Reach f0 o p least ds f∧Stop f o p least∧es.Perm ds
 Ca:es.length≤20
 xK:es.Pairwise fun a b=>Uh a b=true
theorem jG{g g':Pr→Option Int}(o p:Int):∀{ps:List Pr},(∀q∈ps,g q=g' q)→vl g o p ps=vl g' o p ps
 |[],_=>rfl
 |[a],h=>by simp only[vl];rw[h a (Xx)]
 |a::b::r,h=>by
  have ih:=jG (g:=g) (g':=g') o p (ps:=b::r) fun q hq=>h q (by simp[hq])
  simp only[vl];rw[ih,h a (Xx)]
theorem H_{g g':Pr→Option Int}(o p:Int){ps:List Pr}(h:∀q∈ps,g q=g' q):GY g o p ps=GY g' o p ps:=by
 unfold GY;apply List.map_congr_left;intro k _;exact jG o p fun q hq=>h q (List.mem_of_mem_take hq)
theorem Wy.congr{g g':Pr→Option Int}{ps:List Pr}(w:Wy g ps)(h:∀q∈ps,g q=g' q):Wy g' ps:=⟨w.ne,fun q hq=>by rw[←h q hq];exact w.ok q hq,w.up⟩
structure Ui(f0:Nat→Nat→Option Int)(o p least:Int)(d:Fd):Prop where
 way:Wy (lf f0) d.way
 worth:vl (lf f0) o p d.way=d.worth
 least:least≤d.worth
 row:d.row=GY (lf f0) o p d.way
 sub:∀q∈d.way,q∈d.pairs
 xK:d.pairs.Pairwise fun p q=>jw p q=true
 op:∀q∈d.pairs,(lf f0 q).isSome=true
 part:∀a b,d.way=a++b→a≠[]→b≠[]→vl (lf f0) o p a≤d.worth∧vl (lf f0) o p b≤d.worth
theorem Reach.Qr{f0 f:Nat→Nat→Option Int}{o p least:Int}{ds:List Fd}(r:Reach f0 o p least ds f):∀d∈ds,Ui f0 o p least d:=by
 induction r with
 |start=>exact fun d h=>by cases h
 |@round done f W gs ds r R ih=>
  intro d hd;rcases List.mem_append.mp hd with hd|hd
  ·exact ih d hd
  have ap:=r.apart;have k:=R.ok d hd;have hg:d.pairs∈gs:=by rw[←R.Ls];exact List.mem_map.mpr ⟨d,hd,rfl⟩
  have cg:∀q∈d.way,lf f q=lf f0 q:=fun q hq=>ap.sub q (k.way.1.ok q hq)
  refine⟨k.way.1.congr cg,?_,by rw[k.worth];exact R.least,by rw[k.row];exact H_ o p cg,k.sub,R.told.xK _ hg,fun q hq=>?_,fun a b e ha hb=>?_⟩
  ·rw[←jG o p cg,k.way.2,k.worth]
  ·have:=(R.told.mem hg hq).open;rw[←ap.sub q this];exact this
  ·have w:=k.way.1;rw[e]at w;rw[←jG o p (fun q hq=>cg q (by rw[e];exact List.mem_append_left _ hq)),←jG o p (fun q hq=>cg q (by rw[e];exact δ hq)),k.worth];exact⟨R.top _ (w.left ha),R.top _ (w.right hb)⟩
theorem Reach.met{f0 f:Nat→Nat→Option Int}{o p least:Int}{ds:List Fd}(r:Reach f0 o p least ds f){ws:List Pr}(w:Wy (lf f0) ws):(∀q∈ws,(lf f q).isSome=true)∨∃d∈ds,vl (lf f0) o p ws≤d.worth∧∃q∈ws,q∈d.pairs:=by
 induction r with
 |start=>exact .inl w.ok
 |@round done f W gs ds r R ih=>
  rcases ih with h|⟨d,h1,h2⟩
  ·have ap:=r.apart;by_cases hm:∃q∈ws,q∈gs.flatten
   ·obtain⟨q,hq,hg⟩:=hm;obtain⟨g,ZP,hg2⟩:=List.mem_flatten.mp hg;rw[←R.Ls]at ZP;obtain⟨d,hd,rfl⟩:=List.mem_map.mp ZP;refine .inr ⟨d,δ hd,?_,q,hq,hg2⟩;have cg:∀q∈ws,lf f0 q=lf f q:=fun q hq=>(ap.sub q (h q hq)).symm
    rw[jG o p cg,(R.ok d hd).worth];exact R.top _ (w.congr cg)
   ·refine .inl fun q hq=>?_
    rw[vo,M9 (fun z=>hm ⟨q,hq,z⟩)];exact h q hq
  ·exact .inr ⟨d,List.mem_append_left _ h1,h2⟩
theorem gU.met{f0:Nat→Nat→Option Int}{o p least:Int}{es:List Fd}(t:gU f0 o p least es){ws:List Pr}(w:Wy (lf f0) ws)(h:least≤vl (lf f0) o p ws):∃d∈es,vl (lf f0) o p ws≤d.worth∧∃q∈ws,q∈d.pairs:=by
 obtain⟨ds,f,r,st,pm⟩:=t.VQ;rcases r.met w with z|⟨d,h1,h2⟩
 ·exfalso;have cg:∀q∈ws,lf f0 q=lf f q:=fun q hq=>(r.apart.sub q (z q hq)).symm
  have:=st ws (w.congr cg);rw[←jG o p cg]at this
  lia
 ·exact⟨d,pm.mem_iff.mpr h1,h2⟩
theorem gU.Qr{f0:Nat→Nat→Option Int}{o p least:Int}{es:List Fd}(t:gU f0 o p least es):∀d∈es,Ui f0 o p least d:=fun d hd=>by
 obtain⟨ds,f,r,_,pm⟩:=t.VQ;exact r.Qr d (pm.mem_iff.mp hd)
theorem wA(c:Case)(q:Pr):lf (jV c []) q=c.pw q:=by
 rw[EO];simp[NQ]
end QF
namespace QF
open PySem L2 PySem.Spec PyProof.Rows PySem.W PySem.Calls
section
variable{X:Cx}
open Classical in
end
end QF
namespace QF
open PySem L2
end QF
namespace L2
open PySem PySem.Spec PyProof.Rows PySem.W PySem.Calls
inductive fU(K:Frag)(x q:Str)(st:Stmt)(f:Addr):Prop
 |mk {oc kV dc pm cd ct:Value} {od an:Option Addr} {sl:Array (Option Value)} (l:K.lookup f=some ⟨oc,od, .func (fnOf x q (fo st) (d4 st) (aw st) .none kV dc pm an cd ct),sl⟩) (c:codeIn K cd q=true) (k:keepIn K (.ref f)=true):fU K x q st f
theorem Ce{Φ:Value→Value→Value→Option Addr→Value→Value→List Value→Prop}(h:∀k d p n c t a,Φ k d p n c t [a])(k d p:Value)(n:Option Addr)(c t:Value)(us:List Value)(e:us.length=1):Φ k d p n c t us:=QF.on1 (h k d p n c t) us e
theorem C7{Φ:Value→Value→Value→Option Addr→Value→Value→List Value→Prop}(h:∀k d p n c t a b,Φ k d p n c t [a,b])(k d p:Value)(n:Option Addr)(c t:Value)(us:List Value)(e:us.length=2):Φ k d p n c t us:=QF.on2 (h k d p n c t) us e
theorem C8{Φ:Value→Value→Value→Option Addr→Value→Value→List Value→Prop}(h:∀k d p n c t x y z,Φ k d p n c t [x,y,z])(k d p:Value)(n:Option Addr)(c t:Value)(us:List Value)(e:us.length=3):Φ k d p n c t us:=QF.on3 (h k d p n c t) us e
theorem Uj{Φ:Value→Value→Value→Option Addr→Value→Value→List Value→Prop}(h:∀k d p n c t x y z u,Φ k d p n c t [x,y,z,u])(k d p:Value)(n:Option Addr)(c t:Value)(us:List Value)(e:us.length=4):Φ k d p n c t us:=QF.on4 (h k d p n c t) us e
theorem bn5{Φ:Value→Value→Value→Option Addr→Value→Value→List Value→Prop}(h:∀k d p n c t x y z u v,Φ k d p n c t [x,y,z,u,v])(k d p:Value)(n:Option Addr)(c t:Value)(us:List Value)(e:us.length=5):Φ k d p n c t us:=QF.on5 (h k d p n c t) us e
theorem bn6{Φ:Value→Value→Value→Option Addr→Value→Value→List Value→Prop}(h:∀k d p n c t x y z u v w,Φ k d p n c t [x,y,z,u,v,w])(k d p:Value)(n:Option Addr)(c t:Value)(us:List Value)(e:us.length=6):Φ k d p n c t us:=QF.on6 (h k d p n c t) us e
section
variable{P:Program}{w:World}{K:Frag}{mg:Str→Option Value}{base h:Heap}{cm:Bool}{k:Nat}{x q:Str}{st:Stmt}{f C:Addr}{ps:List Str}{sp:Sp}
def VR(x q:Str)(st:Stmt)(ps:List Str):Prop:=∀(kV doc pm:Value)(an:Option Addr)(iy ct:Value)(us:List Value),us.length=ps.length→bindArgs (fnOf x q (fo st) (d4 st) (aw st) .none kV doc pm an iy ct) ⟨us,[]⟩=pure (ps.zip us)
theorem fU.df(d:fU K x q st f)(X:K.In h)(G:h.Ns mainGlobals mg)(a:nsIn K mainGlobals x=some (some (.ref f)))(ok:∀fd,lu K x q st f fd→bE P w K mg base (de P w) cm k f fd ps sp)(b:VR x q st ps):cG P w K mg base cm k x ps sp:=by
 obtain⟨l,c,z⟩:=d;have F:=JT (st:=st) l c z;exact J9 F (mg_of X G a) (F.binds b) (ok _ F)
theorem fU.ok(d:fU K x q st f){R:FuncData→Prop}(ok:∀fd,fT K x q st f fd→R fd)(b:VR x q st ps):∃fd,R fd∧Binds K fd ps []:=by
 obtain⟨l,c,z⟩:=d;exact⟨_,ok _ (zT (st:=st) l c z), .all fun us e=>b _ _ _ _ _ _ us e⟩
theorem fU.mt(d:fU K x q st f)(cl:xH K C)(a:findIn K (.ref C) x=some (some (.ref f)))(i:isFn K (.ref f)=true)(ok:∀fd,fT K x q st f fd→bE P w K mg base (de P w) cm k f fd ps sp)(b:VR x q st ps):c6 P w K mg base cm k C x ps sp:=by
 obtain⟨fd,h1,h2⟩:=d.ok (R:=fun fd=>bE P w K mg base (de P w) cm k f fd ps sp) ok b;obtain⟨l,c,z⟩:=d;exact Hz h1 ⟨a,i,z⟩ h2 cl
theorem fU.nw{y:Str}(d:fU K x q st f)(m:mg y=some (.ref C))(g1:makesIn K C=true)(g2:keepIn K (.ref C)=true)(a:findIn K (.ref C) "__init__"=some (some (.ref f)))(i:isFn K (.ref f)=true)(ok:∀fd,fT K x q st f fd→bE P w K mg base (de P w) cm k f fd ps sp)(b:VR x q st ps):j5 P w K mg base cm k y C ps [] sp:=by
 obtain⟨fd,h1,h2⟩:=d.ok (R:=fun fd=>bE P w K mg base (de P w) cm k f fd ps sp) ok b;exact vP h1 ⟨g1,a,i,g2⟩ m h2 .nil
structure C9(K:Frag)(x:Str)(C:Addr):Prop where
 a:nsIn K mainGlobals x=some (some (.ref C))
 b:excIn K C [.type "ValueError", .type "Exception", .type "BaseException", .type "object"] "ValueError.__new__"=true
 c:findIn K (.ref C) "__class__"=some (some (.builtin "object.__class__"))
 d:mroIn K C (.type "object")=some true
 e:mroIn K C (.type "BaseException")=some true
 f:findIn K (.ref C) "__getattribute__"=some (some (.builtin "BaseException.__getattribute__"))
 g:findIn K (.ref C) "__getattr__"=some none
 h:instIn K (.ref C) (.type "tuple")=some false
 i:keepIn K (.ref C)=true
theorem C9.er{x:Str}{C:Addr}(e:C9 K x C)(X:K.In h)(G:h.Ns mainGlobals mg):QF.Er K mg x C:=⟨mg_of X G e.a,e.b,e.c,e.d,e.e,e.f,e.g,e.h,e.i⟩
structure N6(K:Frag)(x:Str)(C:Addr):Prop where
 a:nsIn K mainGlobals x=some (some (.ref C))
 b:makesIn K C=true
 c:keepIn K (.ref C)=true
def DX(K:Frag)(x:Str):Prop:=nsIn K mainGlobals x=some none
structure TZ(K:Frag):Prop where
 a:DX K "len"
 b:DX K "range"
 c:DX K "isinstance"
 d:DX K "int"
 e:DX K "bool"
 f:DX K "str"
 g:DX K "list"
 h:DX K "tuple"
 i:DX K "dict"
 j:DX K "all"
 k:DX K "any"
 l:DX K "min"
 m:DX K "max"
 n:DX K "enumerate"
 o:DX K "ValueError"
theorem pe{x:Str}(z:DX K x)(X:K.In h)(G:h.Ns mainGlobals mg):mg x=none:=mg_none_of X G z
theorem TZ.tb(z:TZ K)(X:K.In h)(G:h.Ns mainGlobals mg):QF.TB mg:=⟨pe z.a X G,pe z.b X G,pe z.c X G,pe z.d X G,pe z.e X G,pe z.f X G,pe z.g X G,pe z.h X G,pe z.i X G,pe z.j X G,pe z.k X G,pe z.l X G,pe z.m X G,pe z.n X G,pe z.o X G⟩
end
end L2
namespace QF
open PySem L2
theorem gU.pair{c:Case}{es:List Fd}(t:gU (jV c []) c.out c.into c.least es){q:Pr}{w:Int}(h:NQ c [] q=some w)(hl:c.least≤w):∃d∈es,q∈d.pairs:=by
 have hq:lf (jV c []) q=some w:=by rw[EO];exact h
 obtain⟨d,hd,_,p,hp,JH⟩:=t.met (ws:=[q]) (.one (by rw[hq];rfl)) (by simp[vl,hq];exact hl);have:p=q:=by simpa using hp
 exact⟨d,hd,this▸JH⟩
end QF
namespace L2
open PySem PySem.Spec PyProof.Rows PySem.W PySem.Calls
open AutoSeq1 (wpAny_loadPart')
end L2
namespace QF
open PySem L2 PySem.Spec PyProof.Rows PySem.W PySem.Calls
section
variable{X:Cx}
theorem N7{pins:List (Addr×Obj)}{s:Shared}{σ:L2.St}{H:Hp}{p:Addr}{r:Pr}(I:Inv X pins σ H s)(hp:H p=some (.tup (mU r))):qk s.heap p r:=by
 obtain⟨its,rr,pl,hz⟩:=I.tuple (xs:=mU r) (.of hp);cases rr with
 |cons r1 rr=>
  cases rr with
  |cons r2 rr=>
   cases rr;obtain⟨t,rfl⟩:=r1;obtain⟨u,rfl⟩:=r2;obtain⟨o,h1,h2,n,h3⟩:=pl;exact⟨o,t,u,n,h1,h2,h3⟩
end
abbrev Ky:=Int×List Pr
inductive Rn(o p least:Int):(Nat→Nat→Option Int)→List Fd→Prop
 |stop {f:Nat→Nat→Option Int} (_:Stop f o p least):Rn o p least f []
 |round {f:Nat→Nat→Option Int} {W:Int} {gs:List (List Pr)} {ds rs:List Fd} (_:n8 f o p least W gs ds) (_:Rn o p least (mL f gs.flatten) rs):Rn o p least f (ds++rs)
section
variable{X:Cx}
inductive MM(K:Frag)(x:V)(y:V)(H:Hp)(Q:VK):Prop
 |mk (p q:Addr) (xs ys:List V) (ps:List Pr) (_:x= .ref p) (_:y= .ref q) (_:jT K H p xs) (_:jT K H q ys) (_:iX H xs ps) (_:iX H ys ps) (_:Q (.bl false) H):MM K x y H Q
end
end QF
namespace QF
open PySem L2
end QF
namespace QF
open PySem L2
end QF
namespace L2
open PySem PySem.Spec PyProof.Rows PySem.W PySem.Calls
open AutoSeq1 (wpAny_loadPart')
end L2
namespace QF
open PySem L2 PySem.Spec PyProof.Rows PySem.W PySem.Calls
section
variable{X:Cx}
end
section
variable{m:Nat}{c:Case}
end
section
variable{φ ψ:Pr→Pr}{o p o' p' W least:Int}{f g:Nat→Nat→Option Int}
end
end QF
namespace L2
open PySem PySem.Spec PyProof.Rows PySem.W PySem.Calls
open AutoSeq1 (wpAny_loadPart')
open PySem.SeqAt PySem.MeetsSeq PySem.MeetsSeq2 PySem.MeetsSeq3 PySem.SeqRoads2
open PySem.SeqAt
section
variable{prog:Program}{w:World}{A:Around}{E:Value→Shared→Prop}{s:Shared}
end
end L2
namespace QF
open PySem L2 PySem.Spec PyProof.Rows PySem.W PySem.Calls
end QF
namespace QF
open PySem L2
section
variable{φ:Pr→Pr}{c:Case}{es:List Fd}{ks:List Ky}
end
section
open PySem.Spec PyProof.Rows PySem.W PySem.Calls
variable{X:Cx}
end
structure Uk(c:Case)(zs:List Str):Prop where
 x:∀w∈c.xs,w∈zs
 y:∀w∈c.ys,w∈zs
 f:∀f∈c.fs,f.1∈zs∧f.2.1∈zs
theorem MT(k:Nat)(s:Str):(List.replicate k [V.str s]).flatten=(List.replicate k s).map V.str:=by
 induction k with
 |zero=>rfl
 |succ k ih=>rw[List.replicate_succ,List.replicate_succ,List.flatten_cons,ih];rfl
section
variable{zs rs:List Str}{c:Case}(hl:rs.length=zs.length)(nd:rs.Nodup)(W:Uk c zs)
include hl nd
include W
end
def ZQ(n m:Nat)(q:Pr):Prop:=(0≤q.1∧q.1<n)∧0≤q.2∧q.2<m
section
variable{n m:Nat}{S o p least:Int}(hS:0<S)(ho:40*S≤o)(hp:40*S≤p)(hn:n≤40)(hl:1≤least)
structure Un(n m:Nat)(S:Int)(f:Nat→Nat→Option Int):Prop where
 val:∀q,(lf f q).isSome=true→lf f q=some S∧ZQ n m q
 all:∀q q',(lf f q).isSome=true→ZQ n m q'→q.1-q.2=q'.1-q'.2→(lf f q').isSome=true
include hS ho hp hn
include hl
end
section
variable{n m:Nat}{S o p least:Int}{w:Str}(hS:0<S)(ho:40*S≤o)(hp:40*S≤p)(hn:n≤40)(hl:1≤least)
include hS ho hp hn hl
end
theorem XJ(us:List Value)(e:us.length=5):∃a b c d f,us=[a,b,c,d,f]:=by
 match us,e with
 |[a,b,c,d,f],_=>exact⟨a,b,c,d,f,rfl⟩
end QF
namespace L2
open PySem PySem.Spec PyProof.Rows PySem.W PySem.Calls
theorem E6{α:Type}{n:Nat}{lt:Nat→Nat→Bool}{cmp:Nat→Nat→(Bool→Shared→Prop)→Shared→Prop}{s:Shared}(hc:∀i j C,i<n→j<n→C (lt i j) s→cmp i j C s){Q:α→Prop}{G:α→Shared→Prop}(g:∀a,Q a→G a s):
  ∀{t:KasT α},ES n lt t Q→t.kasWp cmp G s
 | .ret a,h=>g a h
 | .ask i j k,h=>hc i j _ h.1 h.2.1 (E6 hc g h.2.2)
def MU(n:Nat)(lt:Nat→Nat→Bool):Prop:=∀{prog:Program}{w:World}{A:Around}{E:Value→Shared→Prop}{s:Shared}{κ:SortKind}{ks vs:List Value},ks.length=vs.length→vs.length=n→2≤n→ks.Nodup→
 (∀i j,i<n→j<n→∀C:Bool→Shared→Prop,C (lt i j) s→wpAny (model prog w) A (keyLt' κ (ks.getD i .none) (ks.getD j .none)) C (fun _ _=>False) s)→
 wpAny (model prog w) A ((sortRuns').run (SortSt.mk' κ (ks.toArray.zip vs.toArray) #[] 7 none)) (fun r s'=>∃p:Array Nat,s'=s∧iK n p∧Sd lt p n∧arrOf r.2=p.map (kas_item (ks.toArray.zip vs.toArray))∧failedOf r.2=none) E s
theorem Aq{n:Nat}{lt:Nat→Nat→Bool}(h:n<64)(L:qj n lt):MU n lt:=by
 rintro prog w A E s κ ks vs hl rfl h2-hc;exact kat_run (Q:=fun jh s'=>∃p:Array Nat,s'=s∧iK vs.length p∧Sd lt p vs.length∧arrOf jh=p.map (kas_item (ks.toArray.zip vs.toArray))∧failedOf jh=none)
  (G:=fun p s'=>s'=s∧iK vs.length p∧Sd lt p vs.length) hl h2 h (fun p' jh s' a1 a2 a3 a4=>⟨p',a4.1,a4.2.1,a4.2.2,a2,a3⟩) (E6 (lt:=lt) (n:=vs.length) (fun i j C hi hj hC=>hc i j hi hj C hC) (fun p ⟨x,y⟩=>⟨rfl,x,y⟩) (GN L h2 (Q:=fun p=>iK vs.length p∧Sd lt p vs.length) fun p x y=>⟨x,y⟩))
theorem N8:∀f n r,r≤1→minRun' f n r≤n+r
 |0,n,r,_=>Nat.le_refl _
 |f+1,n,r,h=>by
  rw[minRun'_succ];split
  ·exact Nat.le_refl _
  ·have:=N8 f (n/2) (max r (n%2)) (by lia)
   lia
theorem MV{n:Nat}{lt:Nat→Nat→Bool}(hs:Sd lt (List.toArray (List.range n)) n)(L:qj n lt):MU n lt:=by
 rintro prog w A E s κ ks vs hl rfl h2 nd hc;have ea:(ks.toArray.zip vs.toArray).toList=ks.zip vs:=Xx;have hz:(ks.toArray.zip vs.toArray).size=vs.length:=by simp[hl]
 have er:(List.toArray (List.range vs.length)).map (kas_item (ks.toArray.zip vs.toArray))=ks.toArray.zip vs.toArray:=by
  have e:=kas_range (ks.toArray.zip vs.toArray);rw[hz]at e;exact e
 have hp:iK vs.length (List.toArray (List.range vs.length)):=by unfold iK;simp
 have lt0:∀i,i+1<vs.length→lt (i+1) i=false:=fun i hi=>by
  have h:=hs i (i+1) (by lia) hi;rw[iZ,iZ]at h;have h:lt i (i+1)=true:=by simpa[Array.getElem?_range,show i<vs.length by lia,hi]using h
  exact L.as _ _ (by lia) hi h
 have run:wpS (model prog w) A E s sortRuns' (fun _ jh=>arrOf jh=ks.toArray.zip vs.toArray∧failedOf jh=none) (SortSt.mk' κ (ks.toArray.zip vs.toArray) #[] 7 none):=by
  have ea0:arrOf (SortSt.mk' κ (ks.toArray.zip vs.toArray) #[] 7 none)=ks.toArray.zip vs.toArray:=rfl;rw[MH];refine wpS_bind (wpS_get ?_);rw[ea0,hz];refine wpS_bind (wpS_mono (wpS_forRange (I:=fun x c jh=>arrOf jh=ks.toArray.zip vs.toArray∧failedOf jh=none∧kindOf jh=κ∧((x=0∧c=(none,0)∧pendingOf jh=#[])∨(c=(none,vs.length)∧(pendingOf jh).size=1))) (Q:=fun c jh=>arrOf jh=ks.toArray.zip vs.toArray∧failedOf jh=none∧c.1=none∧(pendingOf jh).size=1) ?_ ?_ ⟨rfl,rfl,rfl, .inl ⟨rfl,rfl,rfl⟩⟩) ?_)
  ·rintro x c jh _ hx ⟨a1,a2,ak,⟨rfl,rfl,a3⟩|⟨rfl,a3⟩⟩
   ·dsimp only;rw[M9 Nz];refine wpS_bind ?_;rw[P8];refine wpS_bind ?_;unfold XC;refine wpS_forRange (I:=fun x c F_=>F_=jh∧c=(none,x)) ?_ ?_ ⟨rfl,rfl⟩
    ·rintro x c F_ mT Cb ⟨rfl,rfl⟩;dsimp only;refine wpS_bind ?_;rw[ltAt'_eq];refine wpS_bind (wpS_get ?_);have at':∀k,k<vs.length→(arrOf F_)[k]?=some (ks.getD k .none,vs.getD k .none):=fun k hk=>by
      rw[a1,←Array.getElem?_toList,ea,List.getElem?_zip_eq_some];simp[show k<ks.length by lia,hk]
     refine wpS_bind (NY (at' (0+x) (by lia)) (wpS_bind (NY (at' (0+x-1) (by lia)) ?_)));rw[lt'_eq];refine wpS_bind (wpS_get ?_);rw[ak];refine wpS_bind (wpS_lift (wpAny_attempt (wpAny_mono (hc (0+x) (0+x-1) (by lia) (by lia) (fun b s'=>b=lt (0+x) (0+x-1)∧s'=s) ⟨rfl,rfl⟩) ?_ fun _ _ e=>e.elim)));rintro b s' ⟨rfl,rfl⟩;refine⟨rfl,wpS_pure ?_⟩;have:=lt0 (x-1) (by lia);rw[show x-1+1=0+x by lia,show x-1=0+x-1 by lia]at this;rw[this];exact wpS_pure ⟨rfl,rfl⟩
    ·rintro c F_ ⟨rfl,rfl⟩;rw[show max 1 (vs.length-0)=vs.length by lia];dsimp only;rw[if_pos XD];refine wpS_pure ?_;dsimp only;have hm:¬vs.length<minRun' vs.length vs.length 0:=by have:=N8 vs.length vs.length 0 (by lia);lia
     rw[M9 hm];unfold XE;refine wpS_bind (wpS_get ?_);rw[a3];exact wpS_bind (wpS_modify (wpS_pure ⟨a1,a2,ak, .inr ⟨Xx,by show((pendingOf F_).push _).size=1;rw[a3];rfl⟩⟩))
   ·dsimp only;rw[VH Ξ];exact wpS_pure ⟨a1,a2,rfl,a3⟩
  ·rintro c jh ⟨a1,a2,ak,⟨h0,_⟩|⟨rfl,a3⟩⟩
   ·lia
   ·exact⟨a1,a2,rfl,a3⟩
  ·rintro⟨c1,c2⟩ jh ⟨a1,a2,e,a3⟩;dsimp only at e⊢;subst e;refine wpS_bind ?_;unfold ZJ;refine wpS_forRange (I:=fun x c F_=>F_=jh∧x=0) ?_ ?_ ⟨rfl,rfl⟩
   ·rintro x c F_ _ hx ⟨rfl,rfl⟩;refine wpS_bind (wpS_get ?_);rw[VH Nz];exact wpS_pure (wpS_pure ⟨a1,a2⟩)
   ·rintro c F_ ⟨rfl,h0⟩
    lia
 unfold wpS at run;exact wpAny_mono run (fun r s' ⟨h1,h3,h4⟩=>⟨_,h1,hp,hs,h3.trans er.symm,h4⟩) fun _ _ e=>e
section
variable{prog:Program}{w:World}{A:Around}{E:Value→Shared→Prop}{s:Shared}
theorem E7{a:Addr}{vs:List Value}{n:Nat}{κ:SortKind}{lt:Nat→Nat→Bool}{P:PySem.Fin→Shared→Prop}(ho:s.heap.get? a=some (seqObj "list" vs.toArray n))(h2:2≤vs.length)(xT:vs.length<64)(L:qj vs.length lt)
  (hk:∀s',Kp a s.heap s'.heap→∀Q':SortKind→Shared→Prop,Q' κ s'→wpAny (model prog w) A (keyKind' vs.toArray) Q' (fun _ _=>False) s')
  (hc:∀i j,i<vs.length→j<vs.length→∀s',Kp a s.heap s'.heap→∀C:Bool→Shared→Prop,C (lt i j) s'→wpAny (model prog w) A (keyLt' κ (vs.getD i .none) (vs.getD j .none)) C (fun _ _=>False) s')
  (h:∀p h' c,iK vs.length p→Sd lt p vs.length→Kp a s.heap h'→h'.get? a=some (seqObj "list" (List.toArray (p.toList.map fun i=>vs.getD i Value.none)) c)→P (.done (.ret .none)) {s with heap:=h'}):
  wpAny (model prog w) A (Builtin.«list.sort» ⟨[.ref a],[]⟩) P E s:=by
 have s1:=Heap.SameBut.update s.heap a (Obj.mapSeq fun _=>(#[]:Array Value));obtain⟨e1,NZ⟩:∃e1,(ξ a).get? a=some (seqObj "list" #[] e1):=⟨_,get?_update_seq ho fun _=>#[]⟩
 rw[list_sort_plain];refine wpAny_bind (listItems_at ho rfl (Θ (listUpdate_at ho rfl ?_ (by rw[List.size_toArray,sizeLine_eq];lia) (Nat.zero_le _))));refine wpAny_bind (seqEpoch_at NZ rfl (Θ (wpAny_newTuple (Θ (wpAny_newList (wpAny_holding ?_) (Nat.zero_le _))) (by show vs.length≤_;rw[sizeLine_eq];lia))));generalize hh:(((ξ a).push {cls:= .type "tuple",data:= .seq vs.toArray 0}).push {cls:= .type "list",data:= .seq #[] 0})=h3;have k3:Kp a s.heap h3:=fun b o hb e=>by
  rw[←hh];exact Ο (Ο ((s1.2 b hb).trans e))
 have P9:h3.get? a=some (seqObj "list" #[] e1):=by
  rw[←hh];exact Ο (Ο NZ)
 show wpAny (model prog w) A _ P E {s with heap:=h3};dsimp only;have B_:¬vs.toArray.size<2:=by rw[List.size_toArray];lia
 rw[M9 B_,M9 B_];refine wpAny_bind (wpAny_mono (hk {s with heap:=h3} k3 (fun VS s'=>VS=κ∧s'={s with heap:=h3}) ⟨rfl,rfl⟩) ?_ fun _ _ x=>x.elim);rintro _ _ ⟨rfl,rfl⟩;refine wpAny_bind (wpAny_mono (kat_run (Q:=fun jh s'=>∃p:Array Nat,s'={s with heap:=h3}∧iK vs.length p∧Sd lt p vs.length∧arrOf jh=p.map (kas_item (vs.toArray.zip vs.toArray))∧failedOf jh=none)
  (G:=fun p s'=>s'={s with heap:=h3}∧iK vs.length p∧Sd lt p vs.length) rfl h2 xT (fun p' jh s' a1 a2 a3 a4=>⟨p',a4.1,a4.2.1,a4.2.2,a2,a3⟩) ?_) ?_ fun _ _ e=>e)
 ·exact E6 (lt:=lt) (n:=vs.length) (fun i j C hi hj hC=>hc i j hi hj {s with heap:=h3} k3 C hC) (fun p ⟨x,y⟩=>⟨rfl,x,y⟩) (GN L h2 (Q:=fun p=>iK vs.length p∧Sd lt p vs.length) fun p x y=>⟨x,y⟩)
 rintro⟨⟨⟩,jh⟩ s' ⟨p,rfl,hp,hs,XM,hf⟩;dsimp only;rw[kat_snds rfl XM];have hsz:(List.toArray (p.toList.map fun i=>vs.getD i Value.none)).size=vs.length:=by rw[List.size_toArray,List.length_map,Array.length_toList,hp.size]
 have s2:=Heap.SameBut.update h3 a (Obj.mapSeq fun _=>List.toArray (p.toList.map fun i=>vs.getD i Value.none));obtain⟨c2,DU⟩:∃c2,(h3.update a (Obj.mapSeq fun _=>List.toArray (p.toList.map fun i=>vs.getD i Value.none))).get? a=some (seqObj "list" (List.toArray (p.toList.map fun i=>vs.getD i Value.none)) c2):=⟨_,get?_update_seq P9 fun _=>List.toArray (p.toList.map fun i=>vs.getD i Value.none)⟩
 refine wpAny_bind (seqEpoch_at (s:={s with heap:=h3}) P9 rfl (Θ (listUpdate_at (s:={s with heap:=h3}) P9 rfl ?_ (Nat.zero_le _) (Nat.le_trans (Nat.le_of_eq hsz) (by rw[sizeLine_eq];lia)))));rw[hf];simp only[bne_self_eq_false,Bool.false_eq_true,if_false];exact Δ (h p _ c2 hp hs (fun b o hb e=>(s2.2 b hb).trans (k3 b o hb e)) DU)
theorem C_{l:Addr}{vs:List Value}{κ:SortKind}{lt:Nat→Nat→Bool}{Q:Value→Shared→Prop}(hl:s.heap.IsList l vs.toArray)(xT:vs.length<64)(L:qj vs.length lt)
  (hk:2≤vs.length→∀s',(∀b o,s.heap.get? b=some o→s'.heap.get? b=some o)→∀Q':SortKind→Shared→Prop,Q' κ s'→wpAny (model prog w) A.in1.in1 (keyKind' vs.toArray) Q' (fun _ _=>False) s')
  (hc:∀i j,i<vs.length→j<vs.length→∀s',(∀b o,s.heap.get? b=some o→s'.heap.get? b=some o)→∀C:Bool→Shared→Prop,C (lt i j) s'→wpAny (model prog w) A.in1.in1 (keyLt' κ (vs.getD i .none) (vs.getD j .none)) C (fun _ _=>False) s')
  (h:∀p h' D c,iK vs.length p→Sd lt p vs.length→(∀b o,s.heap.get? b=some o→h'.get? b=some o)→s.heap.objs.size≤D→h'.get? D=some (seqObj "list" (List.toArray (p.toList.map fun i=>vs.getD i Value.none)) c)→Q (.ref D) {s with heap:=h'}):
  wpAny (model prog w) A (call (.builtin "sorted") [.ref l]) Q E s:=by
 refine Calls.call_function_entry kind_sorted plain_sorted entry_sorted (args_sorted1 _) ?_;unfold Builtin.«sorted»;refine wpAny_bind (m:=checkCount "sorted" 1 1 _) (Δ (Θ (collect_list hl (Θ (wpAny_newList ?_ (by rw[sizeLine_eq];lia))) (by rw[sizeLine_eq];lia))));generalize hh:((s.heap.push (seqObj "list" #[] 0)).update s.heap.objs.size (Obj.mapSeq (·++vs.toArray)))=h1;have hsz:h1.objs.size=s.heap.objs.size+1:=by rw[←hh,Heap.size_update,size_push']
 have keep:∀b o,s.heap.get? b=some o→(h1.push (seqObj "list" vs.toArray 0)).get? b=some o:=fun b o q=>by
  have jv:b<s.heap.objs.size:=Λ q;rw[Heap.get?_push_ne _ _ _ (by rw[hsz];exact Nat.ne_of_lt (Nat.lt_succ_of_lt jv)),←hh,Heap.get?_update_ne _ _ _ _ (Nat.ne_of_lt jv),Heap.get?_push_ne _ _ _ (Nat.ne_of_lt jv)];exact q
 have Js:(h1.push (seqObj "list" vs.toArray 0)).get? h1.objs.size=some (seqObj "list" vs.toArray 0):=Heap.get?_push_size _ rfl;have N9:∀h',Kp h1.objs.size (h1.push (seqObj "list" vs.toArray 0)) h'→∀b o,s.heap.get? b=some o→h'.get? b=some o:=fun h' k b o q=>k b o (by have:=Heap.lt_size q;rw[hsz];exact Nat.ne_of_lt (Nat.lt_succ_of_lt this)) (keep b o q)
 show wpAny _ _ _ _ _ {s with heap:=h1.push (seqObj "list" vs.toArray 0)};refine wpAny_bind (wpAny_holding (wpAny_call_entry slot_list_sort ⟨_,Js,rfl⟩ entry_list_sort ?_ (args_list_sort _)));by_cases h2:2≤vs.length
 ·refine E7 (s:={s with heap:=h1.push (seqObj "list" vs.toArray 0)}) (lt:=lt) Js h2 xT L (fun s' k Q' q=>hk h2 s' (N9 _ k) Q' q) (fun i j hi hj s' k C q=>hc i j hi hj s' (N9 _ k) C q) fun p h' c hp hs k e=>?_
  exact⟨_,rfl,Δ ⟨_,rfl,h p h' _ c hp hs (N9 _ k) (by rw[show({s with heap:=h1}:Shared).heap.objs.size=h1.objs.size from rfl,hsz];exact Nat.le_succ _) e⟩⟩
 ·refine CP (s:={s with heap:=h1.push (seqObj "list" vs.toArray 0)}) Js Nz fun h' c k e=>?_
  have hp:iK vs.length (List.toArray (List.range vs.length)):=by unfold iK;simp
  refine⟨_,rfl,Δ ⟨_,rfl,h _ h' _ c hp (fun i j xJ hj=>by lia) (N9 _ k) (by rw[show({s with heap:=h1}:Shared).heap.objs.size=h1.objs.size from rfl,hsz];exact Nat.le_succ _) ?_⟩⟩;rw[e]
  congr 2
  match vs,h2 with
  |[],_=>rfl
  |[x],_=>rfl
  |x::y::r,h=>simp at h
end
end L2
namespace QF
open PySem L2 PySem.Spec PyProof.Rows PySem.W PySem.Calls
inductive GZ(K:Frag)(vs:List V)(H:Hp)(Q:VK):Prop
 |mk (l:Addr) (xs:List V) (ps:List Pr) (_:vs=[.ref l]) (_:jT K H l xs) (_:iX H xs ps) (_:ps.Nodup) (_:ps.length<64) (_:∀D ys qs,H D=none→iX H ys qs→qs.Perm ps→qs.Pairwise (fun p q=>jw p q=true)→Q (.ref D) (upd H D (.lst ys))):GZ K vs H Q
theorem Dd{X:Cx}(K:Frag)(hK:X.K=K:=by rfl):jB X (.builtin "sorted") (GZ K):=by
 subst hK;intro pins s σ H vs us Q I r h;obtain⟨l,xs,ps,rfl,hq,PS,nd,xT,q⟩:=h;obtain⟨u,rfl,rx⟩:=vals1 r;cases rx;obtain⟨its,r',pl,hz⟩:=I.list hq;have hlen:=r'.length;have uk:=PS.1;have key:∀i,i<its.length→∃t,xs[i]?=some (.ref t)∧its[i]?=some (.ref t)∧H t=some (.tup (mU (ps.getD i (0,0))))∧qk s.heap t (ps.getD i (0,0)):=fun i hi=>by
  have hp:ps[i]?=some (ps.getD i (0,0)):=by simp[show i<ps.length by lia]
  obtain⟨t,h1,h2⟩:=PS.2 i _ hp;obtain⟨v,h3,h4⟩:=r'.get h1;cases h4;refine⟨t,h1,h3,h2,?_⟩;obtain⟨jts,r2,⟨o,e1,e2,n,e3⟩,_⟩:=I.tuple (xs:=mU (ps.getD i (0,0))) (.of h2);cases r2 with
  |cons a b=>
   cases b with
   |cons c d=>
    cases d;obtain⟨ta,rfl⟩:=a;obtain⟨tc,rfl⟩:=c;exact⟨o,ta,tc,n,e1,e2,e3⟩
 have N9:∀{h':Heap},(∀b o,s.heap.get? b=some o→h'.get? b=some o)→∀{x p},qk s.heap x p→qk h' x p:=fun k _ _ ⟨o,t,u,n,a,b⟩=>⟨o,t,u,n,k _ _ a,b⟩
 have L:qj its.length fun i j=>jw (ps.getD i (0,0)) (ps.getD j (0,0)):=by
  refine⟨fun i j k _ _ _ a b=>EU a b,fun i j _ _ a=>vX a,fun i j hi hj gO=>Aj fun e=>gO ?_⟩;have e:ps[i]?=ps[j]?:=by
   rw[Ω Nz,Ω Nz];simpa[show i<ps.length by lia,show j<ps.length by lia]using e
  exact(List.getElem?_inj Nz nd).mp e
 refine C_ (κ:=tuples' true) pl.isList Nz L (fun h2 s' k Q' hq=>?_) (fun i j hi hj s' k C hC=>?_) fun p h' D c hp hs k hD e=>?_
 ·refine HN Nz (fun v hv=>?_) hq;obtain⟨i,hi,rfl⟩:=List.mem_iff_getElem.mp hv;obtain⟨t,_,h3,_,h5⟩:=key i hi;exact⟨t,_,by rw[Ω hi]at h3;exact Ρ h3,N9 k h5⟩
 ·obtain⟨t,_,h3,_,h5⟩:=key i hi;obtain⟨t',_,g3,_,g5⟩:=key j hj;have e1:its.getD i .none= .ref t:=by simp[h3]
  have e2:its.getD j .none= .ref t':=by simp[g3]
  rw[e1,e2];exact GO (N9 k h5) (N9 k g5) hC
 ·have mem:∀i∈p.toList,i<its.length:=fun i hi=>by
   have:=hp.mem_iff.mp hi;simpa using this
  have rel:Vals (p.toList.map fun i=>xs.getD i .cF) (p.toList.map fun i=>its.getD i Value.none):=CQ fun i hi=>by
   obtain⟨t,h1,h3,_⟩:=key i (mem i hi);have e1:xs.getD i .cF= .ref t:=by simp[h1]
   have e2:its.getD i .none= .ref t:=by simp[h3]
   rw[e1,e2];rfl
  have hsz:(p.toList.map fun i=>xs.getD i V.cF).length=its.length:=by rw[List.length_map,Array.length_toList,hp.size]
  have Qs:(p.toList.map fun i=>ps.getD i (0,0)).length=its.length:=by rw[List.length_map,Array.length_toList,hp.size]
  refine⟨.ref D,_,I.laid (t':=s.toks) k hD (show dn X.prog X.w _ h' _ (.lst _)from⟨by rw[hsz,←hlen];exact hz,_,c,rel,e⟩),rfl,q D _ (p.toList.map fun i=>ps.getD i (0,0)) (I.cC.fresh hD) ⟨by rw[hsz,Qs],fun i f hf=>?_⟩ ?_ ?_⟩
  ·rw[List.getElem?_map]at hf⊢;cases ei:p.toList[i]? with
   |none=>rw[ei]at hf;cases hf
   |some j=>
    rw[ei]at hf;have hf:ps.getD j (0,0)=f:=Ρ hf;obtain⟨t,h1,h3,h4,_⟩:=key j (mem j (Ψ ei));refine⟨t,?_,by rw[←hf];exact h4⟩;show some (xs.getD j .cF)=_;simp[h1]
  ·have h1:=hp.map (fun i=>ps.getD i (0,0));refine h1.trans ?_;have:(List.range its.length).map (fun i=>ps.getD i (0,0))=ps:=by
    apply List.ext_getElem?;intro i;rw[List.getElem?_map];by_cases hi:i<its.length
    ·rw[List.getElem?_range hi];simp[show i<ps.length by lia]
    ·rw[List.getElem?_eq_none (by simp;lia),List.getElem?_eq_none Nz];rfl
   rw[this]
  ·rw[List.pairwise_iff_getElem];intro i j hi hj xJ;have Mi:i<its.length:=by rw[Qs]at hi;exact hi
   have VG:j<its.length:=by rw[Qs]at hj;exact hj
   have:=hs i j xJ VG;have Ji:=hp.size;simp only[List.getElem_map];have e1:gd p i=p.toList[i]'(by simp;lia):=by simp[gd,show i<p.size by lia]
   have e2:gd p j=p.toList[j]'(by simp;lia):=by simp[gd,show j<p.size by lia]
   rw[e1,e2]at this;exact this
structure qt(κ:Type) where
 d:κ
 lt:κ→κ→Bool
 tr:∀{p q r},lt p q=true→lt q r=true→lt p r=true
 as:∀{p q},lt p q=true→lt q p=false
 ME:∀{p q},p≠q→lt p q=true∨lt q p=true
 Lu:Hp→Addr→κ→Prop
 E8:Heap→Addr→κ→Prop
 keep:∀{H H':Hp}{a w},av H H'→Lu H a w→Lu H' a w
 get:∀{X:Cx}{pins:List (Addr×Obj)}{σ:L2.St}{H:Hp}{s:Shared}{a:Addr}{w:κ},Inv X pins σ H s→Lu H a w→E8 s.heap a w
 klt:∀{prog:Program}{w:World}{A:Around}{E:Value→Shared→Prop}{s:Shared}{x y:Addr}{p q:κ}{C:Bool→Shared→Prop},A.units+1<cLine→E8 s.heap x p→E8 s.heap y q→C (lt p q) s→wpAny (model prog w) A (keyLt' (tuples' true) (.ref x) (.ref y)) C E s
 un:∀{H:Hp}{a w v},Lu H a w→Lu H a v→w=v
 tup:∀{h x p},E8 h x p→∃o i t vs c,h.get? x=some o∧o.cls= .type "tuple"∧o.data= .seq (Value.int i t::vs).toArray c
def VT{κ:Type}(T:qt κ)(H1:Hp)(w:κ):VK:=fun y H2=>av H1 H2∧∃k,y= .ref k∧T.Lu H2 k w
def wB{κ:Type}(T:qt κ)(ws:List κ)(i j:Nat):Bool:=T.lt (ws.getD i T.d) (ws.getD j T.d)
def VU{κ:Type}(T:qt κ)(H:Hp)(ws:List κ)(as:List Addr):Prop:=∀(j:Nat) k,as[j]?=some k→T.Lu H k (ws.getD j T.d)
theorem VU.key{X:Cx}{pins:List (Addr×Obj)}{σ:L2.St}{H:Hp}{s:Shared}{κ:Type}{T:qt κ}{ws:List κ}{as:List Addr}{j:Nat}{k:Addr}(I:Inv X pins σ H s)(h:VU T H ws as)(e:as[j]?=some k):T.E8 s.heap k (ws.getD j T.d):=T.get I (h j k e)
theorem zk{κ:Type}{T:qt κ}{h:Heap}:∀{its:List Value},(∀v∈its,∃x p,v= .ref x∧T.E8 h x p)→∃fs,KatTups h its fs∧fs.length=its.length∧∀f∈fs,∃i t,f=Value.int i t
 |[],_=>⟨[], .nil,rfl,fun f hf=>by cases hf⟩
 |v::r,hv=>by
  obtain⟨x,p,rfl,hx⟩:=hv v (List.mem_cons_self ..);obtain⟨o,i,t,vs,c,h1,h2,h3⟩:=T.tup hx;obtain⟨fs,k1,k2,k3⟩:=zk (its:=r) fun v Sj=>hv v (List.mem_cons_of_mem _ Sj)
  refine⟨.int i t::fs, .cons h1 h2 h3 rfl k1,by simp[k2],fun f hf=>?_⟩;rcases List.mem_cons.mp hf with rfl|hf
  ·exact⟨_,_,rfl⟩
  ·exact k3 f hf
theorem Ia{κ:Type}{T:qt κ}{prog:Program}{w:World}{A:Around}{E:Value→Shared→Prop}{s:Shared}{its:List Value}{Q:SortKind→Shared→Prop}(gO:0<its.length)(hv:∀v∈its,∃x p,v= .ref x∧T.E8 s.heap x p)(h:Q (tuples' true) s):wpAny (model prog w) A (keyKind' its.toArray) Q E s:=by
 obtain⟨fs,k1,k2,k3⟩:=zk (T:=T) hv;refine kat_kind (T:= .type "int") k1 Nz (fun v hv=>?_) (QY) h;obtain⟨i,t,rfl⟩:=k3 v hv;exact .now
section
variable{X:Cx}{cm:Bool}{k:Nat}{f:Addr}{fd:FuncData}{ps:List Str}{sp:Sp}{A':Around}{pins:List (Addr×Obj)}{σ:L2.St}{H:Hp}{s:Shared}{E:Value→Shared→Prop}{a kS:Addr}{vs:List Value}{xs:List V}{κ:Type}{T:qt κ}{ws:List κ}{e1:Nat}{P:PySem.Fin→Shared→Prop}
theorem Ib(hu:A'.units+1<cLine)(I:Inv X pins σ H s){kA:Array Value}{e:Nat}{as:List Addr}(hk:s.heap.get? kS=some (seqObj "list" kA e))(ha:s.heap.get? a=some (seqObj "list" #[] e1))(fk:i8 X pins H kS)(fa:i8 X pins H a)(gO:kS≠a)
  (ek:kA.toList=as.map Value.ref) (el:as.length=vs.length) (K:VU T H ws as) (r:Vals xs vs) (hlen:ws.length=vs.length) (nd:ws.Nodup) (xT:vs.length<10000) (hS:qj vs.length (wB T ws)→MU vs.length (wB T ws))
  (h:∀p s',iK vs.length p→Sd (wB T ws) p vs.length→Inv X pins σ (upd H a (.lst (p.toList.map fun i=>xs.getD i .cF))) s'→P (.done (.ret .none)) s'):
  wpAny (model X.prog X.w) A' (ksk_end a false vs.toArray e1 (.ref kS) kA) P E s:=by
 have ekA:kA=(as.map Value.ref).toArray:=by apply Array.toList_inj.mp;simpa using ek
 subst ekA;have hl:(as.map Value.ref).length=vs.length:=by rw[List.length_map];exact el
 have key:∀i,i<vs.length→∃x,(as.map Value.ref).getD i Value.none= .ref x∧T.E8 s.heap x (ws.getD i T.d):=fun i hi=>by
  have hx:as[i]?=some as[i]:=Ω Nz;exact⟨as[i],by simp[show i<as.length by lia],K.key I hx⟩
 have L:qj vs.length (wB T ws):=by
  refine⟨fun i j k _ _ _ a b=>T.tr a b,fun i j _ _ a=>T.as a,fun i j hi hj gO=>T.ME fun e=>gO ?_⟩;have e:ws[i]?=ws[j]?:=by
   rw[Ω Nz,Ω Nz];simpa[show i<ws.length by lia,show j<ws.length by lia]using e
  exact(List.getElem?_inj Nz nd).mp e
 have tail:∀(st:SortSt)(p:Array Nat),iK vs.length p→Sd (wB T ws) p vs.length→(arrOf st).map (·.2)=List.toArray (p.toList.map fun i=>vs.getD i Value.none)→failedOf st=none→wpAny (model X.prog X.w) A' (ksk_tail a false e1 (.ref kS) st) P E s:=fun st p hp hs hm hf=>by
  have hsz:(List.toArray (p.toList.map fun i=>vs.getD i Value.none)).size=vs.length:=by rw[List.size_toArray,List.length_map,Array.length_toList,hp.size]
  have s1:=Heap.SameBut.update s.heap kS (Obj.mapSeq fun _=>(#[]:Array Value));have Qt:(ξ kS).get? a=some (seqObj "list" #[] e1):=(s1.2 a (Ne.symm gO)).trans ha;have s2:=Heap.SameBut.update (ξ kS) a (Obj.mapSeq fun _=>List.toArray (p.toList.map fun i=>vs.getD i Value.none));obtain⟨c2,DU⟩:∃c2,((ξ kS).update a (Obj.mapSeq fun _=>List.toArray (p.toList.map fun i=>vs.getD i Value.none))).get? a=some (seqObj "list" (List.toArray (p.toList.map fun i=>vs.getD i Value.none)) c2):=⟨_,get?_update_seq Qt fun _=>List.toArray (p.toList.map fun i=>vs.getD i Value.none)⟩
  unfold ksk_tail
  try dsimp only
  simp only[Bool.false_eq_true,if_false];rw[hm];refine wpAny_bind (listUpdate_at hk rfl (Θ (wpAny_letGo ?_)) (by rw[List.size_toArray,hl,sizeLine_eq];lia) (Nat.zero_le _));refine wpAny_bind (seqEpoch_at (s:={s with heap:=ξ kS}) Qt rfl (Θ (listUpdate_at (s:={s with heap:=ξ kS}) Qt rfl ?_ (Nat.zero_le _) (Nat.le_trans (Nat.le_of_eq hsz) (by rw[sizeLine_eq];lia)))));rw[hf];simp only[bne_self_eq_false,Bool.false_eq_true,if_false];have hr:=r.length;have mem:∀i∈p.toList,i<vs.length:=fun i hi=>by
   have:=hp.mem_iff.mp hi;simpa using this
  have rel:Vals (p.toList.map fun i=>xs.getD i .cF) (p.toList.map fun i=>vs.getD i Value.none):=CQ fun i hi=>by
   have hi:=mem i hi;obtain⟨v,h1,h2⟩:=r.get (i:=i) (x:=xs[i]) (by simp[show i<xs.length by lia]);have e1:xs.getD i .cF=xs[i]:=by simp[show i<xs.length by lia]
   have e2:vs.getD i .none=v:=by simp[h1]
   rw[e1,e2];exact h2
  refine wpAny_pure (h p _ hp hs (I.GB (t':=s.toks) (fp:=[kS,a]) (fun b hb=>?_) fa (fun b o hb e=>?_) ⟨by rw[List.length_map,Array.length_toList,hp.size,sizeLine_eq];lia,_,c2,rel,DU⟩))
  ·simp only[List.mem_cons,List.mem_singleton,List.not_mem_nil,or_false]at hb;rcases hb with rfl|rfl
   ·exact fk
   ·exact fa
  ·simp only[List.mem_cons,List.not_mem_nil,or_false,not_or]at hb;exact(s2.2 b hb.2).trans ((s1.2 b hb.1).trans e)
 unfold ksk_end
 try dsimp only
 simp only[Bool.false_eq_true,if_false];by_cases h2:2≤vs.length
 ·have B_:¬vs.toArray.size<2:=by rw[List.size_toArray];lia
  rw[M9 B_,M9 B_];refine wpAny_bind (wpAny_mono (Ia (T:=T) (Q:=fun VS s'=>VS=tuples' true∧s'=s) (E:=E) (its:=as.map Value.ref) (by lia) (fun v hv=>?_) ⟨rfl,rfl⟩) ?_ fun _ _ x=>x)
  ·obtain⟨i,hi,rfl⟩:=List.mem_iff_getElem.mp hv;obtain⟨x,h3,h5⟩:=key i Nz;exact⟨x,_,by rw[←h3];simp[show i<as.length by simpa using hi],h5⟩
  rintro VS s0 ⟨hκ,VV⟩;rw[hκ,VV];refine wpAny_bind (wpAny_mono (hS L (ks:=as.map Value.ref) (κ:=tuples' true) (E:=E) hl rfl h2 ?_ fun i j hi hj C hC=>?_) ?_ fun _ _ e=>e)
  ·refine List.pairwise_iff_getElem.mpr fun i j hi hj xJ e=>?_
   have hj:j<as.length:=by simpa using hj
   rw[List.getElem_map,List.getElem_map]at e;have e:as[i]=as[j]:=by simpa using e
   have k1:=K i _ (Ω Nz);have k2:=K j _ (Ω hj);rw[e]at k1;have:=T.un k1 k2;rw[List.getD_eq_getElem?_getD,List.getD_eq_getElem?_getD,Ω Nz,Ω Nz]at this;have:=(List.getElem_inj nd).mp this
   lia
  ·obtain⟨x,h3,h5⟩:=key i hi;obtain⟨y,g3,g5⟩:=key j hj;rw[h3,g3];exact T.klt hu h5 g5 hC
  rintro⟨⟨⟩,jh⟩ s' ⟨p,XN,hp,hs,XM,hf⟩;rw[XN];exact tail jh p hp hs (kat_snds hl XM) hf
 ·have B_:vs.toArray.size<2:=by rw[List.size_toArray];lia
  rw[VH B_,VH B_];refine wpAny_bind (Δ (Θ (Δ ?_)));have hp:iK vs.length (List.toArray (List.range vs.length)):=by unfold iK;simp
  refine tail _ _ hp (fun i j xJ hj=>by lia) ?_ rfl;show((as.map Value.ref).toArray.zip vs.toArray).map (·.2)=_;apply Array.toList_inj.mp;rw[Array.toList_map,Array.toList_zip];refine(List.map_snd_zip (by simp;lia)).trans ?_
  match vs,h2 with
  |[],_=>rfl
  |[x],_=>rfl
  |x::y::r,h=>simp at h
theorem E9(F:bE X.prog X.w X.K X.mg X.base (de X.prog X.w) cm k f fd ps sp)(hr:dY cm k A')(hf:A'.frames=X.A.frames)(hb:Binds X.K fd ps [])(hu:A'.units+1<cLine)(I:Inv X pins σ H s)(hk:s.heap.get? kS=some (seqObj "list" #[] 0))(ha:s.heap.get? a=some (seqObj "list" #[] e1))
  (fk:i8 X pins H kS) (fa:i8 X pins H a) (gO:kS≠a) (r:Vals xs vs) (hlen:ws.length=vs.length) (nd:ws.Nodup) (xT:vs.length<10000) (hS:qj vs.length (wB T ws)→MU vs.length (wB T ws))
  (p0:∀i v H1,xs[i]?=some v→av H H1→sp [v] H1 (VT T H1 (ws.getD i T.d)) E0)
  (h:∀p H' s',iK vs.length p→Sd (wB T ws) p vs.length→av H H'→H' a=none→Inv X pins σ (upd H' a (.lst (p.toList.map fun i=>xs.getD i .cF))) s'→P (.done (.ret .none)) s'):
  wpAny (model X.prog X.w) A' (ksk_rest a (.ref f) false vs.toArray e1 (.ref kS)) P E s:=by
 have XO:=r.length;unfold ksk_rest;refine wpAny_bind (wpAny_rule ?_);first
  |rw[List.forIn_toArray]
  |(rw[←Array.forIn_toList];simp only[List.toList_toArray])
 refine wpAny_bind (ksk_fold (fun i s'=>∃(H':Hp)(as:List Addr)(e:Nat),Inv X pins σ H' s'∧av H H'∧s'.heap.get? kS=some (seqObj "list" (as.map Value.ref).toArray e)∧s'.heap.get? a=some (seqObj "list" #[] e1)∧i8 X pins H' kS∧i8 X pins H' a∧as.length=i∧VU T H' ws as) vs 0 s
  ⟨H,[],0,I,fun _ _ z=>z,hk,ha,fk,fa,rfl,fun j k e=>by simp at e⟩ ?_ ?_)
 ·rintro j x s' hx ⟨H',as,e,I',sm,Je,TU,VW,Ul,el,K⟩;simp only[Nat.zero_add]at el⊢;have hj:j<vs.length:=(Η hx).1;obtain⟨u,ZR,VX⟩:=r.get (i:=j) (x:=xs[j]) (by simp[show j<xs.length by lia]);rw[hx]at ZR;cases ZR;have Ip:=I'.pinned (fp:=[kS,a]) (fun b hb=>by
   simp only[List.mem_cons,List.not_mem_nil,or_false]at hb;rcases hb with rfl|rfl
   ·exact VW
   ·exact Ul) (fun b hb=>by
   simp only[List.mem_cons,List.not_mem_nil,or_false]at hb;rcases hb with rfl|rfl
   ·exact⟨_,Je,fun v z=>nomatch z⟩
   ·exact⟨_,TU,fun v z=>nomatch z⟩)
  refine wpAny_bind (wpAny_attempt (wpAny_mono (Qc F hr hf hb Ip (.cons VX .nil) (p0 j xs[j] H' (by simp[show j<xs.length by lia]) sm)) (fun v zB he=>?_) fun _ _ z=>z));obtain⟨y,H2,I2,ry,ZS,kk,rfl,k1⟩:=he;cases ry;dsimp only;have pk:=I2.pin (kS,_) (δ (δ (iq XD Je)));have pa:=I2.pin (a,_) (δ (δ (iq XD TU)));have I3:=I2.m4;have s1:=Heap.SameBut.update zB.heap kS (Obj.mapSeq (·.push (.ref kk)));obtain⟨c2,DU⟩:∃c2,(zB.heap.update kS (Obj.mapSeq (·.push (.ref kk)))).get? kS=some (seqObj "list" ((as.map Value.ref).toArray.push (.ref kk)) c2):=⟨_,get?_update_seq pk.1 (·.push (.ref kk))⟩
  refine wpAny_bind (listUpdate_at pk.1 rfl ?_ (by simp;rw[sizeLine_eq];lia) (by simp;rw[sizeLine_eq];lia));have Rq:i8 X pins H2 kS:=⟨pk.2.1,VW.2⟩
  have fa2:i8 X pins H2 a:=⟨pa.2.1,Ul.2⟩
  refine wpAny_pure ⟨rfl,H2,as++[kk],c2,I3.turned (t':=zB.toks) (it:=kS) (fun b o hb e=>(s1.2 b hb).trans e) Rq.1 Rq.2.1 Rq.2.2.2.1 Rq.2.2.2.2.1 Rq.2.2.2.2.2,fun b o z=>ZS b o (sm b o z),?_,(s1.2 a (Ne.symm gO)).trans pa.1,Rq,fa2,by simp[el],fun i k ei=>?_⟩
  ·show(zB.heap.update kS (Obj.mapSeq (·.push (.ref kk)))).get? kS=_;rw[DU]
   congr 2
   simp
  ·by_cases hi:i<as.length
   ·rw[ζ hi]at ei;exact T.keep ZS (K i k ei)
   ·rw[θ Nz]at ei;have hi0:i-as.length=0:=by
     have:=(Η ei).1;simp at this
     lia
    rw[hi0]at ei;have:kk=k:=by simpa using ei
    subst this;have:i=j:=by lia
    subst this;exact k1
 ·rintro s' ⟨H',as,e,I',sm,Je,TU,VW,Ul,el,K⟩;refine wpAny_bind (listItems_at Je rfl ?_);exact Ib hu I' Je TU VW Ul gO XD (by lia) K r hlen nd xT hS fun p s2 hp hs I2=>h p H' s2 hp hs sm Ul.1 I2
theorem E_{n:Nat}(F:bE X.prog X.w X.K X.mg X.base (de X.prog X.w) cm k f fd ps sp)(hr:dY cm k A')(hf:A'.frames=X.A.frames)(hb:Binds X.K fd ps [])(hu:A'.units+1<cLine)(I:Inv X pins σ H s)(ho:s.heap.get? a=some (seqObj "list" vs.toArray n))
  (fa:i8 X pins H a) (r:Vals xs vs) (hlen:ws.length=vs.length) (nd:ws.Nodup) (xT:vs.length<10000) (hS:qj vs.length (wB T ws)→MU vs.length (wB T ws))
  (p0:∀i v H1,xs[i]?=some v→av H H1→sp [v] H1 (VT T H1 (ws.getD i T.d)) E0)
  (h:∀p H' s',iK vs.length p→Sd (wB T ws) p vs.length→av H H'→H' a=none→Inv X pins σ (upd H' a (.lst (p.toList.map fun i=>xs.getD i .cF))) s'→P (.done (.ret .none)) s'):
  wpAny (model X.prog X.w) A' (ksk_tree a (.ref f) false) P E s:=by
 have s1:=Heap.SameBut.update s.heap a (Obj.mapSeq fun _=>(#[]:Array Value));obtain⟨e1,NZ⟩:∃e1,(ξ a).get? a=some (seqObj "list" #[] e1):=⟨_,get?_update_seq ho fun _=>#[]⟩
 have I1:Inv X pins σ H {s with heap:=ξ a}:=I.turned (t':=s.toks) (it:=a) (fun b o hb e=>(s1.2 b hb).trans e) fa.1 fa.2.1 fa.2.2.2.1 fa.2.2.2.2.1 fa.2.2.2.2.2;unfold ksk_tree;refine wpAny_bind (listItems_at ho rfl (Θ (listUpdate_at ho rfl ?_ (by rw[List.size_toArray,sizeLine_eq];lia) (Nat.zero_le _))));refine wpAny_bind (seqEpoch_at NZ rfl (Θ (wpAny_newTuple (Θ (wpAny_newList (wpAny_holding ?_) (Nat.zero_le _))) (by show vs.length≤_;rw[sizeLine_eq];lia))));have I2:Inv X pins σ H {s with heap:=(ξ a).push (seqObj "tuple" vs.toArray 0)}:=I1.kept (t':=s.toks) fun b o e=>Ο e
 have I3:Inv X pins σ H {s with heap:=((ξ a).push (seqObj "tuple" vs.toArray 0)).push (seqObj "list" #[] 0)}:=I2.kept (t':=s.toks) fun b o e=>Ο e
 have fk:=I2.xN Ξ (I2.cC.fresh Ξ);have Lq:=Heap.get?_push_of_some (seqObj "tuple" vs.toArray 0) NZ;exact E9 F hr hf hb hu I3 (Heap.get?_push_size _ rfl) (Ο Lq) fk fa (Nat.ne_of_gt (Λ Lq)) r hlen nd xT hS p0 h
theorem Fb{l:Addr}{Q:VK}(F:bE X.prog X.w X.K X.mg X.base (de X.prog X.w) cm k f fd ps sp)(hr:dY cm (k+1) X.A)(hb:Binds X.K fd ps [])(I:Inv X pins σ H s)(hq:jT X.K H l xs)(hlen:ws.length=xs.length)(nd:ws.Nodup)(xT:xs.length<10000)(hS:qj xs.length (wB T ws)→MU xs.length (wB T ws))
  (p0:∀i v H1,xs[i]?=some v→av H H1→sp [v] H1 (VT T H1 (ws.getD i T.d)) E0)
  (h:∀p H' D,iK xs.length p→Sd (wB T ws) p xs.length→av H H'→H D=none→H' D=none→Q (.ref D) (upd H' D (.lst (p.toList.map fun i=>xs.getD i .cF)))):
  wpAny (model X.prog X.w) X.A (call (.builtin "sorted") [.ref l] [(Str.ofString "key", .ref f)]) (EP X pins σ Q) E s:=by
 obtain⟨vs,r,pl,hz⟩:=I.list hq;have XO:=r.length;refine call_function_entry_kw kind_sorted plain_sorted entry_sorted (ksk_s1 _ _) ?_;unfold Builtin.«sorted»;refine wpAny_bind (m:=checkCount "sorted" 1 1 _) (Δ (Θ (collect_list pl.isList (Θ (wpAny_newList ?_ (by rw[sizeLine_eq];lia))) (by rw[sizeLine_eq];lia))));generalize hh:((s.heap.push (seqObj "list" #[] 0)).update s.heap.objs.size (Obj.mapSeq (·++vs.toArray)))=h1;have hsz:h1.objs.size=s.heap.objs.size+1:=by rw[←hh,Heap.size_update,size_push']
 have keep:∀b o,s.heap.get? b=some o→(h1.push (seqObj "list" vs.toArray 0)).get? b=some o:=fun b o q=>by
  have jv:b<s.heap.objs.size:=Λ q;rw[Heap.get?_push_ne _ _ _ (by rw[hsz];exact Nat.ne_of_lt (Nat.lt_succ_of_lt jv)),←hh,Heap.get?_update_ne _ _ _ _ (Nat.ne_of_lt jv),Heap.get?_push_ne _ _ _ (Nat.ne_of_lt jv)];exact q
 have Js:(h1.push (seqObj "list" vs.toArray 0)).get? h1.objs.size=some (seqObj "list" vs.toArray 0):=Heap.get?_push_size _ rfl;have hD:s.heap.objs.size≤h1.objs.size:=by rw[hsz];exact Nat.le_succ _
 have ZT:H h1.objs.size=none:=I.cC.fresh hD;have I1:Inv X pins σ H {s with heap:=h1.push (seqObj "list" vs.toArray 0)}:=I.kept (t':=s.toks) keep;show wpAny _ _ _ _ _ {s with heap:=h1.push (seqObj "list" vs.toArray 0)};refine wpAny_bind (wpAny_holding (wpAny_call_entry_kw slot_list_sort ⟨_,Js,rfl⟩ entry_list_sort ?_ (ksk_l1 _ _)));show wpAny (model X.prog X.w) X.A.in1.in1 (Builtin.«list.sort» ⟨[.ref h1.objs.size],[(Str.ofString "key", .ref f)]⟩) _ _ _;rw[ksk_t1];have un:=hr.un;refine E_ F ⟨hr.hd,by have:=hr.dp;show X.A.depth+3*k+5<_;lia,by show X.A.units+1+1+16*k+200<_;lia⟩ rfl hb (by show X.A.units+1+1+1<_;lia) I1 Js (I.xN hD ZT) r Nz nd Nz (by rw[XO]at hS;exact hS) p0 fun p H' s' hp hs sm hn I'=>⟨_,rfl,Δ ⟨_,rfl, .ref h1.objs.size,_,I',rfl,?_⟩⟩
 rw[←XO]at hp hs;exact h p H' _ hp hs sm ZT hn
end
inductive K4{κ:Type}(T:qt κ)(K:Frag)(sp:Sp)(x:V)(H:Hp)(Q:VK):Prop
 |mk (l:Addr) (xs:List V) (ws:List κ) (_:x= .ref l) (_:jT K H l xs) (_:ws.length=xs.length) (_:ws.Nodup) (_:xs.length<10000) (_:qj xs.length (wB T ws)→MU xs.length (wB T ws)) (_:∀i v H1,xs[i]?=some v→av H H1→sp [v] H1 (VT T H1 (ws.getD i T.d)) E0)
  (_:∀p H' D,iK xs.length p→Sd (wB T ws) p xs.length→av H H'→H D=none→H' D=none→Q (.ref D) (upd H' D (.lst (p.toList.map fun i=>xs.getD i .cF)))):K4 T K sp x H Q
def Qu{κ:Type}(T:qt κ)(K:Frag)(sp:Sp)(ta:TE):TE:=fun σ H Q=>ta σ H fun x H1=>K4 T K sp x H1 Q
theorem qu{X:Cx}{κ:Type}(T:qt κ)(K:Frag){cm:Bool}{k:Nat}{x:Str}{ps:List Str}{sp:Sp}{e:Expr}{ta:TE}{p pos kp fp:Pos}(D:cG X.prog X.w X.K X.mg X.base cm k x ps sp)(hr:dY cm (k+1) X.A)(he:PE X e ta)(hg:Gl X "sorted")(hm:X.mg "sorted"=none)
  (hgf:Gl X x:=by rfl) (xO:(x==("__debug__":Str))=false:=by decide) (hs:starEach [e] X.env=[(false,eval e X.env)]:=by rfl) (hK:X.K=K:=by rfl):
  PE X (.Call (.Name "sorted" p) [e] [⟨some "key", .Name x fp,kp⟩] pos) (Qu T K sp ta):=by
 subst hK;obtain⟨f,fd,ok,hmf,hk,hb⟩:=D;intro pins s σ H Q I h;refine wpAny_Call_Name_kw (mY I hg hm (PyProof.Rows.Boot.«sorted») ?_ Ε (QY));rw[hs];refine callWith_builtin_kwB (first:=[]) rfl rfl (evalArgs_kwB rfl ?_);refine Calls.spliced_cons ?_;show wpAny _ _ (eval e X.env) _ _ s;refine cY (he pins s σ H _ I h) fun v s1 ⟨y,H1,I1,r1,q1⟩=>Calls.spliced_nil ?_
 obtain⟨l,xs,ws,rfl,hq,hlen,nd,xT,hS,p0,q⟩:=q1;cases r1;refine kws_cons ?_;show wpAny _ _ (eval (.Name x fp) X.env) _ _ s1;refine cY (d3 (v:= .ref f) hgf hmf rfl xO pins s1 σ H1 (fun y H2=>y= .ref f∧H2=H1) I1 ⟨rfl,rfl⟩) fun u s2 ⟨y,H2,I2,r2,e1,e2⟩=>?_
 subst e1 e2;cases r2;refine kws_nil ?_;exact Fb ok hr hb I2 hq hlen nd xT hS p0 q
def Fe:qt Kw where
 d:=(0,(0,0))
 lt:=CS
 tr:=P_
 as:=Qa
 ME:=MI
 Lu H k w:=∃t,H k=some (.tup [.int w.1, .ref t])∧H t=some (.tup [.int w.2.1, .int w.2.2])
 E8:=KI
 keep s:=fun⟨t,h1,h2⟩=>⟨t,s _ _ h1,s _ _ h2⟩
 get {X pins σ H s a w} I h:=by
  obtain⟨t,h1,h2⟩:=h;obtain⟨its,r,⟨o,e1,e2,n,e3⟩,_⟩:=I.tuple (xs:=[.int w.1, .ref t]) (.of h1);cases r with
  |cons a b=>cases b with
   |cons c d=>
    cases d;obtain⟨ta,rfl⟩:=a;cases c;exact⟨o,ta,t,n,e1,e2,e3,N7 (r:=w.2) I h2⟩
 un:=fun{H a w v} ⟨t,h1,h2⟩ ⟨u,g1,g2⟩=>by
  rw[h1]at g1;have e1:w.1=v.1∧t=u:=by simpa using g1
  obtain⟨e1,e2⟩:=e1;subst e2;rw[h2]at g2;have g2:w.2.1=v.2.1∧w.2.2=v.2.2:=by simpa using g2
  exact Prod.ext e1 (Prod.ext g2.1 g2.2)
 klt hu hx hy h:=Qb hu hx hy h
 tup:=fun⟨o,t,y,c,h1,h2,h3,_⟩=>⟨o,_,t,[.ref y],c,h1,h2,h3⟩
def ph:qt Pr where
 d:=(0,0)
 lt:=jw
 tr:=EU
 as:=vX
 ME:=Aj
 Lu H k w:=H k=some (.tup (mU w))
 E8:=qk
 keep s h:=s _ _ h
 get I h:=N7 I h
 un:=fun{H a w v} h g=>by
  rw[show H a=some (.tup (mU w))from h]at g;have g2:w.1=v.1∧w.2=v.2:=by simpa[mU]using g
  exact Prod.ext g2.1 g2.2
 klt _ hx hy h:=GO hx hy h
 tup:=fun⟨o,t,u,n,h1,h2,h3⟩=>⟨o,_,t,[.int _ u],n,h1,h2,h3⟩
def K5(a b:Str):Bool:=decide (a.cps.toList<b.cps.toList)
def oQ(a b:Int×Str):Bool:=if a.1=b.1 then K5 a.2 b.2 else decide (a.1<b.1)
theorem Qv{a b c:Str}(h:K5 a b=true)(k:K5 b c=true):K5 a c=true:=decide_eq_true (List.lt_trans (of_decide_eq_true h) (of_decide_eq_true k))
theorem Qw{a b:Str}(h:K5 a b=true):K5 b a=false:=decide_eq_false fun k=>List.lt_irrefl _ (List.lt_trans (of_decide_eq_true h) k)
theorem MW{a b:Str}(h:a.cps.toList=b.cps.toList):a=b:=by
 cases a;cases b
 congr 1
 exact Array.toList_inj.mp h
theorem MY{a b:Str}(h:a≠b):K5 a b=true∨K5 b a=true:=by
 unfold K5;by_cases k:a.cps.toList<b.cps.toList
 ·exact .inl (decide_eq_true k)
 ·by_cases k2:b.cps.toList<a.cps.toList
  ·exact .inr (decide_eq_true k2)
  ·exact absurd (MW (List.le_antisymm (List.not_lt.mp k2) (List.not_lt.mp k))) h
theorem Qx{p q r:Int×Str}(a:oQ p q=true)(b:oQ q r=true):oQ p r=true:=by
 unfold oQ at*;by_cases h1:p.1=q.1<;>by_cases h2:q.1=r.1
 ·rw[VH h1]at a;rw[VH h2]at b;rw[VH (h1.trans h2)];exact Qv a b
 ·rw[M9 h2]at b;rw[M9 (by rw[h1];exact h2),h1];exact b
 ·rw[M9 h1]at a;rw[M9 (by rw[←h2];exact h1),←h2];exact a
 ·rw[M9 h1]at a;rw[M9 h2]at b;have a:=of_decide_eq_true a;have b:=of_decide_eq_true b;rw[M9 Nz];exact decide_eq_true Nz
theorem Ff{p q:Int×Str}(a:oQ p q=true):oQ q p=false:=by
 unfold oQ at*;by_cases h1:p.1=q.1
 ·rw[VH h1]at a;rw[VH h1.symm];exact Qw a
 ·rw[M9 h1]at a;rw[M9 (fun z=>h1 z.symm)];have a:=of_decide_eq_true a;exact decide_eq_false Nz
theorem MZ{p q:Int×Str}(h:p≠q):oQ p q=true∨oQ q p=true:=by
 unfold oQ;by_cases h1:p.1=q.1
 ·rw[VH h1,VH h1.symm];exact MY fun z=>h (Prod.ext h1 z)
 ·rw[M9 h1,M9 (fun z=>h1 z.symm)];rcases Int.lt_or_lt_of_ne h1 with z|z
  ·exact .inl (decide_eq_true z)
  ·exact .inr (decide_eq_true z)
def Qy(h:Heap)(x:Addr)(w:Int×Str):Prop:=∃o t u n,h.get? x=some o∧o.cls= .type "tuple"∧o.data= .seq #[.int w.1 t, .str w.2 u] n
theorem Um{prog:Program}{w:World}{A:Around}{E:Value→Shared→Prop}{s:Shared}{x y:Addr}{p q:Int×Str}{C:Bool→Shared→Prop}(hx:Qy s.heap x p)(hy:Qy s.heap y q)(h:C (oQ p q) s):wpAny (model prog w) A (keyLt' (tuples' true) (.ref x) (.ref y)) C E s:=by
 obtain⟨ox,t,u,n,h1,h2,h3⟩:=hx;obtain⟨oy,t',u',n',g1,g2,g3⟩:=hy;refine kat_lt h1 h3 g1 g3 (kat_cons (Rl _ _ _ _ ?_));have e1:SeqAt.EqAt A s (.str p.2 u) (.str q.2 u') (kO (.str p.2) (.str q.2)):=sd ⟨u,rfl⟩ ⟨u',rfl⟩ rfl rfl;by_cases a:p.1=q.1
 ·rw[decide_eq_true a];refine kat_yes (kat_cons (e1 _ _ _ _ ?_));have e:oQ p q=K5 p.2 q.2:=VH a;by_cases b:p.2=q.2
  ·have:kO (.str p.2) (.str q.2)=true:=by simp[kO,b]
   rw[this];refine kat_yes (kat_nil ?_);have:oQ p q=decide (#[Value.int p.1 t, .str p.2 u].size<#[Value.int q.1 t', .str q.2 u'].size):=by
    rw[e,b];have:=List.lt_irrefl q.2.cps.toList;simp[K5,this]
   rw[this]at h;exact h
  ·have:kO (.str p.2) (.str q.2)=false:=by simp[kO,b]
   rw[this];rw[e]at h;exact kat_no (kat_one _ _ (lt_str h))
 ·rw[decide_eq_false a];have e:oQ p q=decide (p.1<q.1):=M9 a;rw[e]at h;exact kat_no (oneLt_int h)
def G6:qt (Int×Str) where
 d:=(0,"")
 lt:=oQ
 tr:=Qx
 as:=Ff
 ME:=MZ
 Lu H k w:=H k=some (.tup [.int w.1, .str w.2])
 E8:=Qy
 keep s h:=s _ _ h
 get {X pins σ H s a w} I h:=by
  obtain⟨its,r,⟨o,e1,e2,n,e3⟩,_⟩:=I.tuple (xs:=[.int w.1, .str w.2]) (.of h);cases r with
  |cons a b=>cases b with
   |cons c d=>
    cases d;obtain⟨ta,rfl⟩:=a;obtain⟨tc,rfl⟩:=c;exact⟨o,ta,tc,n,e1,e2,e3⟩
 un:=fun{H a w v} h g=>by
  rw[show H a=some (.tup [.int w.1, .str w.2])from h]at g;have g2:w.1=v.1∧w.2=v.2:=by simpa using g
  exact Prod.ext g2.1 g2.2
 klt _ hx hy h:=Um hx hy h
 tup:=fun⟨o,t,u,n,h1,h2,h3⟩=>⟨o,_,t,[.str _ u],n,h1,h2,h3⟩
end QF
namespace QF
open PySem L2
structure N_(K:W.Frag)(C:Addr):Prop where
 cl:xH K C
 name:bJ K C "name"
 year:bJ K C "year"
 words:bJ K C "words"
structure Uo(K:W.Frag)(C:Addr):Prop where
 cl:xH K C
 number:bJ K C "number"
 jH:bJ K C "older"
 j_:bJ K C "newer"
 worth:bJ K C "worth"
 way:bJ K C "way"
 row:bJ K C "row"
 pairs:bJ K C "pairs"
 left:bJ K C "left"
structure Up(K:W.Frag)(C:Addr):Prop where
 cl:xH K C
 Oa:bJ K C "terms"
 zl:bJ K C "shelf"
 entries:bJ K C "entries"
def De(n:Str)(y:Int)(w:Addr):List (Str×V):=[("name", .str n),("year", .int y),("words", .ref w)]
theorem vp(n:Str)(y:Int)(w:Addr):(De n y w).lookup ("name":Str)=some (V.str n):=by kernel_rfl
theorem M0(n:Str)(y:Int)(w:Addr):(De n y w).lookup ("year":Str)=some (V.int y):=by kernel_rfl
theorem Df(n:Str)(y:Int)(w:Addr):(De n y w).lookup ("words":Str)=some (V.ref w):=by kernel_rfl
theorem Qz(n:Str)(y:Int)(w:Addr):bq "words" (.ref w) (bq "year" (.int y) (bq "name" (.str n) []))=De n y w:=by kernel_rfl
def qv(nu:Int)(o n:Str)(w:Int)(a r p:Addr)(l:Bool):List (Str×V):=[("number", .int nu),("older", .str o),("newer", .str n),("worth", .int w),("way", .ref a),("row", .ref r),("pairs", .ref p),("left", .bl l)]
section
variable(nu:Int)(o n:Str)(w:Int)(a r p:Addr)(l:Bool)
theorem sO:(qv nu o n w a r p l).lookup ("number":Str)=some (V.int nu):=by kernel_rfl
theorem K6:(qv nu o n w a r p l).lookup ("worth":Str)=some (V.int w):=by kernel_rfl
theorem M4:(qv nu o n w a r p l).lookup ("left":Str)=some (V.bl l):=by kernel_rfl
theorem QA:bq "left" (.bl l) (bq "pairs" (.ref p) (bq "row" (.ref r) (bq "way" (.ref a) (bq "worth" (.int w) (bq "newer" (.str n) (bq "older" (.str o) (bq "number" (.int nu) [])))))))=qv nu o n w a r p l:=by kernel_rfl
end
def eh(t s e:Addr):List (Str×V):=[("terms", .ref t),("shelf", .ref s),("entries", .ref e)]
theorem K7(t s e:Addr):(eh t s e).lookup ("terms":Str)=some (V.ref t):=by kernel_rfl
theorem qw(t s e:Addr):(eh t s e).lookup ("shelf":Str)=some (V.ref s):=by kernel_rfl
theorem lX(t s e:Addr):(eh t s e).lookup ("entries":Str)=some (V.ref e):=by kernel_rfl
theorem QB(t s e:Addr):bq "entries" (.ref e) (bq "shelf" (.ref s) (bq "terms" (.ref t) []))=eh t s e:=by kernel_rfl
theorem M5(t s e s':Addr):bq "shelf" (.ref s') (eh t s e)=eh t s' e:=by kernel_rfl
structure Bk where
 name:Str
 year:Int
 words:List Str
structure En where
 number:Int
 jH:Str
 j_:Str
 fd:Fd
 left:Bool
structure nB(H:Hp)(CB a:Addr)(b:Bk)(dx w:Addr):Prop where
 ob:H a=some (.ins CB dx (De b.name b.year w))
 ws:H w=some (.lst (b.words.map V.str))
structure Dg(H:Hp)(CE a:Addr)(e:En)(dx wy rw pr:Addr)(us1 us2:List V):Prop where
 ob:H a=some (.ins CE dx (qv e.number e.jH e.j_ e.fd.worth wy rw pr e.left))
 hw:H wy=some (.lst us1)
 pw:iX H us1 e.fd.way
 hr:H rw=some (.lst (e.fd.row.map V.int))
 hp:H pr=some (.lst us2)
 pp:iX H us2 e.fd.pairs
def fF(P:Addr→Prop)(H:Hp)(CB:Addr)(vs:List V)(bs:List Bk):Prop:=vs.length=bs.length∧∀(i:Nat) b,bs[i]?=some b→∃a dx w,vs[i]?=some (V.ref a)∧nB H CB a b dx w∧P a∧P w
def iC(P:Addr→Prop)(H:Hp)(CE:Addr)(vs:List V)(es:List En):Prop:=vs.length=es.length∧∀(i:Nat) e,es[i]?=some e→∃a dx wy rw pr us1 us2,vs[i]?=some (V.ref a)∧Dg H CE a e dx wy rw pr us1 us2∧P a∧P wy∧P rw∧P pr
theorem nB.keep{H H':Hp}{CB a:Addr}{b:Bk}{dx w:Addr}(B:nB H CB a b dx w)(s:av H H'):nB H' CB a b dx w:=⟨s _ _ B.ob,s _ _ B.ws⟩
theorem Dg.keep{H H':Hp}{CE a:Addr}{e:En}{dx wy rw pr:Addr}{us1 us2:List V}(E:Dg H CE a e dx wy rw pr us1 us2)(s:av H H'):Dg H' CE a e dx wy rw pr us1 us2:=⟨s _ _ E.ob,s _ _ E.hw,E.pw.same s,s _ _ E.hr,s _ _ E.hp,E.pp.same s⟩
theorem fF.keep{P P':Addr→Prop}{H H':Hp}{CB:Addr}{vs:List V}{bs:List Bk}(S:fF P H CB vs bs)(h:∀b o,P b→H b=some o→H' b=some o)(hP:∀b,P b→P' b):fF P' H' CB vs bs:=⟨S.1,fun i b e=>let ⟨a,dx,w,h1,B,p1,p2⟩:=S.2 i b e;⟨a,dx,w,h1,⟨h _ _ p1 B.ob,h _ _ p2 B.ws⟩,hP _ p1,hP _ p2⟩⟩
theorem iC.keep{P P':Addr→Prop}{H H':Hp}{CE:Addr}{vs:List V}{es:List En}(S:iC P H CE vs es)(h:∀b o,P b→H b=some o→H' b=some o)(t:fD H H')(hP:∀b,P b→P' b):iC P' H' CE vs es:=⟨S.1,fun i b e=>let ⟨a,dx,wy,rw,pr,u1,u2,h1,B,p1,p2,p3,p4⟩:=S.2 i b e;⟨a,dx,wy,rw,pr,u1,u2,h1,⟨h _ _ p1 B.ob,h _ _ p2 B.hw,B.pw.cO t,h _ _ p3 B.hr,h _ _ p4 B.hp,B.pp.cO t⟩,hP _ p1,hP _ p2,hP _ p3,hP _ p4⟩⟩
theorem fF.same{P:Addr→Prop}{H H':Hp}{CB:Addr}{vs:List V}{bs:List Bk}(S:fF P H CB vs bs)(s:av H H'):fF P H' CB vs bs:=S.keep (fun b o _=>s b o) fun _ h=>h
theorem iC.same{P:Addr→Prop}{H H':Hp}{CE:Addr}{vs:List V}{es:List En}(S:iC P H CE vs es)(s:av H H'):iC P H' CE vs es:=S.keep (fun b o _=>s b o) (fD.same s) fun _ h=>h
theorem fF.nil{P:Addr→Prop}{H:Hp}{CB:Addr}:fF P H CB [] []:=⟨rfl,fun i e h=>by simp at h⟩
theorem iC.nil{P:Addr→Prop}{H:Hp}{CE:Addr}:iC P H CE [] []:=⟨rfl,fun i e h=>by simp at h⟩
theorem iC.append{P:Addr→Prop}{H:Hp}{CE:Addr}{vs ws:List V}{es fs:List En}(S:iC P H CE vs es)(U:iC P H CE ws fs):iC P H CE (vs++ws) (es++fs):=by
 refine⟨by rw[List.length_append,List.length_append,S.1,U.1],fun k d e=>?_⟩;by_cases hk:k<es.length
 ·rw[ζ hk]at e;rw[ζ (by rw[S.1];exact hk)];exact S.2 k d e
 ·rw[θ Nz]at e;rw[θ (by rw[S.1];lia),S.1];exact U.2 _ d e
theorem fF.append{P:Addr→Prop}{H:Hp}{CB:Addr}{vs ws:List V}{es fs:List Bk}(S:fF P H CB vs es)(U:fF P H CB ws fs):fF P H CB (vs++ws) (es++fs):=by
 refine⟨by rw[List.length_append,List.length_append,S.1,U.1],fun k d e=>?_⟩;by_cases hk:k<es.length
 ·rw[ζ hk]at e;rw[ζ (by rw[S.1];exact hk)];exact S.2 k d e
 ·rw[θ Nz]at e;rw[θ (by rw[S.1];lia),S.1];exact U.2 _ d e
theorem iC.one{P:Addr→Prop}{H:Hp}{CE a:Addr}{e:En}{dx wy rw pr:Addr}{us1 us2:List V}(E:Dg H CE a e dx wy rw pr us1 us2)(p1:P a)(p2:P wy)(p3:P rw)(p4:P pr):iC P H CE [.ref a] [e]:=⟨rfl,fun i x h=>by
 have:i=0:=by
  have:=(Η h).1;simp at this;lia
 subst this;cases h;exact⟨a,dx,wy,rw,pr,us1,us2,rfl,E,p1,p2,p3,p4⟩⟩
theorem fF.one{P:Addr→Prop}{H:Hp}{CB a:Addr}{e:Bk}{dx w:Addr}(E:nB H CB a e dx w)(p1:P a)(p2:P w):fF P H CB [.ref a] [e]:=⟨rfl,fun i x h=>by
 have:i=0:=by
  have:=(Η h).1;simp at this;lia
 subst this;cases h;exact⟨a,dx,w,rfl,E,p1,p2⟩⟩
theorem As{x w:Addr}{H G:Hp}{o o':HO}(s:SameBut x H G)(hw:G w=none):SameBut x H (upd (upd G w o) x o'):=fun b u hb e=>by
 rw[aj hb,aj (fun z=>by have:=s b u hb e;rw[z,hw]at this;cases this)];exact s b u hb e
theorem Au{x w b:Addr}{G:Hp}{o o' u:HO}(hb:b≠x)(h:G b=some u)(hw:G w=none):upd (upd G w o) x o' b=some u:=by
 rw[aj hb,aj (fun z=>by rw[z,hw]at h;cases h)];exact h
inductive wC(C:Addr)(vs:List V)(H:Hp)(Q:VK)(u3:XK):Prop
 |mk (x dx w0:Addr) (n:Str) (y:Int) (ws:List Str) (_:vs=[.ref x, .str n, .int y, .ref w0]) (_:H x=some (.ins C dx [])) (_:H w0=some (.lst (ws.map V.str))) (_:∀H' w,SameBut x H H'→H w=none→nB H' C x ⟨n,y,ws⟩ dx w→Q .cF H'):wC C vs H Q u3
inductive sP(CW:Addr)(vs:List V)(H:Hp)(Q:VK)(E:XK):Prop
 |mk (w:Addr) (ws:List Str) (_:vs=[.ref w]) (_:H w=some (.lst (ws.map V.str))) (_:ws.length≤1000) (_:∀z∈ws,z.length≤100000) (_:(∀z∈ws,gP z=true)→∀H',av H H'→Q .cF H') (_:(∃z∈ws,gP z=false)→∀H',av H H'→E (.ref CW) none H'):sP CW vs H Q E
def dX(n:Str)(y:Int)(ws:List Str):Nat:=if gP n=false then 0 else if y<0∨9999<y then 1 else if 40<ws.length then 2 else if ws.all gP=false then 3 else 4
inductive sQ(C0 C1 C2 C3:Addr)(vs:List V)(H:Hp)(Q:VK)(E:XK):Prop
 |mk (w:Addr) (n:Str) (y:Int) (ws:List Str) (_:vs=[.str n, .int y, .ref w]) (_:H w=some (.lst (ws.map V.str))) (_:n.length≤100000) (_:ws.length≤1000) (_:∀z∈ws,z.length≤100000) (_:dX n y ws=0→∀H',av H H'→E (.ref C0) none H') (_:dX n y ws=1→∀H',av H H'→E (.ref C1) none H') (_:dX n y ws=2→∀H',av H H'→E (.ref C2) none H') (_:dX n y ws=3→∀H',av H H'→E (.ref C3) none H') (_:dX n y ws=4→∀H',av H H'→Q .cF H'):sQ C0 C1 C2 C3 vs H Q E
inductive Fg(C:Addr)(vs:List V)(H:Hp)(Q:VK)(u3:XK):Prop
 |mk (a:Addr) (b:Bk) (dx w:Addr) (_:vs=[.ref a]) (_:nB H C a b dx w) (_:∀H' k,av H H'→H' k=some (.tup [.int b.year, .str b.name])→Q (.ref k) H'):Fg C vs H Q u3
inductive Av(C:Addr)(vs:List V)(H:Hp)(Q:VK)(u3:XK):Prop
 |mk (a:Addr) (e:En) (dx wy rw pr:Addr) (us1 us2:List V) (_:vs=[.ref a]) (_:Dg H C a e dx wy rw pr us1 us2) (_:∀H' k,av H H'→H' k=some (.tup (mU (-e.fd.worth,e.number)))→Q (.ref k) H'):Av C vs H Q u3
inductive qx(C:Addr)(vs:List V)(H:Hp)(Q:VK)(u3:XK):Prop
 |mk (x dx wy rw pr:Addr) (e:En) (us1 us2:List V) (_:vs=[.ref x, .int e.number, .str e.jH, .str e.j_, .int e.fd.worth, .ref wy, .ref rw, .ref pr, .bl e.left]) (_:H x=some (.ins C dx [])) (_:H wy=some (.lst us1)) (_:iX H us1 e.fd.way) (_:H rw=some (.lst (e.fd.row.map V.int))) (_:H pr=some (.lst us2)) (_:iX H us2 e.fd.pairs) (_:∀H' wy rw pr,SameBut x H H'→H wy=none→H rw=none→H pr=none→Dg H' C x e dx wy rw pr us1 us2→Q .cF H'):qx C vs H Q u3
inductive Fh(CE CF:Addr)(vs:List V)(H:Hp)(Q:VK)(u3:XK):Prop
 |mk (y:Addr) (P:Addr→Prop) (e:En) (dy wy rw pr:Addr) (us1 us2:List V) (_:vs=[.int e.number, .str e.jH, .str e.j_, .ref y]) (_:zj P H CF y e.fd dy wy rw pr us1 us2) (_:e.left=false) (_:∀H' x dx wy rw pr,av H H'→H x=none→H wy=none→H rw=none→H pr=none→Dg H' CE x e dx wy rw pr us1 us2→Q (.ref x) H'):Fh CE CF vs H Q u3
inductive wD(C:Addr)(vs:List V)(H:Hp)(Q:VK)(u3:XK):Prop
 |mk (x dx t:Addr) (_:vs=[.ref x, .ref t]) (_:H x=some (.ins C dx [])) (_:∀H' s e,SameBut x H H'→H s=none→H e=none→s≠e→s≠x→e≠x→H' x=some (.ins C dx (eh t s e))→H' s=some (.lst [])→H' e=some (.lst [])→Q .cF H'):wD C vs H Q u3
inductive wF(C CB:Addr)(vs:List V)(H:Hp)(Q:VK)(u3:XK):Prop
 |mk (P:Addr→Prop) (x dx t s e:Addr) (us:List V) (bs:List Bk) (_:vs=[.ref x]) (_:H x=some (.ins C dx (eh t s e))) (_:H s=some (.lst us)) (_:fF P H CB us bs) (_:bs.length≤1000) (_:∀H' r,av H H'→H r=none→H' r=some (.lst ((bs.map Bk.name).map V.str))→Q (.ref r) H'):wF C CB vs H Q u3
inductive wG(C:Addr)(vs:List V)(H:Hp)(Q:VK)(u3:XK):Prop
 |mk (x dx t s e:Addr) (us:List V) (_:vs=[.ref x]) (_:H x=some (.ins C dx (eh t s e))) (_:H e=some (.lst us)) (_:Q (.int us.length) H):wG C vs H Q u3
theorem XQ(us:List Value)(e:us.length=8):∃a b c d f g h i,us=[a,b,c,d,f,g,h,i]:=by
 match us,e with
 |[a,b,c,d,f,g,h,i],_=>exact⟨a,b,c,d,f,g,h,i,rfl⟩
theorem aaG:(9999:Int).natAbs.log2<1920∧(Str.ofString (toString (9999:Int))).length≤6:=⟨by decide+kernel,by decide+kernel⟩
inductive wH(C:Addr)(vs:List V)(H:Hp)(Q:VK)(u3:XK):Prop
 |mk (x:Addr) (S:Addr→Prop) (E:Pr→Pr→Prop) (B:Nat) (_:vs=[.ref x]) (_:kU H C x S E B) (_:B≤10000) (_:∀ms:List Pr,ms.Nodup→(∀a∈ms,E a a)→ms.length<64) (_:∀H' r us gs,ql S H S H'→H r=none→H' r=some (.lst us)→gS H' us gs→(∀(k:Nat) a,us[k]?=some (.ref a)→H a=none)→Told E gs→Q (.ref r) H'):wH C vs H Q u3
inductive Aw(CT:Addr)(vs:List V)(H:Hp)(Q:VK)(u3:XK):Prop
 |mk (tr dt e b:Addr) (es bs:List Addr) (f:Nat→Nat→Option Int) (o p:Int) (n m:Nat) (W:Int) (_:vs=[.ref tr, .int W]) (_:sF H CT tr dt e b es bs f o p n m) (_:Jf f n m) (_:n*m≤3000) (_:n≤1000) (_:m≤1000) (_:eM f o p W) (_:∀ms:List Pr,ms.Nodup→(∀a∈ms,fE f o p W a a)→ms.length<64)
  (_:∀H' r us gs,av H H'→H r=none→H' r=some (.lst us)→gS H' us gs→(∀(k:Nat) a,us[k]?=some (.ref a)→H a=none)→Told (fE f o p W) gs→Q (.ref r) H'):Aw CT vs H Q u3
inductive n9(CT CF:Addr)(vs:List V)(H:Hp)(Q:VK)(u3:XK):Prop
 |mk (w t:Addr) (as:List Addr) (c:Case) (f:Nat→Nat→Option Int) (n m:Nat) (_:vs=[.ref w, .ref t]) (_:H w=some (.lst (as.map V.ref))) (_:jF H as f n m) (_:uC H CT t c) (_:Jf f n m) (_:n*m≤3000) (_:n≤1000) (_:m≤1000) (_:∀W,eM f c.out c.into W→c.least≤W→∀ms:List Pr,ms.Nodup→(∀a∈ms,fE f c.out c.into W a a)→ms.length<64)
  (_:Stop f c.out c.into c.least→∀H' r,av H H'→H r=none→H' r=some (.lst [])→Q (.ref r) H')
  (_:∀W gs ds,n8 f c.out c.into c.least W gs ds→gs≠[]→∀H' r us,av H H'→H r=none→H' r=some (.lst us)→dC (fun b=>H b=none) H' CF us ds→Q (.ref r) H'):n9 CT CF vs H Q u3
inductive wI(CT CF CX:Addr)(vs:List V)(H:Hp)(Q:VK)(E:XK):Prop
 |mk (a b t:Addr) (c:Case) (_:vs=[.ref a, .ref b, .ref t]) (_:H a=some (.lst (c.xs.map V.str))) (_:H b=some (.lst (c.ys.map V.str))) (_:uC H CT t c) (_:c.xs.length≤50) (_:c.ys.length≤50) (_:∀ds f W,Reach (jV c []) c.out c.into c.least ds f→eM f c.out c.into W→c.least≤W→∀ms:List Pr,ms.Nodup→(∀a∈ms,fE f c.out c.into W a a)→ms.length<64)
  (_:∀es,gU (jV c []) c.out c.into c.least es→∀H' r us,av H H'→H r=none→H' r=some (.lst us)→dC (fun b=>H b=none) H' CF us es→Q (.ref r) H')
  (_:∀ds f,Reach (jV c []) c.out c.into c.least ds f→20<ds.length→∀H',av H H'→E (.ref CX) none H'):wI CT CF CX vs H Q E
def dP(b:Bk):Int×Str:=(b.year,b.name)
def Lv(b o:Bk):Bk:=if oQ (dP b) (dP o)=true then b else o
def Lw(b o:Bk):Bk:=if oQ (dP b) (dP o)=true then o else b
def lY(c:Case)(b o:Bk):Case:={c with xs:=(Lv b o).words,ys:=(Lw b o).words}
def kZ(n:Nat)(o w:Str)(ds:List Fd):List En:=ds.mapIdx fun i d=>⟨((n+i+1:Nat):Int),o,w,d,false⟩
theorem lZ(n:Nat)(o w:Str)(ds:List Fd):(kZ n o w ds).length=ds.length:=by simp[kZ]
theorem Dh(n:Nat)(o w:Str)(ds:List Fd)(d:Fd):kZ n o w (ds++[d])=kZ n o w ds++[⟨((n+ds.length+1:Nat):Int),o,w,d,false⟩]:=by simp[kZ,List.mapIdx_append]
theorem Fi{p:Array Nat}{lt:Nat→Nat→Bool}(hp:iK 2 p)(hs:Sd lt p 2):(p.toList=[0,1]∧lt 0 1=true)∨(p.toList=[1,0]∧lt 1 0=true):=by
 have hl:p.toList.length=2:=by have:=List.Perm.length_eq hp;simpa using this
 have h:=hs 0 1 (by lia) (by lia);rw[iZ,iZ]at h;have hm:∀z∈p.toList,z<2:=fun z hz=>by have:=(List.Perm.mem_iff hp).mp hz;simpa using this
 have nd:p.toList.Nodup:=(List.Perm.nodup_iff hp).mpr List.nodup_range
 match e:p.toList,hl with
 |[x,y],_=>
  have ep:p=#[x,y]:=Array.toList_inj.mp e;subst ep;have h:lt x y=true:=by simpa using h
  have hx:=hm x (Xx);have hy:=hm y XD;have hn:x≠y:=by simpa using nd
  by_cases ex:x=0
  ·have ey:y=1:=by lia
   subst ex ey;exact .inl ⟨rfl,h⟩
  ·have ex:x=1:=by lia
   have ey:y=0:=by lia
   subst ex ey;exact .inr ⟨rfl,h⟩
inductive Made(c:Case)(b:Bk)(n:Nat):List Bk→List En→Prop
 |nil:Made c b n [] []
 |snoc {bs:List Bk} {es:List En} {o:Bk} {ds:List Fd} (_:Made c b n bs es) (_:gU (jV (lY c b o) []) c.out c.into c.least ds):Made c b n (bs++[o]) (es++kZ (n+es.length) (Lv b o).name (Lw b o).name ds)
theorem Made.Ca{c:Case}{b:Bk}{n:Nat}{bs:List Bk}{es:List En}(m:Made c b n bs es)(h:∀(o:Bk) ds,gU (jV (lY c b o) []) c.out c.into c.least ds→ds.length≤20):es.length≤20*bs.length:=by
 induction m with
 |nil=>simp
 |snoc m t ih=>have:=h _ _ t;simp[lZ];lia
def K8(c:Case)(b o:Bk):Prop:=∀ds f W,Reach (jV (lY c b o) []) c.out c.into c.least ds f→eM f c.out c.into W→c.least≤W→∀ms:List Pr,ms.Nodup→(∀a∈ms,fE f c.out c.into W a a)→ms.length<64
structure sT(P:Addr→Prop)(H:Hp)(C CB CE CT x dx t s e:Addr)(us vs:List V)(bs:List Bk)(es:List En)(c:Case):Prop where
 ob:H x=some (.ins C dx (eh t s e))
 hs:H s=some (.lst us)
 sh:fF P H CB us bs
 he:H e=some (.lst vs)
 en:iC P H CE vs es
 tf:uC H CT t c
 ne:s≠e
theorem sT.same{P:Addr→Prop}{H H':Hp}{C CB CE CT x dx t s e:Addr}{us vs:List V}{bs:List Bk}{es:List En}{c:Case}(L:sT P H C CB CE CT x dx t s e us vs bs es c)(h:av H H'):sT P H' C CB CE CT x dx t s e us vs bs es c:=⟨h _ _ L.ob,h _ _ L.hs,L.sh.same h,h _ _ L.he,L.en.same h,L.tf.keep h,L.ne⟩
theorem Fj{bs:List Bk}{b:Bk}(xK:bs.Pairwise fun a b=>oQ (dP a) (dP b)=true)(h:b.name∉bs.map Bk.name):((bs++[b]).map dP).Nodup:=by
 rw[List.map_append,List.nodup_append];refine⟨?_,Xx,?_⟩
 ·refine List.pairwise_map.mpr (xK.imp fun{x y} MK e=>?_);rw[e]at MK;have:=Ff MK;rw[MK]at this;cases this
 ·intro u hu v hv e;obtain⟨o,ho,eo⟩:=List.mem_map.mp hu;have hv:v=dP b:=by simpa using hv
  rw[←eo,hv]at e;exact h (List.mem_map.mpr ⟨o,ho,(Prod.mk.inj e).2⟩)
def uF(e:En):Pr:=(-e.fd.worth,e.number)
theorem iC.pick{P:Addr→Prop}{H:Hp}{CE:Addr}{vs:List V}{es:List En}(S:iC P H CE vs es)(df:En){p:List Nat}(h:∀i∈p,i<es.length):iC P H CE (p.map fun i=>vs.getD i .cF) (p.map fun i=>es.getD i df):=by
 refine⟨Xx,fun k b hk=>?_⟩;rw[List.getElem?_map]at hk;cases e9:p[k]? with
 |none=>rw[e9]at hk;cases hk
 |some i=>
  rw[e9]at hk;have hi:=h i (Ψ e9);have hb:es.getD i df=b:=by simpa using hk
  have ei:es[i]?=some b:=by rw[←hb,List.getD_eq_getElem?_getD,Ω hi];rfl
  obtain⟨a,d,w1,w2,w3,u1,u2,e1,B⟩:=S.2 i b ei;refine⟨a,d,w1,w2,w3,u1,u2,?_,B⟩;rw[List.getElem?_map,e9];show some (vs.getD i .cF)=_;rw[List.getD_eq_getElem?_getD,e1];rfl
theorem fF.pick{P:Addr→Prop}{H:Hp}{CB:Addr}{vs:List V}{bs:List Bk}(S:fF P H CB vs bs)(df:Bk){p:List Nat}(h:∀i∈p,i<bs.length):fF P H CB (p.map fun i=>vs.getD i .cF) (p.map fun i=>bs.getD i df):=by
 refine⟨Xx,fun k b hk=>?_⟩;rw[List.getElem?_map]at hk;cases e9:p[k]? with
 |none=>rw[e9]at hk;cases hk
 |some i=>
  rw[e9]at hk;have hi:=h i (Ψ e9);have hb:bs.getD i df=b:=by simpa using hk
  have ei:bs[i]?=some b:=by rw[←hb,List.getD_eq_getElem?_getD,Ω hi];rfl
  obtain⟨a,d,w,e1,B⟩:=S.2 i b ei;refine⟨a,d,w,?_,B⟩;rw[List.getElem?_map,e9];show some (vs.getD i .cF)=_;rw[List.getD_eq_getElem?_getD,e1];rfl
theorem vq{n:Nat}{p:Array Nat}(hp:iK n p):∀i∈p.toList,i<n:=fun i hi=>by simpa using(List.Perm.mem_iff hp).mp hi
theorem zm{α:Type}(df:α)(es:List α){p:Array Nat}(hp:iK es.length p):(p.toList.map fun i=>es.getD i df).Perm es:=by
 have e1:(List.range es.length).map (fun i=>es.getD i df)=es:=by
  apply List.ext_getElem?;intro i;rw[List.getElem?_map];by_cases hi:i<es.length
  ·rw[List.getElem?_range hi,Ω hi];simp[hi]
  ·rw[List.getElem?_eq_none (by simp;lia),List.getElem?_eq_none Nz];rfl
 have:=List.Perm.map (fun i=>es.getD i df) hp;rw[e1]at this;exact this
theorem uv{α κ:Type}{T:qt κ}(f:α→κ)(df:α)(es:List α){p:Array Nat}(hp:iK es.length p)(hs:Sd (wB T (es.map f)) p es.length):(p.toList.map fun i=>es.getD i df).Pairwise fun a b=>T.lt (f a) (f b)=true:=by
 rw[List.pairwise_map,List.pairwise_iff_getElem];intro i j hi hj xJ;have hsz:p.size=es.length:=by have:=List.Perm.length_eq hp;simpa using this
 have:=hs i j xJ (by rw[←hsz];simpa using hj);have g1:gd p i=p.toList[i]:=by rw[iZ];simp at hi;simp[hi]
 have g2:gd p j=p.toList[j]:=by rw[iZ];simp at hj;simp[hj]
 rw[g1,g2]at this;have l1:=vq hp _ (List.getElem_mem hi);have l2:=vq hp _ (List.getElem_mem hj);generalize p.toList[i]=u at this l1;generalize p.toList[j]=v at this l2;have key:∀u,u<es.length→(es.map f).getD u T.d=f (es.getD u df):=fun u hu=>by rw[List.getD_eq_getElem?_getD,List.getD_eq_getElem?_getD,List.getElem?_map,Ω hu];rfl
 have this:T.lt ((es.map f).getD u T.d) ((es.map f).getD v T.d)=true:=this;rw[key u l1,key v l2]at this;exact this
inductive wJ(C CB CE CT:Addr)(Cf:List V)(H:Hp)(Q:VK)(u3:XK):Prop
 |mk (P:Addr→Prop) (x dx t s e:Addr) (us vs:List V) (bs:List Bk) (es:List En) (c:Case) (_:Cf=[.ref x]) (_:sT P H C CB CE CT x dx t s e us vs bs es c) (_:es.length≤10000) (_:∀H' r M6,av H H'→H r=none→H' r=some (.lst M6)→iC P H' CE M6 (es.filter fun e=>!e.left)→Q (.ref r) H'):wJ C CB CE CT Cf H Q u3
inductive sU(C CB CE CT:Addr)(Cf:List V)(H:Hp)(Q:VK)(u3:XK):Prop
 |mk (P:Addr→Prop) (x dx t s e:Addr) (us vs:List V) (bs:List Bk) (es:List En) (c:Case) (_:Cf=[.ref x]) (_:sT P H C CB CE CT x dx t s e us vs bs es c) (_:es.length<10000) (_:((es.filter fun e=>!e.left).map uF).Nodup) (_:qj (es.filter fun e=>!e.left).length (wB ph ((es.filter fun e=>!e.left).map uF))→MU (es.filter fun e=>!e.left).length (wB ph ((es.filter fun e=>!e.left).map uF))) (_:∀fs:List En,fs.Perm (es.filter fun e=>!e.left)→(fs.Pairwise fun a b=>jw (uF a) (uF b)=true)→∀H' r,av H H'→H r=none→H' r=some (.lst (fs.map fun e=> .int e.number))→Q (.ref r) H'):sU C CB CE CT Cf H Q u3
inductive wK(C CB CE CT CX:Addr)(Cf:List V)(H:Hp)(Q:VK)(E:XK):Prop
 |mk (P:Addr→Prop) (x dx t s e a db w:Addr) (us vs:List V) (b:Bk) (bs:List Bk) (es:List En) (c:Case) (_:Cf=[.ref x, .ref a]) (_:sT P H C CB CE CT x dx t s e us vs bs es c) (_:nB H CB a b db w) (_:b.words.length≤50) (_:∀o∈bs,o.words.length≤50∧o.name≠b.name) (_:bs.length≤100) (_:es.length≤1000) (_:∀o∈bs,K8 c b o)
  (_:∀fs,Made c b es.length bs fs→∀H' r ws,av H H'→H r=none→H' r=some (.lst ws)→iC (fun z=>H z=none) H' CE ws fs→Q (.ref r) H')
  (_:∀(k:Nat) o fs ds f,bs[k]?=some o→Made c b es.length (bs.take k) fs→Reach (jV (lY c b o) []) c.out c.into c.least ds f→20<ds.length→∀H',av H H'→E (.ref CX) none H'):wK C CB CE CT CX Cf H Q E
inductive Ax(C CB CE CT C0 C1 C2 C3 CN ZU CX:Addr)(Cf:List V)(H:Hp)(Q:VK)(E:XK):Prop
 |mk (G:Hp) (x dx t s e w:Addr) (us vs:List V) (n:Str) (y:Int) (ws:List Str) (bs:List Bk) (es:List En) (c:Case) (_:Cf=[.ref x, .str n, .int y, .ref w]) (_:sT (fun z=>z≠x∧z≠e) H C CB CE CT x dx t s e us vs bs es c) (_:av G H) (_:G x=none) (_:G e=none) (_:uC G CT t c) (_:H w=some (.lst (ws.map V.str))) (_:n.length≤100000) (_:ws.length≤1000) (_:∀z∈ws,z.length≤100000) (_:∀o∈bs,o.words.length≤40) (_:bs.length≤12) (_:es.length≤1000) (_:∀o∈bs,ws.length≤40→K8 c ⟨n,y,ws⟩ o)
  (_:bs.Pairwise fun a b=>oQ (dP a) (dP b)=true)
  (_:dX n y ws=0→∀H',av H H'→E (.ref C0) none H') (_:dX n y ws=1→∀H',av H H'→E (.ref C1) none H') (_:dX n y ws=2→∀H',av H H'→E (.ref C2) none H') (_:dX n y ws=3→∀H',av H H'→E (.ref C3) none H')
  (_:dX n y ws=4→n∈bs.map Bk.name→∀H',av H H'→E (.ref CN) none H')
  (_:dX n y ws=4→n∉bs.map Bk.name→12≤bs.length→∀H',av H H'→E (.ref ZU) none H')
  (_:dX n y ws=4→n∉bs.map Bk.name→bs.length<12→∀(k:Nat) o fs ds f,bs[k]?=some o→Made c ⟨n,y,ws⟩ es.length (bs.take k) fs→Reach (jV (lY c ⟨n,y,ws⟩ o) []) c.out c.into c.least ds f→20<ds.length→∀H',av H H'→E (.ref CX) none H')
  (_:dX n y ws=4→n∉bs.map Bk.name→bs.length<12→∀fs,Made c ⟨n,y,ws⟩ es.length bs fs→∀Jh:List Bk,Jh.Perm (bs++[⟨n,y,ws⟩])→(Jh.Pairwise fun a b=>oQ (dP a) (dP b)=true)→∀H' r s' M6 XR,sT (fun z=>z≠x∧z≠e) H' C CB CE CT x dx t s' e M6 XR Jh (es++fs) c→(∀b o,b≠x→b≠e→H b=some o→H' b=some o)→H r=none→H' r=some (.lst (fs.map fun e=> .int e.number))→Q (.ref r) H'):Ax C CB CE CT C0 C1 C2 C3 CN ZU CX Cf H Q E
theorem Fl(n m:Nat):(wm n m).Nodup:=by
 unfold wm;refine List.pairwise_flatMap.mpr ⟨fun i _=>?_,?_⟩
 ·exact List.pairwise_map.mpr (List.nodup_range.imp fun{a b} h e=>h (gT e).2)
 ·refine List.nodup_range.imp fun{a b} h q h1 r h2 e=>?_
  obtain⟨j,_,e1⟩:=List.mem_map.mp h1;obtain⟨j',_,e2⟩:=List.mem_map.mp h2;exact h (gT (e1.trans (e.trans e2.symm))).1
section
variable{f0 f:Nat→Nat→Option Int}{o p least W:Int}{ds:List Fd}
theorem Reach.QC(r:Reach f0 o p least ds f){P:List Pr}(hP:∀q,(lf f0 q).isSome=true→q∈P):ds.length≤P.length:=by
 have ap:=r.apart;have hf:∀d∈ds,jW d.pairs∈d.pairs:=fun d hd=>by
  have:=(ap.xK d hd).2;cases e:d.pairs with
  |nil=>exact absurd e this
  |cons a r=>simp[jW]
 have:=len_sub (ds.map fun d=>jW d.pairs) P (List.pairwise_map.mpr (List.Pairwise.imp_of_mem (fun{a b} ha hb EZ e=>EZ (jW a.pairs) (hf a ha) (by rw[e];exact hf b hb)) ap.ap)) fun x hx=>by
  obtain⟨d,hd,rfl⟩:=List.mem_map.mp hx;exact hP _ (ap.shut d hd _ (hf d hd)).2
 rw[List.length_map]at this;exact this
theorem Reach.small(r:Reach f0 o p least ds f){P:List Pr}(hP:∀q,(lf f0 q).isSome=true→q∈P){ms:List Pr}(nd:ms.Nodup)(h:∀a∈ms,fE f o p W a a):ms.length≤P.length:=
 len_sub ms P nd fun a ha=>by
  obtain⟨ps,w,hm⟩:=(h a ha).on;have h1:=w.1.ok a hm;refine hP a ?_;rw[←r.apart.sub a h1];exact h1
def Di(f:Nat→Nat→Option Int):Prop:=∀a b,(lf f a).isSome=true→(lf f b).isSome=true→¬EL a b
theorem Di.one(h:Di f){ps:List Pr}(w:Wy (lf f) ps):∃a,ps=[a]:=by
 match ps,w with
 |[],w=>exact absurd rfl w.ne
 |[a],_=>exact⟨a,rfl⟩
 |a::b::r,w=>exact absurd ((List.pairwise_cons.mp w.up).1 b (Xx)) (h a b (w.ok a (Xx)) (w.ok b (Xx)))
theorem Di.Qn(h:Di f){a b:Pr}(k:fE f o p W a b):a=b:=by
 induction k with
 |way ps w h1 h2=>
  obtain⟨x,rfl⟩:=h.one w.1;rw[List.mem_singleton.mp h1,List.mem_singleton.mp h2]
 |tr _ _ i1 i2=>exact i1.trans i2
theorem Di.ones(h:Di f0)(r:Reach f0 o p least ds f):∀d∈ds,∀a∈d.pairs,∀b∈d.pairs,a=b:=by
 induction r with
 |start=>exact fun d hd=>by cases hd
 |@round done f W gs ds r R ih=>
  intro d hd;rcases List.mem_append.mp hd with hd|hd
  ·exact ih d hd
  intro a ha b hb;have hg:d.pairs∈gs:=by rw[←R.Ls];exact List.mem_map.mpr ⟨d,hd,rfl⟩
  have ap:=r.apart;have th:Di f:=fun a b h1 h2=>h a b (by rw[←ap.sub a h1];exact h1) (by rw[←ap.sub b h2];exact h2)
  exact th.Qn ((R.told.cls _ hg a ha b).mp hb)
end
theorem pw_all{c:Case}{q:Pr}(h:(lf (jV c []) q).isSome=true):q∈wm c.xs.length c.ys.length:=by
 rw[wA]at h;obtain⟨w,hw⟩:=Option.isSome_iff_exists.mp h;obtain⟨⟨a1,a2⟩,b1,b2⟩:=Case.pw_in hw;have e:q=bp (q.1.toNat,q.2.toNat):=Prod.ext (by simp[bp];lia) (by simp[bp];lia);rw[e];exact C6 Nz (by lia)
theorem zo{c:Case}(h:c.xs.length*c.ys.length<64){ds:List Fd}{f:Nat→Nat→Option Int}{W:Int}(r:Reach (jV c []) c.out c.into c.least ds f){ms:List Pr}(nd:ms.Nodup)(hm:∀a∈ms,fE f c.out c.into W a a):ms.length<64:=by
 have:=r.small (P:=wm c.xs.length c.ys.length) (fun q hq=>pw_all hq) nd hm;rw[qp]at this
 lia
theorem zp{c:Case}(h:c.xs.length≤1∨c.ys.length≤1):Di (jV c []):=fun a b h1 h2 s=>by
 rw[wA]at h1 h2;obtain⟨w,hw⟩:=Option.isSome_iff_exists.mp h1;obtain⟨w',hw'⟩:=Option.isSome_iff_exists.mp h2;have e1:=Case.pw_in hw;have e2:=Case.pw_in hw';have:=s.1;have:=s.2
 lia
theorem Ie{c:Case}(h:c.xs.length≤1∨c.ys.length≤1)(hs:∀q w,c.pw q=some w→w=c.same)(ha:∀i j:Nat,i<c.xs.length→j<c.ys.length→c.pw (bp (i,j))=some c.same)(hl:c.least≤c.same){es:List Fd}(t:gU (jV c []) c.out c.into c.least es):es.length=c.xs.length*c.ys.length:=by
 obtain⟨ds,f,r,st,pm⟩:=t.VQ;have one:=(zp h).ones r;rw[←qp];refine Nat.le_antisymm (by rw[pm.length_eq];exact r.QC fun q hq=>pw_all hq) ?_;have:=len_sub (wm c.xs.length c.ys.length) (es.map fun d=>jW d.pairs) (Fl _ _) fun q hq=>by
  unfold wm at hq;obtain⟨i,hi,hq⟩:=List.mem_flatMap.mp hq;obtain⟨j,hj,rfl⟩:=List.mem_map.mp hq;have hw:=ha i j (by simpa using hi) (by simpa using hj);obtain⟨d,hd,hm⟩:=t.pair (q:=bp (i,j)) (by rw[←EO,wA];exact hw) hl;refine List.mem_map.mpr ⟨d,hd,one d (pm.mem_iff.mp hd) _ ?_ _ hm⟩;cases e:d.pairs with
  |nil=>rw[e]at hm;cases hm
  |cons a r=>simp[jW]
 rw[List.length_map]at this;exact this
theorem Fm{c:Case}(h:c.xs.length≤1∨c.ys.length≤1)(hs:∀q w,c.pw q=some w→w=c.same){es:List Fd}(t:gU (jV c []) c.out c.into c.least es):∀d∈es,d.worth=c.same:=fun d hd=>by
 have F:=t.Qr d hd;obtain⟨a,ea⟩:=(zp h).one F.way;have h1:=F.way.ok a (by rw[ea];simp);obtain⟨w,hw⟩:=Option.isSome_iff_exists.mp h1;have h2:=F.worth;rw[ea]at h2;have:vl (lf (jV c [])) c.out c.into [a]=w:=by simp[vl,hw]
 rw[this]at h2;rw[wA]at hw;rw[←h2,hs _ _ hw]
theorem wL{c:Case}(h:∀q,c.pw q=none){ds:List Fd}{f:Nat→Nat→Option Int}(r:Reach (jV c []) c.out c.into c.least ds f):ds.length=0:=by
 have:=r.QC (P:=[]) fun q hq=>by rw[wA,h q]at hq;cases hq
 simpa using this
theorem Made.num{c:Case}{b:Bk}{n:Nat}{bs:List Bk}{es:List En}(m:Made c b n bs es):∀(i:Nat) e,es[i]?=some e→e.number=((n+i+1:Nat):Int)∧e.left=false:=by
 induction m with
 |nil=>intro i e h;simp at h
 |@snoc bs es o ds m t ih=>
  intro i e h;by_cases hi:i<es.length
  ·rw[ζ hi]at h;exact ih i e h
  ·rw[θ Nz]at h;unfold kZ at h;rw[List.getElem?_mapIdx]at h;cases e2:ds[i-es.length]? with
   |none=>rw[e2]at h;cases h
   |some d=>
    rw[e2]at h;have h:(⟨((n+es.length+(i-es.length)+1:Nat):Int),_,_,d,false⟩:En)=e:=Ρ h;rw[←h];exact⟨by dsimp only;lia,rfl⟩
theorem Made.count{c:Case}{b:Bk}{n:Nat}{bs:List Bk}{es:List En}{k:Bk→Nat}(m:Made c b n bs es)(h:∀o∈bs,∀ds,gU (jV (lY c b o) []) c.out c.into c.least ds→ds.length=k o):es.length=(bs.map k).sum:=by
 induction m with
 |nil=>simp
 |@snoc bs es o ds m t ih=>
  have h1:=ih fun o ho=>h o (List.mem_append_left _ ho)
  have h2:=h o XD ds t;simp[lZ,h1,h2]
theorem Made.all{c:Case}{b:Bk}{n:Nat}{bs:List Bk}{es:List En}{S:Fd→Prop}(m:Made c b n bs es)(h:∀o∈bs,∀ds,gU (jV (lY c b o) []) c.out c.into c.least ds→∀d∈ds,S d):∀e∈es,S e.fd:=by
 induction m with
 |nil=>exact fun e he=>by cases he
 |@snoc bs es o ds m t ih=>
  intro e he;rcases List.mem_append.mp he with he|he
  ·exact ih (fun o ho=>h o (List.mem_append_left _ ho)) e he
  ·unfold kZ at he;obtain⟨i,hi,rfl⟩:=List.mem_mapIdx.mp he;exact h o XD ds t _ (List.getElem_mem hi)
def wM(bI:Str)(rest:Int)(k:Nat):Str:=bI++o_ (97+((rest+7*(k:Int))%26).toNat) (1+(rest+(k:Int)*(k:Int))%3).toNat
theorem Ay(bI:Str)(rest:Int)(k:Nat):(wM bI rest k).cps.toList=bI.cps.toList++List.replicate (1+(rest+(k:Int)*(k:Int))%3).toNat (97+((rest+7*(k:Int))%26).toNat):=by
 unfold wM o_;rw[j7]
theorem M7{bI:Str}(hl:bI.length≤9)(hs:lows bI)(rest:Int)(k:Nat):gP (wM bI rest k)=true:=by
 have z:0≤(rest+(k:Int)*(k:Int))%3∧(rest+(k:Int)*(k:Int))%3<3:=⟨Int.emod_nonneg _ (QY),Int.emod_lt_of_pos _ (QY)⟩
 have hlen:(wM bI rest k).length=bI.length+(1+(rest+(k:Int)*(k:Int))%3).toNat:=by
  rw[←len_list,Ay,List.length_append,List.length_replicate,len_list]
 refine ED Nz (by lia) ?_;unfold lows;rw[Ay,List.all_append,show bI.cps.toList.all low=true from hs,Bool.true_and,List.all_eq_true];intro x hx;rw[(List.mem_replicate.mp hx).2];exact vk _
theorem M8{bI:Str}{rest:Int}{k k':Nat}(hk:k<26)(Je:k'<26)(e:wM bI rest k=wM bI rest k'):k=k':=by
 have z:∀k:Nat,0≤(rest+(k:Int)*(k:Int))%3:=fun k=>Int.emod_nonneg _ (QY)
 have l:∀k:Nat,(wM bI rest k).cps.toList.getLast?=some (97+((rest+7*(k:Int))%26).toNat):=fun k=>by
  have:=z k;have e2:(1+(rest+(k:Int)*(k:Int))%3).toNat=((rest+(k:Int)*(k:Int))%3).toNat+1:=by lia
  rw[Ay,e2,List.replicate_succ',←List.append_assoc,List.getLast?_append];simp
 have h:=l k;rw[e,l k']at h;have h:97+((rest+7*(k':Int))%26).toNat=97+((rest+7*(k:Int))%26).toNat:=Ρ h
 lia
theorem Ig(bI:Str)(rest:Int){n:Nat}(h:n≤26):((List.range n).map (wM bI rest)).Nodup:=by
 refine List.pairwise_map.mpr (List.Pairwise.imp_of_mem (fun{a b} ha hb EZ e=>EZ (M8 (by have:=List.mem_range.mp ha;lia) (by have:=List.mem_range.mp hb;lia) e)) List.nodup_range)
inductive sV(vs:List V)(H:Hp)(Q:VK)(u3:XK):Prop
 |mk (cell many:Int) (_:vs=[.int cell, .int many]) (_:0≤many) (_:many≤26) (_:∀H' b (ts:List Str),av H H'→H b=none→H' b=some (.lst (ts.map V.str))→ts.length=many.toNat→(∀z∈ts,gP z=true)→ts.Nodup→Q (.ref b) H'):sV vs H Q u3
inductive sW(vs:List V)(H:Hp)(Q:VK)(u3:XK):Prop
 |mk (z:Str) (_:vs=[.str z]) (_:z.length≤100000) (_:Q (.bl (gP z)) H):sW vs H Q u3
def gN(n:Str)(y:Int)(ws ts:List Str)(m:Nat)(al:Int):Str:=if dX n y ws=0 then kindOf 5 else if dX n y ws=1 then kindOf 6 else if dX n y ws=2 then kindOf 1 else if dX n y ws=3 then kindOf 0 else if n∈ts.take m then kindOf 7 else if 12≤m then kindOf 8 else if 20<ws.length∧0<al then kindOf 9 else ""
inductive Fn(vs:List V)(H:Hp)(Q:VK)(u3:XK):Prop
 |mk (n:Str) (y:Int) (w t:Addr) (ws ts:List Str) (m:Nat) (al:Int) (_:vs=[.str n, .int y, .ref w, .ref t, .int m, .int al]) (_:n.length≤100000) (_:H w=some (.lst (ws.map V.str))) (_:H t=some (.lst (ts.map V.str))) (_:ws.length≤1000) (_:ts.length≤1000) (_:∀z∈ws,z.length≤100000) (_:m≤ts.length) (_:∀H',av H H'→Q (.str (gN n y ws ts m al)) H'):Fn vs H Q u3
inductive sX(K:W.Frag)(vs:List V)(H:Hp)(Q:VK)(u3:XK):Prop
 |mk (a:Addr) (ns:List Int) (n W:Str) (_:vs=[.ref a, .str n, .str W]) (_:jT K H a (ns.map V.int)) (_:n.length≤100) (_:W.length≤100) (_:∀H' b w (n':Str) y (ws:List Str),av H H'→H b=none→H w=none→H' b=some (.lst [.str n', .int y, .ref w])→H' w=some (.lst (ws.map V.str))→n'.length≤200→ws.length≤45→(∀z∈ws,z.length≤200)→((∀z∈ws,z=W)∨∃z∈ws,gP z=false)→Q (.ref b) H'):sX K vs H Q u3
end QF
namespace L2
open PySem PySem.Spec PyProof.Rows PySem.W
section
variable{prog:Program}{w:World}{A:Around}{E:Value→Shared→Prop}{s:Shared}
theorem zq{it t:Addr}{items:Array Value}(gO:t≠it):∀(n i:Nat)(s:Shared)(Q:List Value→Shared→Prop),s.heap.IsListIter it t i→s.heap.IsList t items→i+n≤items.size→
  (∀h':Heap,h'.IsListIter it t (i+n)→Heap.SameBut it s.heap h'→Q ((items.toList.drop i).take n) {s with heap:=h'})→wpAny (model prog w) A (draw (.ref it) n) Q E s
 |0,i,s,Q,hit,_,_,hQ=>by
  show wpAny _ _ (pure []) Q E s;exact Δ (by simpa using hQ s.heap hit (Heap.SameBut.refl ..))
 |n+1,i,s,Q,hit,ht,hle,hQ=>by
  have jv:i<items.size:=by lia
  show wpAny _ _ (pyNext (.ref it)>>=_) Q E s;refine wpAny_bind (wpAny_pyNext_list_item hit ht (x:=items[i]) (by simp[jv]) fun zD Fo Dj=>?_);refine wpAny_bind (wpAny_holding (zq gO n (i+1) _ _ Fo (ht.extBut Dj.extBut gO) (by lia) fun zE QD Uq=>Δ ?_));have hd:items.toList.drop i=items[i]::items.toList.drop (i+1):=by simp[List.drop_eq_getElem_cons,jv]
  have:=hQ zE (by rw[show i+(n+1)=i+1+n by lia];exact QD) (Dj.trans Uq);rw[hd,List.take_succ_cons]at this;exact this
theorem qy{env:Env}{elts:List Expr}{x1}{pos:Pos}{t:Addr}{items:Array Value}{Q:Unit→Shared→Prop}(hh:A.handled=none)(ht:s.heap.IsList t items)
  (hn:(assignEach elts env).length=items.size) (Ur:(assignEach elts env).findIdx? (·.1)=none)
  (h:∀h',Heap.ExtBut s.heap.objs.size s.heap h'→wpAny (model prog w) A (assignInOrder ((assignEach elts env).map (·.2)) items.toList) Q E {s with heap:=h'}):
  wpAny (model prog w) A (assign (.Tuple elts x1 pos) env (.ref t)) Q E s:=by
 rw[PyProof.Rows.assign_Tuple];refine wpAny_bind (wpAny_standAt ?_);unfold unpack;rw[hn,Ur];refine wpAny_bind (wpAny_holding ?_);have jv:t≠s.heap.objs.size:=by obtain⟨o,ho,_⟩:=ht;exact Nat.ne_of_lt (Λ ho)
 have push:∀o,(s.heap.push o).IsList t items:=fun o=>by
  obtain⟨x,h1,h2⟩:=ht;exact⟨x,Ο h1,h2⟩
 unfold unpackItems;refine wpAny_bind ?_;unfold notIterableAtAll;refine wpAny_bind (wpAny_specialOf ht.typeIs slot_list_iter.lookup ?_);refine wpAny_pure ?_;simp only[Bool.false_eq_true,if_false];refine wpAny_bind (wpAny_holding (wpAny_pyIter_list ht ?_));refine wpAny_bind (wpAny_holding (zq jv items.size 0 _ _ ⟨_,Heap.get?_push_size _ rfl,rfl,rfl⟩ (push _) (by lia) fun zD Fo Dj=>?_));have Pk:List.take items.size (List.drop 0 items.toList)=items.toList:=by
  rw[List.drop_zero];exact List.take_of_length_le XD
 rw[Pk];rw[if_neg XD];have Us:zD.IsList t items:=(push _).extBut Dj.extBut jv;refine wpAny_bind (wpAny_holding (wpAny_pyNext_list_end hh Fo Us XD fun zE Ut=>?_));simp only[Option.isSome_none,Bool.false_eq_true,if_false];exact Δ (h zE fun b o hb e=>Ut b o hb (Dj.extBut b o hb (Ο e)))
end
inductive Uu(K:PySem.W.Frag)(n:Nat)(t:Ln)(v:V)(σ:St)(H:Hp)(Q:St→Hp→Prop):Prop
 |mk (a:Addr) (xs:List V) (_:v= .ref a) (_:jT K H a xs) (_:xs.length=n) (_:t xs σ H Q):Uu K n t v σ H Q
theorem aaE{X:Cx}(K:PySem.W.Frag){es:List Expr}{k:Nat}{t:Ln}{n:Nat}{pos:Pos}(hc:X.calm=true)(h:Q3 X es t)
  (hn:(assignEach es X.env).length=n:=by rfl) (xG:(assignEach es X.env).findIdx? (·.1)=none:=by rfl) (hK:X.K=K:=by rfl):PG X (.Tuple es k pos) (Uu K n t):=by
 subst hK;intro pins s σ H v u Q I r hw;obtain⟨a,xs,e1,hq,hl,hw⟩:=hw;subst e1;cases r;obtain⟨its,rv,ht,hz⟩:=I.list hq;refine qy (I.ok.hd hc) ht.isList (by simp[hn,←hl,rv.length]) xG fun h' hx=>?_
 have I1:Inv X pins σ H {s with heap:=h'}:=I.kept (t':=s.toks) fun b o e=>hx b o (Nat.ne_of_lt (Λ e)) e
 exact h pins _ σ H xs _ Q I1 (by simpa using rv) hw
end L2
namespace QF
open PySem L2
def c0:Case:=⟨[],[],5,3,3,5,[]⟩
def Ih(c:Case)(n:Str)(y:Int)(ws:List Str)(bs:List Bk)(j:Nat):Prop:=
 (dX n y ws=0∧j=5)∨(dX n y ws=1∧j=6)∨(dX n y ws=2∧j=1)∨(dX n y ws=3∧j=0)∨
 (dX n y ws=4∧((n∈bs.map Bk.name∧j=7)∨(n∉bs.map Bk.name∧((12≤bs.length∧j=8)∨(bs.length<12∧j=9∧∃o∈bs,∃ds f,Reach (jV (lY c ⟨n,y,ws⟩ o) []) c.out c.into c.least ds f∧20<ds.length)))))
theorem Ih.lt{c:Case}{n:Str}{y:Int}{ws:List Str}{bs:List Bk}{j:Nat}(h:Ih c n y ws bs j):j<14:=by
 unfold Ih at h
 lia
inductive wN(C CB CE CT:Addr)(Cf:List V)(H:Hp)(Q:VK)(E:XK):Prop
 |mk (G:Hp) (x dx t s e w b w0:Addr) (us vs:List V) (n:Str) (y:Int) (ws:List Str) (bs:List Bk) (es:List En) (c:Case) (_:Cf=[.ref x, .ref b, .ref w]) (_:sT (fun z=>z≠x∧z≠e) H C CB CE CT x dx t s e us vs bs es c) (_:av G H) (_:G x=none) (_:G e=none) (_:uC G CT t c) (_:H b=some (.lst [.str n, .int y, .ref w0])) (_:H w=some (.lst (ws.map V.str))) (_:n.length≤100000) (_:ws.length≤1000) (_:∀z∈ws,z.length≤100000) (_:∀o∈bs,o.words.length≤40) (_:bs.length≤12) (_:es.length≤1000) (_:∀o∈bs,ws.length≤40→K8 c ⟨n,y,ws⟩ o)
  (_:bs.Pairwise fun a b=>oQ (dP a) (dP b)=true)
  (_:∀j,Ih c n y ws bs j→∀H' r,av H H'→H' r=some (.lst [.str (kindOf j), .cF])→Q (.ref r) H')
  (_:dX n y ws=4→n∉bs.map Bk.name→bs.length<12→∀fs,Made c ⟨n,y,ws⟩ es.length bs fs→∀H' r l,H' r=some (.lst [.str "", .ref l])→H' l=some (.lst (fs.map fun e=> .int e.number))→(∀b o,b≠x→b≠e→H b=some o→H' b=some o)→Q (.ref r) H'):wN C CB CE CT Cf H Q E
theorem jz(c:Case)(b o:Bk):((lY c b o).xs=b.words∧(lY c b o).ys=o.words)∨((lY c b o).xs=o.words∧(lY c b o).ys=b.words):=by
 unfold lY Lv Lw;split
 ·exact .inl ⟨rfl,rfl⟩
 ·exact .inr ⟨rfl,rfl⟩
structure Az(z:Str)(b o:Bk):Prop where
 ws:∀x∈b.words,x=z
 one:∃v,o.words=[v]
section
variable{z:Str}{b o:Bk}(B:Az z b o)
include B
theorem Az.Uv:(lY c0 b o).xs.length≤1∨(lY c0 b o).ys.length≤1:=by
 obtain⟨v,hv⟩:=B.one;rcases jz c0 b o with⟨e1,e2⟩|⟨e1,e2⟩
 ·right;rw[e2,hv];simp
 ·left;rw[e1,hv];simp
theorem Az.len:(lY c0 b o).xs.length*(lY c0 b o).ys.length=b.words.length:=by
 obtain⟨v,hv⟩:=B.one;rcases jz c0 b o with⟨e1,e2⟩|⟨e1,e2⟩
 ·rw[e1,e2,hv];simp
 ·rw[e1,e2,hv];simp
theorem Az.pw{q:Pr}{w:Int}(h:(lY c0 b o).pw q=some w):w=5∧o.words=[z]:=by
 unfold Case.pw at h;cases e1:wd (lY c0 b o).xs q.1 with
 |none=>rw[e1]at h;cases h
 |some x=>
  cases e2:wd (lY c0 b o).ys q.2 with
  |none=>rw[e1,e2]at h;cases h
  |some y=>
   rw[e1,e2]at h;have h:(if x=y then some (5:Int)else(none:Option Int))=some w:=h;have mem:∀{xs:List Str}{i:Int}{x:Str},wd xs i=some x→x∈xs:=fun h=>by
    unfold wd at h;split at h
    ·exact Ψ h
    ·cases h
   have m1:=mem e1;have m2:=mem e2;by_cases e:x=y
   ·rw[VH e]at h;refine⟨(Ρ h).symm,?_⟩;obtain⟨v,hv⟩:=B.one;rcases jz c0 b o with⟨f1,f2⟩|⟨f1,f2⟩
    ·rw[f1]at m1;rw[f2,hv]at m2;rw[hv,←List.mem_singleton.mp m2,←e,B.ws x m1]
    ·rw[f1,hv]at m1;rw[f2]at m2;rw[hv,←List.mem_singleton.mp m1,e,B.ws y m2]
   ·rw[M9 e]at h;cases h
theorem Az.reach{ds:List Fd}{f:Nat→Nat→Option Int}(r:Reach (jV (lY c0 b o) []) c0.out c0.into c0.least ds f):ds.length≤b.words.length∧(0<ds.length→o.words=[z]):=by
 have h1:=r.QC (P:=wm (lY c0 b o).xs.length (lY c0 b o).ys.length) fun q hq=>pw_all hq
 rw[qp,B.len]at h1;refine⟨h1,fun h=>Classical.byContradiction fun hn=>?_⟩;have:=wL (c:=lY c0 b o) (fun q=>by
  cases e:(lY c0 b o).pw q with
  |none=>rfl
  |some w=>exact absurd (B.pw e).2 hn) r
 lia
theorem Az.told{ds:List Fd}(t:gU (jV (lY c0 b o) []) c0.out c0.into c0.least ds):ds.length=(if o.words=[z]then 1 else 0)*b.words.length∧∀d∈ds,d.worth=5:=by
 refine⟨?_,Fm (c:=lY c0 b o) B.Uv (fun q w h=>(B.pw h).1) t⟩;by_cases e:o.words=[z]
 ·rw[VH e,Nat.one_mul,←B.len];refine Ie (c:=lY c0 b o) B.Uv (fun q w h=>(B.pw h).1) (fun i j hi hj=>?_) (show(5:Int)≤5 by decide) t;have f1:wd (lY c0 b o).xs (bp (i,j)).1=some (lY c0 b o).xs[i]:=by show wd _ (i:Int)=_;rw[Ad];simp[hi]
  have f2:wd (lY c0 b o).ys (bp (i,j)).2=some (lY c0 b o).ys[j]:=by show wd _ (j:Int)=_;rw[Ad];simp[hj]
  rw[Case.pw_of f1 f2];have g:∀x∈(lY c0 b o).xs,x=z:=fun x hx=>by
   rcases jz c0 b o with⟨f1,f2⟩|⟨f1,f2⟩
   ·rw[f1]at hx;exact B.ws x hx
   ·rw[f1,e]at hx;exact List.mem_singleton.mp hx
  have g':∀x∈(lY c0 b o).ys,x=z:=fun x hx=>by
   rcases jz c0 b o with⟨f1,f2⟩|⟨f1,f2⟩
   ·rw[f2,e]at hx;exact List.mem_singleton.mp hx
   ·rw[f2]at hx;exact B.ws x hx
  unfold nk;rw[VH ((g _ (List.getElem_mem hi)).trans (g' _ (List.getElem_mem hj)).symm)]
 ·rw[M9 e,Nat.zero_mul];obtain⟨es,f,r,_,pm⟩:=t.VQ;rw[pm.length_eq];exact wL (c:=lY c0 b o) (fun q=>by
   cases e2:(lY c0 b o).pw q with
   |none=>rfl
   |some w=>exact absurd (B.pw e2).2 e) r
theorem Az.Ca(h:b.words.length<64):K8 c0 b o:=fun ds f W r T hW ms nd hm=>zo (c:=lY c0 b o) (by rw[B.len];exact h) r nd hm
end
theorem AA(f:Bk→Nat)(L:Nat):∀bs:List Bk,(bs.map fun o=>f o*L).sum=(bs.map f).sum*L
 |[]=>Xx
 |b::r=>by simp[AA f L r,Nat.add_mul]
theorem G7(z:Str):∀bs:List Bk,0<(bs.map fun o=>if o.words=[z]then 1 else 0).sum↔∃o∈bs,o.words=[z]
 |[]=>Xx
 |b::r=>by
  have ih:=G7 z r;rw[List.map_cons,List.sum_cons];by_cases h:b.words=[z]
  ·simp[h];lia
  ·simp[h]at ih⊢;exact ih
theorem Fp(z:Str):∀bs:List Bk,(bs.map fun o=>if o.words=[z]then 1 else 0).sum≤bs.length
 |[]=>Xx
 |b::r=>by
  have ih:=Fp z r;rw[List.map_cons,List.sum_cons,List.length_cons];split<;>lia
theorem M_{es:List En}(hn:∀(i:Nat) e,es[i]?=some e→e.number=((i+1:Nat):Int)∧e.left=false∧e.fd.worth=5):
  (es.filter fun e=>!e.left)=es∧((es.filter fun e=>!e.left).map uF).Nodup∧(qj (es.filter fun e=>!e.left).length (wB ph ((es.filter fun e=>!e.left).map uF))→MU (es.filter fun e=>!e.left).length (wB ph ((es.filter fun e=>!e.left).map uF)))∧es.Pairwise fun a b=>jw (uF a) (uF b)=true:=by
 have hf:(es.filter fun e=>!e.left)=es:=List.filter_eq_self.mpr fun e he=>by
  obtain⟨i,hi⟩:=List.mem_iff_getElem?.mp he;rw[(hn i e hi).2.1];rfl
 rw[hf];have lt:∀(i j:Nat) a b,i<j→es[i]?=some a→es[j]?=some b→jw (uF a) (uF b)=true:=fun i j a b xJ ha hb=>by
  obtain⟨a1,_,a3⟩:=hn i a ha;obtain⟨b1,_,b3⟩:=hn j b hb;unfold jw uF;simp only[a1,a3,b1,b3];simp
  lia
 have pw:es.Pairwise fun a b=>jw (uF a) (uF b)=true:=List.pairwise_iff_getElem.mpr fun i j hi hj xJ=>lt i j _ _ xJ (by simp[hi]) (by simp[hj])
 refine⟨rfl,List.pairwise_map.mpr (pw.imp fun{a b} h e=>by rw[e]at h;have:=vX h;rw[h]at this;cases this),fun L=>MV (fun i j xJ hj=>?_) L,pw⟩;have g:∀k,k<es.length→gd (List.toArray (List.range es.length)) k=k:=fun k hk=>by
  rw[iZ];simp[hk]
 rw[g i Nz,g j hj];show jw ((es.map uF).getD i (0,0)) ((es.map uF).getD j (0,0))=true;have e1:es[i]?=some es[i]:=Xx;have e2:es[j]?=some es[j]:=Xx;rw[List.getD_eq_getElem?_getD,List.getD_eq_getElem?_getD,List.getElem?_map,List.getElem?_map,e1,e2];exact lt i j _ _ xJ e1 e2
theorem Dk{es fs:List En}(p:fs.Perm es)(h1:fs.Pairwise fun a b=>jw (uF a) (uF b)=true)(h2:es.Pairwise fun a b=>jw (uF a) (uF b)=true):fs=es:=
 p.eq_of_pairwise (fun a b _ _ h h'=>by have:=vX h;rw[h']at this;cases this) h1 h2
end QF
namespace PySem.MeetsSeq
open PySem PyProof PySem.SeqAt
end PySem.MeetsSeq
namespace L2
open PySem PySem.Spec PyProof.Rows PySem.W PySem.Calls QF
section
variable{X:Cx}
end
end L2
namespace QF
open PySem L2
def takes(n:Str)(e:En):Bool:=decide (e.jH=n)||decide (e.j_=n)
abbrev sR(a:Addr):Option V:=some (.ref a)
abbrev sI(a:Int):Option V:=some (.int a)
abbrev sS(a:Str):Option V:=some (.str a)
end QF
namespace XS
open PySem L2 QF
def top(i:Nat):Stmt:=PySem.Challenge.pw_quotefind_k30_coming_refused.main.body.getD i (.Pass ⟨0,0,0,0⟩)
abbrev gW:Stmt:=top 44
abbrev n_:Stmt:=top 45
abbrev l0:Stmt:=top 65
abbrev jI:Stmt:=top 66
abbrev gX:Stmt:=top 67
abbrev iL:Stmt:=top 68
abbrev bY:Stmt:=inClass (top 69) 0
abbrev eQ:Stmt:=inClass (top 69) 1
abbrev l5:Stmt:=top 26
abbrev Fq:Stmt:=top 27
abbrev gw:Stmt:=top 28
abbrev eA:Stmt:=inClass (top 29) 1
abbrev fu:Stmt:=inClass (top 29) 0
abbrev iD:Stmt:=inClass (top 29) 2
abbrev eR:Stmt:=inClass (top 29) 4
abbrev dD:Stmt:=inClass (top 29) 3
abbrev fG:Stmt:=inClass (top 29) 5
abbrev i9:Stmt:=inClass (top 29) 6
abbrev gy:Stmt:=inClass (top 35) 0
abbrev pj:Stmt:=top 39
abbrev fH:Stmt:=top 36
abbrev gY:Stmt:=inClass (top 22) 0
abbrev jn:Stmt:=inClass (top 22) 1
abbrev fV:Stmt:=inClass (top 22) 2
abbrev fI:Stmt:=inClass (top 22) 3
abbrev iM:Stmt:=inClass (top 22) 4
abbrev fJ:Stmt:=inClass (top 23) 0
abbrev fW:Stmt:=inClass (top 23) 1
abbrev d5:Stmt:=inClass (top 23) 2
abbrev fv:Stmt:=inClass (top 23) 3
abbrev k8:Stmt:=top 24
abbrev oa:Stmt:=top 31
abbrev gf:Stmt:=top 32
abbrev gZ:Stmt:=top 37
abbrev l6:Stmt:=top 38
abbrev sY:Stmt:=top 40
abbrev bZ:Stmt:=inClass (top 2) 0
abbrev px:Stmt:=top 3
abbrev iN:Stmt:=top 46
abbrev i_:Stmt:=inClass (top 56) 0
abbrev l7:Stmt:=top 57
abbrev wO:Stmt:=top 58
abbrev sZ:Stmt:=top 59
abbrev gz:Stmt:=inClass (top 60) 0
abbrev gj:Stmt:=inClass (top 60) 5
abbrev ja:Stmt:=inClass (top 60) 7
abbrev eU:Stmt:=inClass (top 60) 10
abbrev fX:Stmt:=inClass (top 60) 11
abbrev eV:Stmt:=inClass (top 60) 2
abbrev g0:Stmt:=inClass (top 60) 1
abbrev s_:Stmt:=top 71
abbrev l8:Stmt:=top 72
abbrev nC:Stmt:=top 73
abbrev pz:Stmt:=top 74
abbrev l_:Stmt:=top 75
abbrev nE:Stmt:=top 76
abbrev k_:Stmt:=top 77
abbrev la:Stmt:=top 78
abbrev l':Stmt:=top 79
abbrev g6:Stmt:=top 80
abbrev nF:Stmt:=top 81
abbrev qz:Stmt:=top 82
section
variable{P:Program}{w:World}{K:W.Frag}{mg:Str→Option Value}{base:Heap}
variable{bB aI aL aZ a_ bL aM aN aD bx aJ bM bb bA bg aW aC aT aO aB aQ bH aE:Addr}
variable(T:TB mg)
theorem pA:aP ["sign"] ["sign"] (aw gW):=gL
include T in
theorem pB{f:Addr}{fd:FuncData}(F:lu K "is_small_letter" "is_small_letter" gW f fd):bE P w K mg base (de P w) true 1 f fd ["sign"] EB:=by
 refine F.gv pA Ζ gM
 ·obtain⟨i,rfl,_⟩:=h;rfl
 ·obtain⟨c,rfl,q⟩:=h;refine⟨_,(Xm (Γ (@lN _ _ _ _ _ _ _ (@fm _ _ _ _ _ _ _ _ y9 bh (pv 0) (br _)) (@mZ _ _ _ _ _ (@fm _ _ _ _ _ _ _ _ y9 (pv 0) bh (br _)))))),?_⟩;refine⟨_,rfl,_,_,rfl,rfl,_,rfl,?_⟩;have q:Q (.bl (decide (97≤c)&&decide (c≤122))) H:=q;rw[←Xn,←Xo]at q;refine bQ (fun h=>?_) (fun h=>?_)
  ·refine⟨_,rfl,_,_,rfl,rfl,?_⟩;rw[h,Bool.true_and]at q;exact q
  ·rw[Bool.not_eq_true]at h;rw[h,Bool.false_and]at q;exact q
variable(fK:Cs mg "WORD_MOST" (.int 12))
variable(fz:cG P w K mg base true 1 "is_small_letter" ["sign"] EB)
theorem Fs:aP ["text"] ["text"] (aw n_):=gL
include T fK fz in
theorem Ft{f:Addr}{fd:FuncData}(F:lu K "is_word" "is_word" n_ f fd):bE P w K mg base (de P w) true 2 f fd ["text"] zV:=by
 refine F.gv Fs Ζ gM
 ·obtain⟨i,rfl,_⟩:=h;rfl
 ·obtain⟨z,rfl,hz,q⟩:=h;refine⟨_,(xX (Ι (@PW.pt _ _ _ (@pw_or _ _ _ _ _ _ _ (Ν vE (γ jk T.dA (Ic (pv 0))) ar (br _)) (@pw_or1 _ _ _ _ (Ν m6 (γ jk T.dA (Ic (pv 0))) (ε fK) (br _))))) (Xm (Γ j1)) ba) (Xm (Γ (@aR _ _ _ _ _ _ _ _ _ (sj K rfl) (by exact rfl) T.Kc PyProof.Rows.Boot.«all» (Ic (@gi _ _ _ _ _ _ _ _ _ _ _ _ _ _ (by exact rfl) (show bK ["text"] (aw n_) _ ["sign"] [] []from DY) (@J3 _ _ _ _ (pv 0)) (fun _ _ _ _ _=>(Μ (0) (show(["sign"]:List Str).Nodup by decide+kernel))) (fun _ _ _ _ _=>fS) (fun _ _ _ _ _=>(Κ fz a9 (Ic (pv 0)))) (by intro _;rfl))) (QY) (QY) (OB) (OB))))),?_⟩;have Uw:z.length≤sizeLine:=Nat.le_trans hz Ε;refine⟨_,rfl,z,rfl,Uw,_,_,rfl,rfl,_,rfl,?_⟩;refine bQ (fun h=>?_) (fun h=>?_)
  ·have h:((z.length:Nat):Int)<1:=by simpa using h
   refine jD ?_;have e:gP z=false:=by
    have:¬1≤z.length:=by lia
    simp[gP,this]
   have q:=q H (av.refl H);rw[e]at q;exact q
  have h:¬((z.length:Nat):Int)<1:=by simpa using h
  refine⟨_,rfl,z,rfl,Uw,_,_,rfl,rfl,_,rfl,?_⟩;refine bQ (fun h2=>?_) (fun h2=>?_)
  ·have h2:(12:Int)<((z.length:Nat):Int):=by simpa using h2
   have e:gP z=false:=by
    have:¬z.length≤12:=by lia
    simp[gP,this]
   have q:=q H (av.refl H);rw[e]at q;exact q
  have h2:¬(12:Int)<((z.length:Nat):Int):=by simpa using h2
  have hl:z.length≤12:=by lia
  have e:gP z=z.cps.toList.all low:=by
   have h3:1≤z.length:=by lia
   simp[gP,h3,hl]
  refine⟨_,rfl,z,rfl,fun D hD=>?_⟩;refine J4 (fun i ys σ H'=>(∃v,σ=[v])∧ys=(z.cps.toList.take i).map (fun c=>V.bl (low c))∧H'=upd H D (.lst ys)) ⟨⟨_,rfl⟩,rfl,rfl⟩ ?_ ?_
  ·rintro i c ys σ H' hc ⟨⟨v,rfl⟩,hy,rfl⟩;refine kR ?_;refine⟨_,rfl,c,rfl,af,?_,⟨_,rfl⟩,?_,?_⟩
   ·rw[hy,List.length_map,List.length_take];exact Nat.lt_of_le_of_lt (Nat.min_le_left _ _) (Nat.lt_of_lt_of_le (Nat.lt_of_lt_of_le (Η hc).1 (by simpa[Str.length]using hl)) (QY))
   ·rw[hy,List.take_succ,hc];simp
   ·rw[d0]
  ·rintro ys σ H' ⟨_,hy,rfl⟩;have hy2:ys=(z.cps.toList.map low).map V.bl:=by
    rw[hy,List.take_of_length_le (by simp[Str.length])];simp
   rw[hy2];refine⟨D,z.cps.toList.map low,rfl,jT.of af,?_⟩;have q:=q _ (av.upd hD:av H (upd H D (.lst ((z.cps.toList.map low).map V.bl))));rw[e]at q;have e3:(z.cps.toList.map low).all id=z.cps.toList.all low:=by rw[List.all_map];rfl
   rw[←e3]at q;exact q
theorem xU:aP ["low","number","high"] ["low","number","high"] (aw l0):=gL
include T in
theorem xV{f:Addr}{fd:FuncData}(F:lu K "is_between" "is_between" l0 f fd):bE P w K mg base (de P w) true 1 f fd ["low","number","high"] o8:=by
 refine F.gv xU Ζ gM
 ·obtain⟨l,n,h,rfl,_⟩:=h;rfl
 ·obtain⟨l,n,h,rfl,q⟩:=h;refine⟨_,(Xm (Γ (@lN _ _ _ _ _ _ _ (@fm _ _ _ _ _ _ _ _ JA (pv 0) (pv 1) (br _)) (@mZ _ _ _ _ _ (@fm _ _ _ _ _ _ _ _ JA (pv 1) (pv 2) (br _)))))),?_⟩;refine⟨_,rfl,_,rfl,_,_,rfl,rfl,_,rfl,?_⟩;refine bQ (fun h1=>?_) (fun h1=>?_)
  ·refine⟨_,rfl,_,rfl,_,_,rfl,rfl,?_⟩;rw[h1,Bool.true_and]at q;exact q
  ·rw[Bool.not_eq_true]at h1;rw[h1,Bool.false_and]at q;exact q
variable(eW:cG P w K mg base true 1 "is_between" ["low","number","high"] o8)
variable(fL:Er K mg "BadTerms" aZ)
theorem uG:aP ["name","number","low","high"] ["name","number","low","high"] (aw jI):=gL
include T eW fL in
theorem uH{f:Addr}{fd:FuncData}(F:lu K "check_number" "check_number" jI f fd):bE P w K mg base (de P w) true 2 f fd ["name","number","low","high"] (sk aZ):=by
 refine F.gv uG Ζ gM
 ·obtain⟨nm,n,l,h,rfl,_⟩:=h;rfl
 ·obtain⟨nm,n,l,h,rfl,hn,hl,hh,q⟩:=h;refine⟨_,(Xm (Ι (@eO _ _ _ _ (@cZ _ _ _ (Κ eW a9 (R7 (pv 2) (R7 (pv 1) (Ic (pv 3))))) (by intro _;rfl))) (Xm (ο hX Α (by exact rfl) fL.m fL.e (Ic (@gI _ _ _ _ _ _ (@cy _ _ _ _ _ (@kQ _ _ _ _ (pv 0)) (@cy _ _ _ _ _ bh (@cy _ _ _ _ _ (@kQ _ _ _ _ (pv 2)) (@cy _ _ _ _ _ bh (@cy _ _ _ _ _ (@kQ _ _ _ _ (pv 3)) nc))))))))) ba)),?_⟩;refine⟨_,rfl,_,rfl,_,rfl,l,n,h,rfl,?_⟩;refine⟨_,rfl,?_⟩;refine bQ (fun h1=>?_) (fun h1=>?_)
  ·have h1:inR l n h=false:=(Bool.not_eq_true' _).mp h1;rw[h1]at q;have z1:=jE (i:=l) (by lia);have z2:=jE (i:=h) (by lia);have w1:(Str.ofString " lies between ").length=14:=by decide+kernel
   have w2:(Str.ofString " and ").length=5:=by decide+kernel
   have w3:=iz;refine⟨_,rfl, .inl ⟨nm,rfl,ay Nz,nm,rfl,ay ?_,_,rfl,ay ?_,_,rfl, .inr ⟨l,rfl,z1.1,_,rfl,ay ?_,_,rfl,ay ?_,_,rfl, .inr ⟨h,rfl,z2.1,_,rfl,ay ?_,ay ?_,dq,?_⟩⟩⟩⟩
   ·rw[len_app];lia
   ·rw[len_app,len_app];lia
   ·rw[len_app,len_app,len_app];lia
   ·rw[len_app,len_app,len_app,len_app];lia
   ·rw[len_app,len_app,len_app,len_app,len_app];lia
   ·rw[len_app,len_app,len_app,len_app,len_app];lia
   ·exact q
  ·have h1:inR l n h=true:=by
    have h1:¬(!(inR l n h))=true:=h1;simpa using h1
   rw[h1]at q;exact q
variable(cB:Cs mg "WORTH_MOST" (.int 999999))
variable(eD:cG P w K mg base true 2 "is_word" ["text"] zV)
variable(cf:Er K mg "BadNear" a_)
theorem pC:aP ["x","y","price"] ["x","y","price"] (aw gX):=gL
include T eW cB eD cf in
theorem pD{f:Addr}{fd:FuncData}(F:lu K "check_near_form" "check_near_form" gX f fd):bE P w K mg base (de P w) true 3 f fd ["x","y","price"] (zW a_):=by
 refine F.gv pC Ζ gM
 ·obtain⟨x,y,p,rfl,_⟩:=h;rfl
 ·obtain⟨x,y,p,rfl,hx,hy,q⟩:=h;have bad:lS x y p=false→∀H',av H H'→E (.ref a_) none H':=fun e=>by rw[e]at q;exact q
  have good:lS x y p=true→∀H',av H H'→Q .cF H':=fun e=>by rw[e]at q;exact q
  refine⟨_,(xX (Ι (@PW.pt _ _ _ (@pw_or _ _ _ _ _ _ _ (@eO _ _ _ _ (@cZ _ _ _ (Κ eD a9 (Ic (pv 0))) (by intro _;rfl))) (@pw_or1 _ _ _ _ (@eO _ _ _ _ (@cZ _ _ _ (Κ eD a9 (Ic (pv 1))) (by intro _;rfl)))))) (Xm (ο hX Α (by exact rfl) cf.m cf.e (Ic bh))) ba) (xX (Ι (Ν ij (pv 0) (pv 1) (br _)) (Xm (ο hX Α (by exact rfl) cf.m cf.e (Ic bh))) ba) (Xm (Ι (@eO _ _ _ _ (@cZ _ _ _ (Κ eW a9 (R7 ar (R7 (pv 2) (Ic (ε cB))))) (by intro _;rfl))) (Xm (ο hX Α (by exact rfl) cf.m cf.e (Ic (@gI _ _ _ _ _ _ (@cy _ _ _ _ _ bh (@cy _ _ _ _ _ (@kQ _ _ _ _ (ε cB)) nc)))))) ba)))),?_⟩;refine⟨_,rfl,x,rfl,hx,fun H1 s1=>⟨_,rfl,?_⟩⟩;refine bQ (fun h1=>?_) (fun h1=>?_)
  ·have h1:(!(gP x))=true:=h1;exact⟨dq,bad (by simp[lS,(Bool.not_eq_true' _).mp h1]) H1 s1⟩
  have h1:¬(!(gP x))=true:=h1;have h1:gP x=true:=by simpa using h1
  refine⟨_,rfl,y,rfl,hy,fun H2 s2=>⟨_,rfl,?_⟩⟩;have s2:=s1.trans s2;refine bQ (fun h2=>?_) (fun h2=>?_)
  ·have h2:(!(gP y))=true:=h2;exact⟨dq,bad (by simp[lS,(Bool.not_eq_true' _).mp h2]) H2 s2⟩
  have h2:¬(!(gP y))=true:=h2;have h2:gP y=true:=by simpa using h2
  refine⟨_,rfl,_,rfl,rfl,_,rfl,?_⟩;refine bQ (fun h3=>?_) (fun h3=>?_)
  ·have h3:x=y:=by simpa using h3
   exact⟨dq,bad (by simp[lS,h3]) H2 s2⟩
  have h3:¬x=y:=by simpa using h3
  refine⟨_,rfl,0,p,999999,rfl,_,rfl,?_⟩;refine bQ (fun h4=>?_) (fun h4=>?_)
  ·have h4:(!(inR 0 p 999999))=true:=h4;have z1:=jE (i:=999999) (by lia);have w1:(Str.ofString "the price of a near form lies between 0 and ").length=44:=by decide+kernel
   have w3:=iz;refine⟨_,rfl,ay ?_, .inr ⟨999999,rfl,z1.1,_,rfl,ay ?_,ay ?_,dq,?_⟩⟩
   ·rw[len_app];lia
   ·rw[len_app,len_app];lia
   ·rw[len_app,len_app];lia
   ·exact bad (by simp[lS,(Bool.not_eq_true' _).mp h4]) H2 s2
  ·have h4:¬(!(inR 0 p 999999))=true:=h4;have h4:inR 0 p 999999=true:=by simpa using h4
   exact good (by simp[lS,h1,h2,h3,h4]) H2 s2
variable(i6:Cs mg "NEAR_MOST" (.int 60))
variable(fA:cG P w K mg base true 3 "check_near_form" ["x","y","price"] (zW a_))
theorem fM:aP ["near","prices","x","y","price"] ["near"] (aw iL):=gL
include T cf i6 fA in
theorem wQ{f:Addr}{fd:FuncData}(F:lu K "near_prices" "near_prices" iL f fd):bE P w K mg base (de P w) true 4 f fd ["near"] (so a_):=by
 refine F.gv fM Ζ gM
 ·obtain⟨a,xs,fs,rfl,_⟩:=h;rfl
 ·obtain⟨a,xs,fs,rfl,ha,ht,SI,q⟩:=h;have bad:gc fs=false→∀H',av H H'→E (.ref a_) none H':=fun e=>by rw[e]at q;exact q
  have good:gc fs=true→∀H' d,av H H'→H d=none→H' d=some (.dT (fs.map nj))→Q (.ref d) H':=fun e=>by rw[e]at q;exact q
  have hu:=hr.units;have hu:(A.deeper (PyProof.Rows.envOfC "near_prices" (aw iL) s.heap.objs.size f iy)).units+1<cLine:=by lia
  refine⟨_,(xX (Ι (Ν m6 (γ (aV K) T.dA (Ic (pv 0))) (ε i6) (br _)) (Xm (ο hX Α (by exact rfl) cf.m cf.e (Ic (@gI _ _ _ _ _ _ (@cy _ _ _ _ _ bh (@cy _ _ _ _ _ (@kQ _ _ _ _ (ε i6)) (@cy _ _ _ _ _ bh nc))))))) ba) (xX (Zr (1) fM.nd m7) (xX (@dU _ _ _ _ _ _ _ _ hX.own Α (@cx _ K _ _ _ (pv 0) (OB)) (@lR _ K _ _ _ (3) _ (by exact rfl) (@cQ _ _ _ _ _ (Μ (2) fM.nd) (@cQ _ _ _ _ _ (Μ (3) fM.nd) (@cQ _ _ _ _ _ (Μ (4) fM.nd) j4 (OB)) (OB)) (OB)) (OB) (OB) (OB)) (xX (Χ (Κ fA hX.pass (R7 (pv 2) (R7 (pv 3) (Ic (pv 4)))))) (xX (Ι (ρ (@vI _ _ _ _ _ hu (@iw _ _ _ _ _ (R7 (pv 2) (Ic (pv 3)))) (pv 1))) (Xm (ο hX Α (by exact rfl) cf.m cf.e (Ic bh))) ba) (Xm (@nX _ _ _ _ _ _ _ _ _ hu (pv 1) (@iw _ _ _ _ _ (R7 (pv 2) (Ic (pv 3)))) (pv 4) (by exact rfl))))) (by intro _;rfl)) (Xm (Γ (pv 1)))))),?_⟩;refine⟨_,rfl,a,_,rfl, .inl (.of ha),_,_,rfl,rfl,_,rfl,?_⟩;refine bQ (fun h1=>?_) (fun h1=>?_)
  ·have h1:(60:Int)<(xs.length:Int):=by simpa using h1
   rw[ht.1]at h1;have z1:=jE (i:=60) (by lia);have w1:(Str.ofString "there are at most ").length=18:=by decide+kernel
   have w2:(Str.ofString " near forms").length=11:=by decide+kernel
   have w3:=iz;refine⟨_,rfl,ay ?_, .inr ⟨60,rfl,z1.1,_,rfl,ay ?_,_,rfl,ay ?_,ay ?_,dq,?_⟩⟩
   ·rw[len_app];lia
   ·rw[len_app,len_app];lia
   ·rw[len_app,len_app,len_app];lia
   ·rw[len_app,len_app,len_app];lia
   ·exact bad (by have:¬fs.length≤60:=(by lia);simp[gc,this]) H (.refl H)
  have h1:¬(60:Int)<(xs.length:Int):=by simpa using h1
  rw[ht.1]at h1;refine fun d hd=>?_
  have had:H a≠none:=by rw[ha];intro z;cases z
  have gO:a≠d:=aG ha hd;refine⟨_,rfl,a,rfl,⟨xs, .of (by rw[aj gO];exact ha)⟩,?_⟩;refine gQ (xs:=xs) (fun i σ H'=>(∃u v w,σ=[sR a,sR d,u,v,w])∧H' d=some (.dT ((fs.take i).map nj))∧av H H'∧((fs.take i).all PM=true)∧((fs.take i).map ow).Nodup) ?_ ?_ ?_ ?_
  ·exact⟨⟨_,_,_,rfl⟩,af,av.upd hd,rfl, .nil⟩
  ·rintro i σ H' hi ⟨_,_,s1,_⟩;exact .of (s1 _ _ ha)
  ·rintro i x σ H' hx ⟨⟨u,v,w,rfl⟩,hD,s1,cC,Ii⟩;have hi:i<fs.length:=by rw[←ht.1];exact(Η hx).1
   have hf:fs[i]?=some fs[i]:=by simp[hi]
   generalize fs[i]=f0 at hf;obtain⟨t,Ob,K9⟩:=ht.2 i f0 hf;rw[hx]at Ob;cases Ob;obtain⟨x,y,p⟩:=f0;have hm:(x,y,p)∈fs:=Ψ hf;obtain⟨mT,VY⟩:=SI.2 _ hm;refine⟨t,_,rfl, .of (s1 _ _ K9),rfl,_,_,rfl,_,_,rfl,_,_,rfl,rfl,?_⟩;refine⟨_,rfl,_,rfl,_,rfl,x,y,p,rfl,mT,VY,?_⟩;refine bQ (fun h2=>?_) (fun h2=>?_)
   rotate_left
   ·have h2:PM (x,y,p)=false:=by simpa[PM]using h2
    exact fun H2 s2=>bad (Ke hf h2) H2 (s1.trans s2)
   have h2:PM (x,y,p)=true:=h2;intro H2 s2;have VZ:=s1.trans s2;have mP:=s2 _ _ hD;refine⟨_,rfl,_,rfl,ay XD,fun p1 Oc=>?_⟩;have n1:d≠p1:=aG mP Oc;refine⟨_,rfl,d,_,rfl, .t (k:=ow (x,y,p)) (by rw[aj n1];exact mP) af,_,rfl,?_⟩;refine bQ (fun h3=>?_) (fun h3=>?_)
   ·obtain⟨v3,h3⟩:=Option.isSome_iff_exists.mp h3;exact⟨dq,bad (HA hf (PN h3)) _ (VZ.eP (VZ.free Oc))⟩
   have h3:b_ ((fs.take i).map nj) (ow (x,y,p))=none:=by simpa using h3
   have s3:av H (upd H2 p1 (.tup [.str x, .str y])):=VZ.eP (VZ.free Oc);refine⟨_,rfl,_,rfl,_,rfl,_,rfl,ay XD,fun p2 JH=>?_⟩;have Ij:upd H2 p1 (.tup [.str x, .str y]) d=some (.dT ((fs.take i).map nj)):=by rw[aj n1];exact mP
   have n2:d≠p2:=aG Ij JH;have hlen:((fs.take i).map nj).length<sizeLine:=bR (by rw[List.length_map,List.length_take];lia);refine⟨d,_,rfl, .t (k:=ow (x,y,p)) (by rw[aj n2];exact Ij) af hlen,?_⟩;refine⟨⟨_,_,_,rfl⟩,?_,?_,?_,?_⟩
   ·rw[af,vF _ h3,HB hf];rfl
   ·exact(s3.eP (s3.free JH)).eP hd
   ·rw[List.take_succ,hf,List.all_append,cC];simp[h2]
   ·rw[List.take_succ,hf,List.map_append];have:=Tg h3;refine List.nodup_append.mpr ⟨Ii,Xx,?_⟩;intro a1 Qt b1 rZ e;have rZ:b1=ow (x,y,p):=by simpa using rZ
    rw[e,rZ]at Qt;exact this Qt
  ·rintro σ H' ⟨⟨u,v,w,rfl⟩,hD,s1,cC,Ii⟩;rw[ht.1,List.take_length]at hD cC Ii;refine⟨_,rfl,good ?_ H' d s1 hd hD⟩;have:fs.length≤60:=by lia
   simp[gc,this,cC,Ii]
variable(ka:Cs mg "PART_MOST" (.int 100))
variable(cS:cG P w K mg base true 2 "check_number" ["name","number","low","high"] (sk aZ))
variable(iO:cG P w K mg base true 4 "near_prices" ["near"] (so a_))
variable(Tc:Kf K aW)
theorem qA:aP ["self","same","out","into","least","part","near"] ["self","same","out","into","least","part","near"] (aw bY):=gL
include T cB ka cS iO Tc in
theorem qB{f:Addr}{fd:FuncData}(F:fT K "__init__" "Terms.__init__" bY f fd):bE P w K mg base (de P w) true 5 f fd ["self","same","out","into","least","part","near"] (vj aW aZ a_):=by
 refine F.gv qA Ζ gM
 ·obtain⟨x,dx,n,nv,xs,fs,rfl,_⟩:=h;rfl
 ·obtain⟨x,dx,n,nv,xs,fs,rfl,hx,GA,hnv,SI,q⟩:=h;have bad:kT n=false→E (.ref aZ) none H:=fun e=>by rw[e]at q;exact q H .refl
  refine⟨_,(xX (Χ (Κ cS hX.pass (R7 bh (R7 (pv 1) (R7 ar (Ic (ε cB))))))) (xX (Χ (Κ cS hX.pass (R7 bh (R7 (pv 2) (R7 ar (Ic (ε cB))))))) (xX (Χ (Κ cS hX.pass (R7 bh (R7 (pv 3) (R7 ar (Ic (ε cB))))))) (xX (Χ (Κ cS hX.pass (R7 bh (R7 (pv 4) (R7 ar (Ic (ε cB))))))) (xX (Χ (Κ cS hX.pass (R7 bh (R7 (pv 5) (R7 ar (Ic (ε ka))))))) (xX (Υ K (pv 0) (pv 1)) (xX (Υ K (pv 0) (pv 2)) (xX (Υ K (pv 0) (pv 3)) (xX (Υ K (pv 0) (pv 4)) (xX (Υ K (pv 0) (pv 5)) (Zq (Υ K (pv 0) (@m3 _ _ _ _ _ _ _ _ (ρ (@r6 _ _ _ _ _ (pv 6))) (@bV _ _ _ _ ai) (@gG _ _ _ _ _ _ _ _ _ (fb K) (by exact rfl) T.ni PyProof.Rows.Boot.«list» (Ic (pv 6)) (QY) (QY) (OB) (OB)))) (Xm (Υ K (pv 0) (Κ iO hX.pass (Ic (Β K)))))))))))))))),?_⟩;refine⟨_,rfl,"same",n.same,1,999999,rfl,by decide+kernel,by lia,by lia,?_⟩;refine bQ (fun h1=>?_) (fun h1=>bad (by simp[kT,h1]));refine⟨_,rfl,"out",n.out,0,999999,rfl,by decide+kernel,by lia,by lia,?_⟩;refine bQ (fun h2=>?_) (fun h2=>bad (by simp[kT,h2]));refine⟨_,rfl,"into",n.into,0,999999,rfl,by decide+kernel,by lia,by lia,?_⟩;refine bQ (fun h3=>?_) (fun h3=>bad (by simp[kT,h3]));refine⟨_,rfl,"least",n.least,1,999999,rfl,by decide+kernel,by lia,by lia,?_⟩;refine bQ (fun h4=>?_) (fun h4=>bad (by simp[kT,h4]));refine⟨_,rfl,"part",n.part,1,100,rfl,by decide+kernel,by lia,by lia,?_⟩;refine bQ (fun h5=>?_) (fun h5=>bad (by simp[kT,h5]));have cC:kT n=true:=by simp[kT,h1,h2,h3,h4,h5]
  rw[cC]at q;have hl:∀k:Nat,k<10→k<1000:=fun k h=>by lia
  refine⟨_,rfl,_,rfl,x,aW,dx,_,rfl,hx,Tc.cl,Tc.same,QY,?_⟩;refine⟨_,rfl,_,rfl,x,aW,dx,_,rfl,af,Tc.cl,Tc.out,?_,?_⟩
  ·exact hl _ (by have:=aU "same" (.int n.same) [];simp at this;lia)
  refine⟨_,rfl,_,rfl,x,aW,dx,_,rfl,af,Tc.cl,Tc.into,?_,?_⟩
  ·exact hl _ (Nat.lt_of_le_of_lt (aU _ _ _) (by have:=aU "same" (.int n.same) [];simp at this;lia))
  refine⟨_,rfl,_,rfl,x,aW,dx,_,rfl,af,Tc.cl,Tc.least,?_,?_⟩
  ·show([("same", .int n.same),("out", .int n.out),("into", .int n.into)]:List (Str×V)).length<1000;simp
  refine⟨_,rfl,_,rfl,x,aW,dx,_,rfl,af,Tc.cl,Tc.part,?_,?_⟩
  ·show([("same", .int n.same),("out", .int n.out),("into", .int n.into),("least", .int n.least)]:List (Str×V)).length<1000;simp
  rw[d0,d0,d0,d0,Xq];have b5:SameBut x H (upd H x (.ins aW dx (oO n))):=SameBut.refl.upd;refine⟨fun σ H'=>σ=[sR x,sI n.same,sI n.out,sI n.into,sI n.least,sI n.part,some nv]∧∃l,H' x=some (.ins aW dx (bq "near" (.ref l) (oO n)))∧SameBut x H H'∧H' l=some (.lst xs)∧mK H' xs fs∧H l=none,?_,?_⟩
  ·refine⟨_,rfl,_,rfl,?_⟩;rcases hnv with⟨rfl,rfl,rfl⟩|⟨a,rfl,ha,V1⟩
   ·refine jD ?_;refine⟨ay XD,fun l G8=>?_⟩;have n1:x≠l:=aG af G8;refine⟨_,rfl,x,aW,dx,_,rfl,by rw[aj n1,af],Tc.cl,Tc.near,by simp[oO],rfl,l,af,?_,?_, .nil,?_⟩
    ·exact(b5.laid (b5.free af G8)).upd
    ·rw[aj (Ne.symm n1),af]
    ·exact b5.free af G8
   ·refine bQ (fun hh=>absurd hh XD) (fun _=>?_);have n0:a≠x:=jA ha hx (by intro z;cases z);refine⟨_,rfl,a,xs,rfl, .inl (.of (by rw[aj n0];exact ha)),fun l G8=>?_⟩;have n1:x≠l:=aG af G8;have b6:SameBut x H (upd (upd H x (.ins aW dx (oO n))) l (.lst xs)):=b5.laid (b5.free af G8);refine⟨_,rfl,x,aW,dx,_,rfl,by rw[aj n1,af],Tc.cl,Tc.near,by simp[oO],rfl,l,af,b6.upd,?_,?_,?_⟩
    ·rw[aj (Ne.symm n1),af]
    ·exact V1.but b6.upd hx
    ·exact b5.free af G8
  ·rintro σ H' ⟨rfl,l,Rr,sb,XT,V1,hln⟩;refine⟨_,rfl,x,aW,dx,_,_,rfl,Rr,Tc.cl,Tc.near,Ti n l,l,xs,fs,rfl,XT,V1,SI,?_⟩;refine bQ (fun h6=>?_) (fun h6=>?_)
   ·rw[if_pos rfl,VH h6]at q;intro H2 d s2 hd hD;have b2:=sb.same s2;have hdn:=sb.free Rr hd;refine⟨_,rfl,x,aW,dx,_,rfl,s2 _ _ Rr,Tc.cl,Tc.Kg,?_,?_⟩
    ·have:=aU "near" (.ref l) (oO n);have e5:(oO n).length=5:=rfl;exact hl _ (by lia)
    ·have nl:l≠x:=jA XT Rr (by intro z;cases z);have nd:d≠x:=jA hD (s2 _ _ Rr) (by intro z;cases z);have ZV:dx≠x:=jA GA hx (by intro z;cases z);refine q _ l d b2.upd ⟨?_,?_,?_,?_,?_⟩ hln hdn
     ·rw[af,Xr]
     ·rw[aj ZV];exact b2 _ _ ZV GA
     ·rw[aj nl];exact s2 _ _ XT
     ·exact V1.but (SameBut.upd (fun b u n e=>s2 b u e)) Rr
     ·rw[aj nd];exact hD
   ·rw[if_pos rfl,M9 h6]at q;exact fun H2 s2=>q H2 (sb.same s2)
theorem ji:aP ["self","x","y","price"] ["self","x","y"] (aw eQ):=gL
include T Tc in
theorem oz{f:Addr}{fd:FuncData}(F:fT K "pair_worth" "Terms.pair_worth" eQ f fd):bE P w K mg base (de P w) true 1 f fd ["self","x","y"] (z9 aW):=by
 refine F.gv ji Ζ gM
 ·obtain⟨t,x,y,n,fs,dx,l,d,xs,rfl,_⟩:=h;rfl
 ·obtain⟨t,x,y,n,fs,dx,l,d,xs,rfl,T1,q⟩:=h;have hu:=hr.units;have hu:(A.deeper (PyProof.Rows.envOfC "Terms.pair_worth" (aw eQ) s.heap.objs.size f iy)).units+1<cLine:=by lia
  refine⟨_,(xX (Ι (Ν ij (pv 1) (pv 2) (br _)) (Xm (Γ (Β K))) ba) (xX (Zr (3) ji.nd (@JK _ _ _ _ _ _ _ hu (Β K) (@iw _ _ _ _ _ (R7 (pv 1) (Ic (pv 2)))) ⟨rfl,rfl,rfl,rfl⟩)) (xX (Ι (ρ (@r6 _ _ _ _ _ (pv 3))) (Xm (Γ lM)) ba) (Xm (Γ (yt iu (Β K) (pv 3))))))),?_⟩;refine⟨_,rfl,_,rfl,rfl,_,rfl,?_⟩;refine bQ (fun h=>?_) (fun h=>?_)
  ·have h:x=y:=by simpa using h
   have q:=q H (.refl H);rw[show nk n.same fs x y=some n.same by simp[nk,h]]at q;exact⟨_,rfl,t,aW,dx,_,_,rfl,T1.ob,Tc.cl,Tc.same,Ki n l d,q⟩
  have h:¬x=y:=by simpa using h
  refine⟨_,rfl,t,aW,dx,_,_,rfl,T1.ob,Tc.cl,Tc.Kg,Kj n l d,d,rfl, .inr ⟨_, .inl T1.di⟩,_,rfl,_,rfl,ay XD,fun p hp=>?_⟩;have nd:d≠p:=aG T1.di hp;have q:=q _ (av.upd (o:= .tup [.str x, .str y]) hp);refine⟨_, .t (k:=[.inr x, .inr y]) (by rw[aj nd];exact T1.di) af,?_⟩;rw[za];have T2:lT (upd H p (.tup [.str x, .str y])) aW t n fs dx l d xs:=⟨av.upd hp _ _ T1.ob,av.upd hp _ _ T1.own,av.upd hp _ _ T1.li,T1.tr.same (av.upd hp),av.upd hp _ _ T1.di⟩
  cases e:qg fs x y with
  |none=>
   rw[show nk n.same fs x y=none by simp[nk,h,e]]at q;refine⟨_,rfl,_,rfl,?_⟩;exact jD q
  |some v=>
   rw[show nk n.same fs x y=some (n.same-v) by simp[nk,h,e]]at q;refine⟨_,rfl,_,rfl,?_⟩;refine bQ (fun hh=>absurd hh XD) (fun _=>?_);exact⟨_,rfl,t,aW,dx,_,_,rfl,T2.ob,Tc.cl,Tc.same,Ki n l d,_,rfl,_,_,rfl,rfl,q⟩
theorem Dm:aP ["numbers"] ["numbers"] (aw l5):=gL
include T in
theorem Dn{f:Addr}{fd:FuncData}(F:lu K "greatest" "greatest" l5 f fd):bE P w K mg base (de P w) true 1 f fd ["numbers"] nr:=by
 refine F.gv Dm Ζ gM
 ·obtain⟨a,os,rfl,_⟩:=h;rfl
 ·obtain⟨a,os,rfl,ha,hl,q⟩:=h;refine⟨_,(Xm (Γ (@Mw _ K _ _ _ _ _ _ _ (by exact rfl) (by exact rfl) T.Tf (@gi _ _ _ _ _ _ _ _ _ _ _ _ _ _ (by exact rfl) (show bK ["numbers"] (aw l5) _ ["number"] [] []from DY) (@cx _ K _ _ _ (pv 0) (OB)) (fun _ _ _ _ _=>(Μ (0) (show(["number"]:List Str).Nodup by decide+kernel))) (fun _ _ _ _ _=>(@zR _ _ _ (ρ (@zA _ _ _ _ _ (pv 0))))) (fun _ _ _ _ _=>(pv 0)) (by intro _;rfl)) (OB) (OB)))),?_⟩;refine⟨_,rfl,a,rfl,⟨_, .of ha⟩,fun D hD=>?_⟩;refine d8 (xs:=os.map cA) (fun i ys bG H'=>(∃u,bG=[u])∧ys=((os.take i).filterMap id).map V.int∧H' D=some (.lst ys)∧av H H') ⟨⟨_,rfl⟩,rfl,af,av.upd hD⟩ ?_ ?_ ?_
  ·rintro i ys bG H' _ ⟨_,_,_,s1⟩;exact .of (s1 _ _ ha)
  ·rintro i x ys bG H' hx ⟨⟨u,rfl⟩,rfl,Cg,s1⟩;have hi:i<os.length:=by have:=(Η hx).1;simpa using this
   have ho:os[i]?=some os[i]:=by simp[hi]
   generalize os[i]=o at ho;have ex:x=cA o:=by
    rw[List.getElem?_map,ho]at hx;exact(Ρ hx).symm
   subst ex;have jv:(((os.take i).filterMap id).map V.int).length<sizeLine:=bR (by
    have:=List.length_filterMap_le id (os.take i);rw[List.length_take]at this;rw[List.length_map]
    lia)
   have e1:os.take (i+1)=os.take i++[o]:=by rw[List.take_succ,ho];rfl
   refine⟨_,rfl,_,rfl,?_⟩;cases o with
   |none=>
    refine bQ (fun hh=>absurd hh (by simp[cA])) (fun _=>?_);exact⟨⟨_,rfl⟩,by rw[e1];simp,Cg,s1⟩
   |some v=>
    refine bQ (fun _=>?_) (fun hh=>absurd (by simp[cA]) hh);exact⟨_,rfl,Cg,jv,⟨_,rfl⟩,by rw[e1];simp[cA],af,s1.eP hD⟩
  ·rintro ys bG H' ⟨_,rfl,Cg,s1⟩;rw[List.length_map,List.take_length]at Cg;refine⟨D,os.filterMap id,rfl, .of Cg,?_⟩;rw[My];exact q H' s1
theorem Na:aP ["number","price"] ["number","price"] (aw Fq):=gL
include T in
theorem Nb{f:Addr}{fd:FuncData}(F:lu K "less" "less" Fq f fd):bE P w K mg base (de P w) true 1 f fd ["number","price"] Af:=by
 refine F.gv Na Ζ gM
 ·obtain⟨o,p,rfl,_⟩:=h;rfl
 ·obtain⟨o,p,rfl,q⟩:=h;refine⟨_,(Xm (Γ (@m3 _ _ _ _ _ _ _ _ (ρ (@r6 _ _ _ _ _ (pv 0))) lM (yt iu (pv 0) (pv 1))))),?_⟩;refine⟨_,rfl,_,rfl,?_⟩;cases o with
  |none=>
   refine jD ?_;exact q
  |some v=>
   refine bQ (fun hh=>absurd hh (by simp[cA])) (fun _=>?_);exact⟨_,rfl,_,rfl,_,_,rfl,rfl,q⟩
theorem oA:aP ["worth","brought"] ["worth","brought"] (aw gw):=gL
include T in
theorem oB{f:Addr}{fd:FuncData}(F:lu K "begun_or_gone_on" "begun_or_gone_on" gw f fd):bE P w K mg base (de P w) true 1 f fd ["worth","brought"] EK:=by
 refine F.gv oA Ζ gM
 ·obtain⟨w,b,rfl,_⟩:=h;rfl
 ·obtain⟨w,b,rfl,q⟩:=h;refine⟨_,(xX (Ι (ρ (@r6 _ _ _ _ _ (pv 0))) (Xm (Γ lM)) ba) (xX (Ι (@PW.pt _ _ _ (@pw_or _ _ _ _ _ _ _ (ρ (@r6 _ _ _ _ _ (pv 1))) (@pw_or1 _ _ _ _ (Ν vE (pv 1) ar (br _))))) (Xm (Γ (pv 0))) ba) (Xm (Γ (yt dW (pv 0) (pv 1)))))),?_⟩;refine⟨_,rfl,_,rfl,?_⟩;cases w with
  |none=>
   refine jD ?_;exact q
  |some w=>
   refine bQ (fun hh=>absurd hh (by simp[cA])) (fun _=>?_);refine⟨_,rfl,_,rfl,?_⟩;cases b with
   |none=>
    refine jD ?_;refine jD ?_;exact⟨_,rfl,q⟩
   |some b=>
    refine bQ (fun hh=>absurd hh (by simp[cA])) (fun _=>?_);refine⟨_,rfl,_,_,rfl,rfl,_,rfl,?_⟩;refine bQ (fun hh=>?_) (fun hh=>?_)
    ·have hh:b<0:=by simpa using hh
     simp only[Mx,hh,if_true]at q;exact⟨_,rfl,q⟩
    ·have hh:¬b<0:=by simpa using hh
     simp only[Mx,hh,if_false]at q;exact⟨_,rfl,_,rfl,_,_,rfl,rfl,q⟩
variable(fN:cG P w K mg base true 1 "greatest" ["numbers"] nr)
variable(ma:cG P w K mg base true 1 "less" ["number","price"] Af)
variable(Rc:GF K aC)
theorem cN:aP ["self","ended","above","row","j","worth"] ["self","ended","above"] (aw eA):=gL
include T fN ma Rc in
theorem lb{f:Addr}{fd:FuncData}(F:fT K "brought_behind" "Trails.brought_behind" eA f fd):bE P w K mg base (de P w) true 2 f fd ["self","ended","above"] (sx aC):=by
 refine F.gv cN Ζ gM
 ·obtain⟨x,e,a,dx,te,tb,o,p,m,f,g,rfl,_⟩:=h;rfl
 ·obtain⟨x,e,a,dx,te,tb,o,p,m,f1,g,rfl,hx,he,ha,hm,q⟩:=h;refine⟨_,(xX (Zr (3) cN.nd (@bV _ _ _ _ (Ic lM))) (xX (@dU _ _ _ _ _ _ _ _ hX.own Α (@qh _ K _ _ _ _ _ _ _ (by exact rfl) T.j6 (Ic (pv 1)) (OB) (OB)) (@lR _ K _ _ _ (2) _ (by exact rfl) (@cQ _ _ _ _ _ (Μ (4) cN.nd) (@cQ _ _ _ _ _ (Μ (5) cN.nd) j4 (OB)) (OB)) (OB) (OB) (OB)) (Xm (Χ (ν K PySem.F.plainAttrs_list PySem.F.slot_list_append PySem.F.type_list_append dF (pv 3) (Ic (Κ fN a9 (Ic (@bV _ _ _ _ (R7 (pv 5) (R7 (Κ ma a9 (R7 (zU (aH K) (pv 2) (yt dW (pv 4) ar)) (Ic (Β K)))) (Ic (Κ ma a9 (R7 (zU (aH K) (pv 3) (pv 4)) (Ic (Β K)))))))))))))) (by intro _;rfl)) (Xm (Γ (pv 3))))),?_⟩;refine⟨ay XD,fun r Jj=>?_⟩;refine⟨_,rfl,e,rfl,⟨_, .of (av.upd Jj _ _ he)⟩,?_⟩;have hl:=dM m f1;refine CK (xs:=dJ m f1) (fun i σ H'=>(∃u v,σ=[sR x,sR e,sR a,sR r,u,v])∧av H H'∧H' r=some (.lst (dJ (i+1) (uD f1 g o p)))) ?_ ?_ ?_ ?_
  ·exact⟨⟨_,_,rfl⟩,av.upd Jj,by rw[af];simp[dJ,uD,cA,List.range_succ]⟩
  ·rintro i σ H' _ ⟨_,s1,_⟩;exact .of (s1 _ _ he)
  ·rintro i v T' σ H' hv ⟨⟨u,u2,rfl⟩,s1,xM⟩ hT;have hi:i<m:=by have:=(Η hv).1;lia
   rw[dN hi]at hv;cases hv;have s2:av H (upd H' T' (.tup [.int i,cA (f1 i)])):=s1.trans (av.upd hT);have AB:=av.upd (o:= .tup [.int i,cA (f1 i)]) hT _ _ xM;refine⟨T',_,rfl, .of af,rfl,_,_,rfl,_,_,rfl,rfl,?_⟩;generalize upd H' T' (.tup [.int i,cA (f1 i)])=H2 at s2 AB;have at1:xI (dJ (m+1) g) ((i:Int)+1)=some (cA (g (i+1))):=by
    have:((i:Int)+1)=((i+1:Nat):Int):=by lia
    rw[this];exact aS (dN Nz)
   have at2:xI (dJ (i+1) (uD f1 g o p)) (i:Int)=some (cA (uD f1 g o p i)):=aS (dN Nz);refine⟨_,rfl, .inl ⟨rfl,_, .of AB⟩,_,rfl,_,rfl,_,rfl,_,_,rfl,rfl,a,_,_,_,rfl,rfl, .of (s2 _ _ ha),at1,_,rfl,x,aC,dx,_,_,rfl,s2 _ _ hx,Rc.cl,Rc.out,NR o p te tb,g (i+1),o,rfl,_,rfl,_,rfl,r,_,_,_,rfl,rfl, .of AB,at2,_,rfl,x,aC,dx,_,_,rfl,s2 _ _ hx,Rc.cl,Rc.into,Ks o p te tb,uD f1 g o p i,p,rfl,ay XD,fun L hL=>⟨L,[f1 i,cc (g (i+1)) o,cc (uD f1 g o p i) p],rfl,af,Xx,fun H3 s3=>?_⟩⟩;have s4:=(av.upd (o:= .lst [cA (f1 i),cA (cc (g (i+1)) o),cA (cc (uD f1 g o p i) p)]) hL).trans s3;exact⟨r,_,_,rfl,rfl,s4 _ _ AB,bR (by rw[dM];lia),⟨_,_,rfl⟩,(s2.trans s4).eP Jj,by rw[af,su (i+1)];rfl⟩
  ·rintro σ H' ⟨⟨u,v,rfl⟩,s1,xM⟩;rw[hl]at xM;exact⟨_,rfl,q H' r s1 Jj xM⟩
variable(eX:cG P w K mg base true 1 "begun_or_gone_on" ["worth","brought"] EK)
variable(cU:c6 P w K mg base true 2 aC "brought_behind" ["self","ended","above"] (sx aC))
theorem du:aP ["self","worths","terms","width","row","above","ended"] ["self","worths","terms"] (aw fu):=gL
include T Tc Rc eX cU in
theorem pE{f:Addr}{fd:FuncData}(F:fT K "__init__" "Trails.__init__" fu f fd):bE P w K mg base (de P w) true 4 f fd ["self","worths","terms"] (sJ aC aW):=by
 refine F.gv du Ζ gM
 ·obtain⟨x,dx,w,t,c,as,f,n,m,rfl,_⟩:=h;rfl
 ·obtain⟨x,dx,w,t,c,as,f1,n,m,rfl,hx,GA,hw,TA,TF,hn,hm,q⟩:=h;obtain⟨nu,dt,l,d,vs,T1,e1,e2,e3,e4⟩:=TF;have XU:w≠x:=jA hw hx (by intro z;cases z);have nxt:t≠x:=fun z=>by
   have h1:=T1.ob;rw[z,hx]at h1;have h2:=congrArg (fun o=>match o with|some (HO.ins _ _ fs)=>fs.length| _=>0) h1;simp[zX]at h2
  refine⟨_,(Zq (Υ K (pv 0) (μ K (pv 2))) (Zq (Υ K (pv 0) (μ K (pv 2))) (Zq (Zr (3) du.nd (@m3 _ _ _ _ _ _ _ _ (Ν m6 (γ (aV K) T.dA (Ic (pv 1))) ar (br _)) (γ (aV K) T.dA (Ic (zU (aH K) (pv 1) ar))) ar)) (Zq (Υ K (pv 0) (@bV _ _ _ _ ai)) (Zq (Υ K (pv 0) (@bV _ _ _ _ (Ic (yt JR (@bV _ _ _ _ (Ic lM)) (yt dW (pv 3) ar))))) (Xm (@dU _ _ _ _ _ _ _ _ hX.own Α (@cx _ K _ _ _ (pv 1) (OB)) (Μ (4) du.nd) (Zq (@aK _ _ (5) _ _ _ _ du.nd Α (Or.inr rfl) (zU (aH K) (Β K) (@oN _ _ _ _ _ _ kN ar)) (OB) (by exact .inl rfl)) (Zq (@vi _ _ _ _ _ _ _ _ _ _ _ _ _ _ _ (6) _ _ (by exact rfl) du.nd Α (by exact rfl) (show bK ["self","worths","terms","width","row","above","ended"] (aw fu) _ ["j","worth"] [5] ["above"]from DY) (@qh _ K _ _ _ _ _ _ _ (by exact rfl) T.j6 (Ic (pv 4)) (OB) (OB)) (fun _ _ _ _ _=>(@lR _ K _ _ _ (2) _ (by exact rfl) (@cQ _ _ _ _ _ (Μ (0) (show(["j","worth","above"]:List Str).Nodup by decide+kernel)) (@cQ _ _ _ _ _ (Μ (1) (show(["j","worth","above"]:List Str).Nodup by decide+kernel)) j4 (OB)) (OB)) (OB) (OB) (OB))) (fun _ _ _ _ _=>fS) (fun _ _ _ _ _=>(Κ eX a9 (R7 (pv 1) (Ic (zU (aH K) (pv 2) (pv 0)))))) (OB) (by intro _;rfl)) (Zq (Χ (ν K PySem.F.plainAttrs_list PySem.F.slot_list_append PySem.F.type_list_append dF (Β K) (Ic (pv 6)))) (Xm (Χ (ν K PySem.F.plainAttrs_list PySem.F.slot_list_append PySem.F.type_list_append dF (Β K) (Ic (η (pv 0) cU a9 (R7 (pv 6) (Ic (pv 5))))))))))) (by intro _;rfl)))))))),?_⟩;refine⟨fun σ H1=>σ=[sR x,sR w,sR t,none,none,none,none]∧H1=upd H x (.ins aC dx (bq "out" (.int c.out) [])),?_,?_⟩
  ·refine⟨_,rfl,t,aW,dt,_,_,rfl,T1.ob,Tc.cl,Tc.out,l_out nu l d,_,rfl,x,aC,dx,_,rfl,hx,Rc.cl,Rc.out,QY,rfl,?_⟩;rw[e2]
  rintro σ H1 ⟨rfl,rfl⟩;refine⟨fun σ H1=>σ=[sR x,sR w,sR t,none,none,none,none]∧H1=upd H x (.ins aC dx (bq "into" (.int c.into) (bq "out" (.int c.out) []))),?_,?_⟩
  ·refine⟨_,rfl,t,aW,dt,_,_,rfl,by rw[aj nxt];exact T1.ob,Tc.cl,Tc.into,PQ nu l d,_,rfl,x,aC,dx,_,rfl,af,Rc.cl,Rc.into,?_,rfl,?_⟩
   ·have:=aU "out" (.int c.out) [];simp at this
    lia
   ·rw[d0,e3]
  rintro σ H1 ⟨rfl,rfl⟩;refine⟨fun σ H1=>∃wd:Int,σ=[sR x,sR w,sR t,sI wd,none,none,none]∧H1=upd H x (.ins aC dx (bq "into" (.int c.into) (bq "out" (.int c.out) [])))∧(0<n→wd=(m:Int))∧0≤wd∧wd≤1000,?_,?_⟩
  ·have qC:upd H x (.ins aC dx (bq "into" (.int c.into) (bq "out" (.int c.out) []))) w=some (.lst (as.map V.ref)):=by rw[aj XU];exact hw
   have uE:=TA.len;refine⟨_,rfl,w,_,rfl, .inl (.of qC),_,_,rfl,rfl,_,rfl,?_⟩;refine bQ (fun hh=>?_) (fun hh=>?_)
   ·have hh:0<n:=by
     have:(0:Int)<((as.map V.ref).length:Int):=by simpa using hh
     rw[List.length_map]at this
     lia
    obtain⟨a,Qt,XW,ZW⟩:=TA.at hh;have Ux:a≠x:=jA ZW hx (by intro z;cases z);have ha4:upd H x (.ins aC dx (bq "into" (.int c.into) (bq "out" (.int c.out) []))) a=some (.lst (dJ m (f1 0))):=by rw[aj Ux];exact ZW
    refine⟨_,rfl,w,_,0,_,rfl,rfl, .of qC,aS (j:=0) XW,a,_,rfl, .inl (.of ha4),_,rfl,rfl,fun _=>by rw[dM],by rw[dM];lia,by rw[dM];lia⟩
   ·have hh:n=0:=by
     have:¬(0:Int)<((as.map V.ref).length:Int):=by simpa using hh
     rw[List.length_map]at this
     lia
    exact⟨_,rfl,rfl,fun z=>by lia,by lia,by lia⟩
  rintro σ H1 ⟨wd,rfl,rfl,hwd,Ci,XX⟩;refine⟨fun σ H1=>∃e,σ=[sR x,sR w,sR t,sI wd,none,none,none]∧H1 x=some (.ins aC dx (bq "ending" (.ref e) (bq "into" (.int c.into) (bq "out" (.int c.out) []))))∧SameBut x H H1∧H e=none∧H1 e=some (.lst []),?_,?_⟩
  ·refine⟨ay XD,fun e he=>?_⟩;have Cj:SameBut x H (upd H x (.ins aC dx (bq "into" (.int c.into) (bq "out" (.int c.out) [])))):=SameBut.refl.upd;have Od:x≠e:=aG af he;have K_:=Cj.free af he;refine⟨_,rfl,x,aC,dx,_,rfl,by rw[aj Od,af],Rc.cl,Rc.lV,?_,e,rfl,af,(Cj.laid K_).upd,K_,by rw[aj (Ne.symm Od),af]⟩;have a1:=aU "into" (.int c.into) (bq "out" (.int c.out) []);have a2:=aU "out" (.int c.out) [];simp at a2
   lia
  rintro σ H1 ⟨e,rfl,mT,Cj,K_,Fu⟩;refine⟨fun σ H2=>∃b ab,σ=[sR x,sR w,sR t,sI wd,none,none,none]∧H2 x=some (.ins aC dx (ik c.out c.into e b))∧SameBut x H H2∧H2 e=some (.lst [])∧H b=none∧e≠b∧H2 b=some (.lst [.ref ab])∧(0<n→H2 ab=some (.lst (dJ (m+1) (Bq f1 c.out c.into 0))))∧ab≠e∧ab≠b∧H ab=none,?_,?_⟩
  ·refine⟨ay XD,fun l1 G8=>⟨_,rfl,_,_,rfl,rfl,l1,_,_,rfl,rfl,af,by lia,by lia,ay (by simp;lia),fun ab EZ=>⟨ay XD,fun b hb=>?_⟩⟩⟩;have s1:av H1 (upd (upd (upd H1 l1 (.lst [.cF])) ab (.lst (List.replicate (wd+1).toNat [V.cF]).flatten)) b (.lst [.ref ab])):=((av.upd G8).trans (av.upd EZ)).trans (av.upd hb);have rZ:H1 b=none:=((av.upd G8).trans (av.upd EZ)).free hb;have Cb:=s1 _ _ mT;have nxb:x≠b:=aG mT rZ;have Oe:ab≠b:=aG af hb;refine⟨_,rfl,x,aC,dx,_,rfl,Cb,Rc.cl,Rc.j8,?_,b,ab,rfl,by rw[af,Tv],(Cj.same s1).upd,?_,Cj.free mT rZ,aG Fu rZ,?_,fun h0=>?_,?_,Oe,Cj.free mT ((av.upd G8).free EZ)⟩
   ·have a0:=aU "ending" (.ref e) (bq "into" (.int c.into) (bq "out" (.int c.out) []));have a1:=aU "into" (.int c.into) (bq "out" (.int c.out) []);have a2:=aU "out" (.int c.out) [];simp at a2
    lia
   ·have:e≠x:=jA Fu mT (by intro z;cases z);rw[aj this];exact s1 _ _ Fu
   ·rw[aj (Ne.symm nxb),af]
   ·have ZX:ab≠x:=fun z=>by rw[z]at EZ;rw[(av.upd G8) _ _ mT]at EZ;cases EZ
    rw[aj ZX,aj Oe,af,hwd h0]
    congr 1
    have:((m:Int)+1).toNat=m+1:=by lia
    rw[this]
    congr 1
    apply List.ext_getElem?;intro k;by_cases hk:k<m+1
    ·rw[dN hk,jm];simp[cA,hk]
    ·rw[List.getElem?_eq_none (by simp;lia),List.getElem?_eq_none (by rw[dM];lia)]
   ·exact Ne.symm (aG ((av.upd G8) _ _ Fu) EZ)
  clear mT Cj Fu H1;rintro σ H1 ⟨b,ab,rfl,mT,Cj,Fu,Rt,ZY,rZ,Nc,Uy,Oe,Fv⟩;refine⟨_,rfl,w,rfl,⟨_, .of (Cj _ _ XU hw)⟩,?_⟩;refine gQ (xs:=as.map V.ref) (fun i σ H'=>(∃u1 u2 u3,σ=[sR x,sR w,sR t,sI wd,u1,u2,u3])∧H' x=some (.ins aC dx (ik c.out c.into e b))∧SameBut x H H'∧∃(es:List Addr)(bs:List V)(ab:Addr),H' e=some (.lst (es.map V.ref))∧jF H' es (dZ f1 c.out c.into) i m∧(∀a∈es,H a=none∧a≠e∧a≠b∧a≠x)∧H' b=some (.lst (bs++[.ref ab]))∧bs.length=i∧(0<n→H' ab=some (.lst (dJ (m+1) (Bq f1 c.out c.into i))))∧ab≠e∧ab≠b∧H ab=none∧∃bz:List Addr,bs=bz.map V.ref∧∀k a,bz[k]?=some a→H' a=some (.lst (dJ (m+1) (Bq f1 c.out c.into k)))∧a≠e∧a≠b∧H a=none) ?_ ?_ ?_ ?_
  ·exact⟨⟨_,_,_,rfl⟩,mT,Cj,[],[],ab,Fu,⟨rfl,fun i a h=>by simp at h⟩,(fun a h=>by cases h),rZ,rfl,Nc,Uy,Oe,Fv,[],rfl,fun k a h=>by simp at h⟩
  ·rintro i σ H' _ ⟨_,_,sb,_⟩;exact .of (sb _ _ XU hw)
  ·clear mT Cj Fu rZ Nc Uy Oe Fv ab H1;rintro i v σ H' hv ⟨⟨u1,u2,u3,rfl⟩,mT,Cj,es,bs,ab,Fu,TE,Uz,rZ,Ik,Nc,Uy,Oe,Fv,bz,UA,BZ⟩;have uE:=TA.len;have hi:i<n:=by have:=(Η hv).1;rw[List.length_map]at this;lia
   obtain⟨ra,Jj,xM,AB⟩:=TA.at hi;rw[xM]at hv;cases hv;have nrx:ra≠x:=jA AB hx (by intro z;cases z);have V4:=Cj _ _ nrx AB;have Il:=Nc Nz;refine⟨fun σ H2=>σ=[sR x,sR w,sR t,sI wd,sR ra,sR ab,u3]∧H2=H',?_,?_⟩
   ·exact⟨_,rfl,x,aC,dx,_,_,rfl,mT,Rc.cl,Rc.j8,iA c.out c.into e b,_,rfl,b,_,_,_,rfl,rfl, .of rZ,CD _ _,rfl,rfl⟩
   rintro σ H' ⟨rfl,rfl⟩;refine⟨fun σ H2=>∃D,σ=[sR x,sR w,sR t,sI wd,sR ra,sR ab,sR D]∧av H' H2∧H' D=none∧H2 D=some (.lst (dJ m (dZ f1 c.out c.into i))),?_,?_⟩
   ·refine⟨_,rfl,ra,rfl,⟨_, .of V4⟩,fun D hD=>?_⟩;refine zc (xs:=dJ m (f1 i)) (fun j ys bG H2=>(∃w1 w2,bG=[w1,w2,sR ab])∧ys=dJ j (dZ f1 c.out c.into i)∧H2 D=some (.lst ys)∧av H' H2) ⟨⟨_,_,rfl⟩,rfl,af,av.upd hD⟩ ?_ ?_ ?_
    ·rintro j ys bG H2 _ ⟨_,_,_,s2⟩;exact .of (s2 _ _ V4)
    ·rintro j y T2 ys bG H2 hy ⟨⟨w1,w2,rfl⟩,rfl,mP,s2⟩ UB;have hj:j<m:=by have:=(Η hy).1;rw[dM]at this;exact this
     rw[dN hj]at hy;cases hy;have s3:av H' (upd H2 T2 (.tup [.int j,cA (f1 i j)])):=s2.trans (av.upd UB);have Ij:=av.upd (o:= .tup [.int j,cA (f1 i j)]) UB _ _ mP;refine⟨T2,_,rfl, .of af,rfl,_,_,rfl,_,_,rfl,rfl,?_⟩;refine zS ?_;refine⟨_,rfl,_,rfl,_,rfl,ab,_,_,_,rfl,rfl, .of (s3 _ _ Il),aS (dN Nz),f1 i j,Bq f1 c.out c.into i j,rfl,Ij,bR (by rw[dM];lia),⟨_,_,rfl⟩,by rw[su];rfl,af,s3.eP hD⟩
    ·rintro ys bG H2 ⟨_,rfl,mP,s2⟩;rw[dM]at mP;exact⟨D,rfl,s2,hD,mP⟩
   rintro σ H2 ⟨D,rfl,s2,V5,mP⟩;have Cb:=s2 _ _ mT;have Ru:=s2 _ _ Fu;have E4:=s2 _ _ rZ;have XY:=s2 _ _ Il;have nDx:D≠x:=Ne.symm (aG mT V5);have ZZ:D≠e:=Ne.symm (aG Fu V5);have Z0:D≠b:=Ne.symm (aG rZ V5);have QE:e≠x:=jA Fu mT (by intro z;cases z);have nbx:b≠x:=jA rZ mT (by intro z;cases z);have ZX:ab≠x:=jA Il mT (by intro z;cases z);have DZ:=TE.len;have hD9:H D=none:=Cj.free mT V5;have UC:=Cj.same s2;refine⟨fun σ H3=>σ=[sR x,sR w,sR t,sI wd,sR ra,sR ab,sR D]∧H3=upd H2 e (.lst (es.map V.ref++[.ref D])),?_,?_⟩
   ·exact⟨_,rfl,x,aC,dx,_,_,rfl,Cb,Rc.cl,Rc.lV,iY c.out c.into e b, .inl ⟨rfl,_, .of Ru⟩,_,rfl,e,_,_,rfl,rfl,Ru,bR (by rw[List.length_map];lia),rfl,rfl⟩
   rintro σ H3 ⟨rfl,rfl⟩;have Nd:upd H2 e (.lst (es.map V.ref++[.ref D])) x=some (.ins aC dx (ik c.out c.into e b)):=by rw[aj (Ne.symm QE)];exact Cb
   have UD:upd H2 e (.lst (es.map V.ref++[.ref D])) b=some (.lst (bs++[.ref ab])):=by rw[aj (Ne.symm ZY)];exact E4
   have QG:upd H2 e (.lst (es.map V.ref++[.ref D])) ab=some (.lst (dJ (m+1) (Bq f1 c.out c.into i))):=by rw[aj Uy];exact XY
   have Ij:upd H2 e (.lst (es.map V.ref++[.ref D])) D=some (.lst (dJ m (dZ f1 c.out c.into i))):=by rw[aj ZZ];exact mP
   have Lx:upd H2 e (.lst (es.map V.ref++[.ref D])) e=some (.lst (es.map V.ref++[.ref D])):=af;have XZ:SameBut x H (upd H2 e (.lst (es.map V.ref++[.ref D]))):=UC.laid K_;have Z1:∀k a,es[k]?=some a→upd H2 e (.lst (es.map V.ref++[.ref D])) a=some (.lst (dJ m (dZ f1 c.out c.into k))):=fun k a hk=>by
    rw[aj (Uz a (Ψ hk)).2.1];exact s2 _ _ (TE.row k a hk)
   have Z2:∀k a,bz[k]?=some a→upd H2 e (.lst (es.map V.ref++[.ref D])) a=some (.lst (dJ (m+1) (Bq f1 c.out c.into k))):=fun k a hk=>by
    rw[aj (BZ k a hk).2.1];exact s2 _ _ (BZ k a hk).1
   generalize upd H2 e (.lst (es.map V.ref++[.ref D]))=H3 at Nd UD QG Ij Lx XZ Z1 Z2;refine⟨_,rfl,x,aC,dx,_,_,rfl,Nd,Rc.cl,Rc.j8,iA c.out c.into e b, .inl ⟨rfl,_, .of UD⟩,_,rfl,x,dx,_,rfl,Nd,Kt c.out c.into e b,_,rfl,_,rfl,x,D,ab,dx,e,b,c.out,c.into,m,_,_,rfl,Nd,Ij,QG,hm,fun H4 r s4 uI V6=>?_⟩;have Z5:r≠b:=Ne.symm (aG UD uI);have nre:r≠e:=Ne.symm (aG Lx uI);refine⟨b,_,_,rfl,rfl,s4 _ _ UD,bR (by rw[List.length_append];simp;lia),⟨_,_,_,rfl⟩,by rw[aj (Ne.symm nbx)];exact s4 _ _ Nd,(XZ.same s4).laid Rt,es++[D],bs++[.ref ab],r,by rw[aj ZY];rw[s4 _ _ Lx];simp,⟨by simp[DZ],fun k a hk=>?_⟩,fun a ha=>?_,af,by simp[Ik],fun _=>?_,nre,Z5,XZ.free Nd uI,bz++[ab],by simp[UA],fun k a hk=>?_⟩
   ·by_cases h:k<i
    ·rw[ζ Nz]at hk;rw[aj (Uz a (Ψ hk)).2.2.1];exact s4 _ _ (Z1 k a hk)
    ·rw[θ Nz]at hk;have QH:k-es.length=0:=by
      have:=(Η hk).1;simp at this
      lia
     rw[QH]at hk;have:D=a:=by simpa using hk
     subst this;rw[aj Z0];have:k=i:=by lia
     rw[this];exact s4 _ _ Ij
   ·rcases List.mem_append.mp ha with ha|ha
    ·exact Uz a ha
    ·have:a=D:=by simpa using ha
     rw[this];exact⟨hD9,ZZ,Z0,nDx⟩
   ·rw[aj Z5,V6]
    congr 2
    unfold dJ;apply List.map_congr_left;intro j _;rw[GG]
   ·have UE:bz.length=i:=by rw[UA,List.length_map]at Ik;exact Ik
    by_cases h:k<i
    ·rw[ζ Nz]at hk;obtain⟨_,z1,z2,z3⟩:=BZ k a hk;exact⟨by rw[aj z2];exact s4 _ _ (Z2 k a hk),z1,z2,z3⟩
    ·rw[θ Nz]at hk;have QH:k-bz.length=0:=by
      have:=(Η hk).1;simp at this
      lia
     rw[QH]at hk;have:ab=a:=by simpa using hk
     subst this;have:k=i:=by lia
     subst this;exact⟨by rw[aj Oe];exact s4 _ _ QG,Uy,Oe,Fv⟩
  ·rintro σ H' ⟨⟨u1,u2,u3,rfl⟩,Cb,UC,es,bs,X0,Ru,TE,Uz,E4,Ik,Il,aaU,aaY,XW,bz,UA,BZ⟩;rw[List.length_map,TA.len]at TE Ik Il;have UE:bz.length=n:=by rw[UA,List.length_map]at Ik;exact Ik
   refine q H' e b UC Cb ⟨es,Ru,K_,TE,fun a ha=>(Uz a ha).1⟩ fun X1=>⟨bz++[X0],by rw[E4,UA];simp,Rt,⟨by simp[UE],fun k a hk=>?_⟩,fun a ha=>?_⟩
   ·by_cases h:k<n
    ·rw[ζ Nz]at hk;exact(BZ k a hk).1
    ·rw[θ Nz]at hk;have QH:k-bz.length=0:=by
      have:=(Η hk).1;simp at this
      lia
     rw[QH]at hk;have:X0=a:=by simpa using hk
     subst this;have:k=n:=by lia
     subst this;exact Il X1
   ·rcases List.mem_append.mp ha with ha|ha
    ·obtain⟨k,hk,rfl⟩:=List.mem_iff_getElem.mp ha;exact(BZ k _ (by simp[hk])).2.2.2
    ·have:a=X0:=by simpa using ha
     rw[this];exact XW
theorem kb:aP ["self","pair","brought"] ["self","pair"] (aw iD):=gL
include T Rc in
theorem qD{f:Addr}{fd:FuncData}(F:fT K "goes_on" "Trails.goes_on" iD f fd):bE P w K mg base (de P w) true 1 f fd ["self","pair"] (Ak aC):=by
 refine F.gv kb Ζ gM
 ·obtain⟨x,dx,e,b,es,bs,f,o,p,n,m,pr,i,j,rfl,_⟩:=h;rfl
 ·obtain⟨x,dx,e,b,es,bs,f1,o,p,n,m,pr,i,j,rfl,TR,Dp,hi,hj,q⟩:=h;refine⟨_,(xX (Zr (2) kb.nd (zU (aH K) (zU (aH K) (Β K) (zU (fq K) (pv 1) ar)) (zU (fq K) (pv 1) ar))) (Xm (Γ (@lN _ _ _ _ _ _ _ (@Jt _ _ _ _ _ _ (@zA _ _ _ _ _ (pv 2)) (by first|exact cP _ (QY) (QY)|rfl)) (@mZ _ _ _ _ _ (@fm _ _ _ _ _ _ _ _ Gd (pv 2) ar (br _))))))),?_⟩;obtain⟨ra,h1,h2,h3⟩:=TR.tb.at (show i<n+1 by lia);refine⟨_,rfl,x,aC,dx,_,_,rfl,TR.ob,Rc.cl,Rc.j8,iA o p e b,_,rfl,pr,_,_,_,rfl,rfl, .of Dp,aS (j:=0) rfl,b,_,_,_,rfl,rfl, .of TR.hb,aS h2,_,rfl,pr,_,_,_,rfl,rfl, .of Dp,aS (j:=1) rfl,ra,_,_,_,rfl,rfl, .of h3,aS (dN (show j<m+1 by lia)),?_⟩;refine⟨_,rfl,?_⟩;cases eB:Bq f1 o p i j with
  |none=>
   rw[eB]at q;exact⟨_,rfl,bQ (fun hh=>absurd hh (by simp[cA])) fun _=>q⟩
  |some v=>
   rw[eB]at q;exact⟨_,rfl,bQ (fun _=>⟨_,rfl,_,_,rfl,rfl,q⟩) fun hh=>absurd (by simp[cA]) hh⟩
theorem lE:aP ["self","crossing","pair"] ["self","crossing","pair"] (aw eR):=gL
include T Rc in
theorem lF{f:Addr}{fd:FuncData}(F:fT K "is_brought_by" "Trails.is_brought_by" eR f fd):bE P w K mg base (de P w) true 1 f fd ["self","crossing","pair"] (EW aC):=by
 refine F.gv lE Ζ gM
 ·obtain⟨x,dx,e,b,es,bs,f,o,p,n,m,cr,pr,i,j,k,l,rfl,_⟩:=h;rfl
 ·obtain⟨x,dx,e,b,es,bs,f1,o,p,n,m,cr,pr,i,j,k,l,rfl,TR,Of,Dp,hi,hj,hk,hl,q⟩:=h;refine⟨_,(Xm (Γ (@fm _ _ _ _ _ _ _ _ ij (zU (aH K) (zU (aH K) (Β K) (zU (fq K) (pv 2) ar)) (zU (fq K) (pv 2) ar)) (zU (aH K) (zU (aH K) (Β K) (zU (fq K) (pv 1) ar)) (zU (fq K) (pv 1) ar)) (br _)))),?_⟩;obtain⟨ra,h1,h2,h3⟩:=TR.tb.at (show i<n+1 by lia);obtain⟨rb,g1,g2,g3⟩:=TR.te.at hk;refine⟨_,rfl,x,aC,dx,_,_,rfl,TR.ob,Rc.cl,Rc.lV,iY o p e b,_,rfl,pr,_,_,_,rfl,rfl, .of Dp,aS (j:=0) rfl,e,_,_,_,rfl,rfl, .of TR.he,aS g2,_,rfl,pr,_,_,_,rfl,rfl, .of Dp,aS (j:=1) rfl,rb,_,_,_,rfl,rfl, .of g3,aS (dN hl),?_⟩;refine⟨_,rfl,x,aC,dx,_,_,rfl,TR.ob,Rc.cl,Rc.j8,iA o p e b,_,rfl,cr,_,_,_,rfl,rfl, .of Of,aS (j:=0) rfl,b,_,_,_,rfl,rfl, .of TR.hb,aS h2,_,rfl,cr,_,_,_,rfl,rfl, .of Of,aS (j:=1) rfl,ra,_,_,_,rfl,rfl, .of h3,aS (dN (show j<m+1 by lia)),?_⟩;have Og:∀a c:Option Int,decide (cA a=cA c)=decide (a=c):=fun a c=>by cases a<;>cases c<;>simp[cA]
  refine⟨by cases dZ f1 o p k l<;>cases Bq f1 o p i j<;>rfl,?_⟩;rw[Og];exact q
theorem bW:aP ["self","crossing","i","j","brought","found"] ["self","crossing"] (aw dD):=gL
include T ma Rc in
theorem jJ{f:Addr}{fd:FuncData}(F:fT K "crossings_before" "Trails.crossings_before" dD f fd):bE P w K mg base (de P w) true 2 f fd ["self","crossing"] (vY aC):=by
 refine F.gv bW Ζ gM
 ·obtain⟨x,dx,e,b,es,bs,f,o,p,n,m,cr,i,j,rfl,_⟩:=h;rfl
 ·obtain⟨x,dx,e,b,es,bs,f1,o,p,n,m,cr,i,j,rfl,TR,Of,hi,hj,q⟩:=h;refine⟨_,(Zq (Zr (2) bW.nd (zU (fq K) (pv 1) ar)) (Zq (Zr (3) bW.nd (zU (fq K) (pv 1) ar)) (Zq (Zr (4) bW.nd (zU (aH K) (zU (aH K) (Β K) (pv 2)) (pv 3))) (Zq (Zr (5) bW.nd (@bV _ _ _ _ ai)) (Zq (Ι (Ν ij (Κ ma a9 (R7 (zU (aH K) (zU (aH K) (Β K) (yt iu (pv 2) ar)) (pv 3)) (Ic (Β K)))) (pv 4) (br _)) (Xm (Χ (ν K PySem.F.plainAttrs_list PySem.F.slot_list_append PySem.F.type_list_append dF (pv 5) (Ic (@iw _ _ _ _ _ (R7 (yt iu (pv 2) ar) (Ic (pv 3)))))))) ba) (Zq (Ι (Ν ij (Κ ma a9 (R7 (zU (aH K) (zU (aH K) (Β K) (pv 2)) (yt iu (pv 3) ar)) (Ic (Β K)))) (pv 4) (br _)) (Xm (Χ (ν K PySem.F.plainAttrs_list PySem.F.slot_list_append PySem.F.type_list_append dF (pv 5) (Ic (@iw _ _ _ _ _ (R7 (pv 2) (Ic (yt iu (pv 3) ar)))))))) ba) (Xm (Γ (pv 5))))))))),?_⟩;have Og:∀a c:Option Int,decide (cA a=cA c)=decide (a=c):=fun a c=>by cases a<;>cases c<;>simp[cA]
  obtain⟨ra,h1,h2,h3⟩:=TR.tb.at (show i<n+1 by lia);obtain⟨rb,g1,g2,g3⟩:=TR.tb.at (show i+1<n+1 by lia);refine⟨fun σ H1=>σ=[sR x,sR cr,sI (((i+1:Nat):Int)),none,none,none]∧H1=H,⟨_,rfl,cr,_,_,_,rfl,rfl, .of Of,aS (j:=0) rfl,rfl,rfl⟩,?_⟩;rintro σ H ⟨rfl,rfl⟩;refine⟨fun σ H1=>σ=[sR x,sR cr,sI (((i+1:Nat):Int)),sI (((j+1:Nat):Int)),none,none]∧H1=H,⟨_,rfl,cr,_,_,_,rfl,rfl, .of Of,aS (j:=1) rfl,rfl,rfl⟩,?_⟩;rintro σ H ⟨rfl,rfl⟩;refine⟨fun σ H1=>σ=[sR x,sR cr,sI (((i+1:Nat):Int)),sI (((j+1:Nat):Int)),some (cA (Bq f1 o p (i+1) (j+1))),none]∧H1=H,⟨_,rfl,x,aC,dx,_,_,rfl,TR.ob,Rc.cl,Rc.j8,iA o p e b,_,rfl,b,_,_,_,rfl,rfl, .of TR.hb,aS g2,_,rfl,rb,_,_,_,rfl,rfl, .of g3,aS (dN (show j+1<m+1 by lia)),rfl,rfl⟩,?_⟩;rintro σ H ⟨rfl,rfl⟩;refine⟨fun σ H1=>∃r,σ=[sR x,sR cr,sI (((i+1:Nat):Int)),sI (((j+1:Nat):Int)),some (cA (Bq f1 o p (i+1) (j+1))),sR r]∧av H H1∧H r=none∧H1 r=some (.lst []),⟨ay XD,fun r hr=>⟨r,rfl,av.upd hr,hr,af⟩⟩,?_⟩;rintro σ H1 ⟨r,rfl,s1,uI,Jj⟩;refine⟨fun σ H2=>∃us,σ=[sR x,sR cr,sI (((i+1:Nat):Int)),sI (((j+1:Nat):Int)),some (cA (Bq f1 o p (i+1) (j+1))),sR r]∧av H H2∧H2 r=some (.lst us)∧iX H2 us (if cc (Bq f1 o p i (j+1)) o=Bq f1 o p (i+1) (j+1)then[((i:Int),((j+1:Nat):Int))]else[]),?_,?_⟩
  ·have T1:=TR.keep s1;have ea:xI (bs.map V.ref) (((i+1:Nat):Int)-1)=some (.ref ra):=by
    rw[show((i+1:Nat):Int)-1=(i:Int) by lia];exact aS h2
   refine⟨_,rfl,x,aC,dx,_,_,rfl,T1.ob,Rc.cl,Rc.j8,iA o p e b,_,rfl,_,_,rfl,rfl,b,_,_,_,rfl,rfl, .of T1.hb,ea,_,rfl,ra,_,_,_,rfl,rfl, .of (s1 _ _ h3),aS (dN (show j+1<m+1 by lia)),?_⟩;refine⟨_,rfl,x,aC,dx,_,_,rfl,T1.ob,Rc.cl,Rc.out,NR o p e b,Bq f1 o p i (j+1),o,rfl,?_⟩;refine⟨_,rfl,by cases cc (Bq f1 o p i (j+1)) o<;>cases Bq f1 o p (i+1) (j+1)<;>rfl,_,rfl,?_⟩;rw[Og];refine bQ (fun hh=>?_) (fun hh=>?_)
   ·have hh:cc (Bq f1 o p i (j+1)) o=Bq f1 o p (i+1) (j+1):=of_decide_eq_true hh;rw[VH hh];refine⟨_,rfl, .inl ⟨rfl,_, .of Jj⟩,_,rfl,_,_,rfl,rfl,_,rfl,ay XD,fun t ht=>?_⟩;refine⟨r,_,_,rfl,rfl,av.upd ht _ _ Jj,bR XD,_,rfl,(s1.trans (av.upd ht)).eP uI,af,rfl,fun k f hf=>?_⟩;have hk:k=0:=by
     have:=(Η hf).1;simp at this
     lia
    subst hk;have hf:((i:Int),((j+1:Nat):Int))=f:=by simpa using hf
    subst hf;refine⟨t,rfl,?_⟩;rw[aj (fun z=>by subst z;rw[Jj]at ht;cases ht),af];rw[show((i+1:Nat):Int)-1=(i:Int) by lia];rfl
   ·have hh:¬cc (Bq f1 o p i (j+1)) o=Bq f1 o p (i+1) (j+1):=by simpa using hh
    rw[M9 hh];exact⟨[],rfl,s1,Jj, .nil⟩
  rintro σ H2 ⟨us,rfl,s2,xM,P2⟩;have T2:=TR.keep s2;have lus:us.length≤1:=by
   rw[P2.1];split<;>simp
  have eb:xI (dJ (m+1) (Bq f1 o p (i+1))) (((j+1:Nat):Int)-1)=some (cA (Bq f1 o p (i+1) j)):=by
   rw[show((j+1:Nat):Int)-1=(j:Int) by lia];exact aS (dN (show j<m+1 by lia))
  refine⟨fun σ H3=>∃us,σ=[sR x,sR cr,sI (((i+1:Nat):Int)),sI (((j+1:Nat):Int)),some (cA (Bq f1 o p (i+1) (j+1))),sR r]∧av H H3∧H3 r=some (.lst us)∧iX H3 us (bX f1 o p i j),?_,?_⟩
  ·refine⟨_,rfl,x,aC,dx,_,_,rfl,T2.ob,Rc.cl,Rc.j8,iA o p e b,_,rfl,b,_,_,_,rfl,rfl, .of T2.hb,aS g2,_,rfl,_,_,rfl,rfl,rb,_,_,_,rfl,rfl, .of (s2 _ _ g3),eb,?_⟩;refine⟨_,rfl,x,aC,dx,_,_,rfl,T2.ob,Rc.cl,Rc.into,Ks o p e b,Bq f1 o p (i+1) j,p,rfl,?_⟩;refine⟨_,rfl,by cases cc (Bq f1 o p (i+1) j) p<;>cases Bq f1 o p (i+1) (j+1)<;>rfl,_,rfl,?_⟩;rw[Og];refine bQ (fun hh=>?_) (fun hh=>?_)
   ·have hh:cc (Bq f1 o p (i+1) j) p=Bq f1 o p (i+1) (j+1):=of_decide_eq_true hh;refine⟨_,rfl, .inl ⟨rfl,_, .of xM⟩,_,rfl,_,rfl,_,_,rfl,rfl,ay XD,fun t ht=>?_⟩;have s3:=av.upd (o:= .tup [.int ((i+1:Nat):Int), .int (((j+1:Nat):Int)-1)]) ht;have Z6:t≠r:=fun z=>by subst z;rw[xM]at ht;cases ht
    refine⟨r,_,_,rfl,rfl,s3 _ _ xM,bR Nz,_,rfl,(s2.trans s3).eP uI,af,?_⟩;unfold bX;rw[VH hh];refine((P2.same s3).append ⟨rfl,fun k f hf=>?_⟩).cO fun a ys ha=>?_
    ·have hk:k=0:=by
      have:=(Η hf).1;simp at this
      lia
     subst hk;have hf:(((i+1:Nat):Int),(j:Int))=f:=by simpa using hf
     subst hf;refine⟨t,rfl,?_⟩;rw[af,show((j+1:Nat):Int)-1=(j:Int) by lia];rfl
    ·have gO:a≠r:=fun z=>by subst z;rw[s3 _ _ xM]at ha;cases ha
     rw[aj gO];exact ha
   ·have hh:¬cc (Bq f1 o p (i+1) j) p=Bq f1 o p (i+1) (j+1):=by simpa using hh
    refine⟨us,rfl,s2,xM,?_⟩;unfold bX;rw[M9 hh,List.append_nil];exact P2
  rintro σ H3 ⟨us,rfl,s3,AB,P3⟩;exact⟨_,rfl,q H3 r us s3 uI AB P3⟩
variable(bT:c6 P w K mg base true 1 aC "is_brought_by" ["self","crossing","pair"] (EW aC))
variable(bF:c6 P w K mg base true 2 aC "crossings_before" ["self","crossing"] (vY aC))
theorem cH:aP ["self","pair","crossing","ahead"] ["self","pair"] (aw fG):=gL
include T Rc bT bF in
theorem mQ{f:Addr}{fd:FuncData}(F:fT K "pair_before" "Trails.pair_before" fG f fd):bE P w K mg base (de P w) true 3 f fd ["self","pair"] (Al aC):=by
 refine F.gv cH Ζ gM
 ·obtain⟨x,dx,e,b,es,bs,f,o,p,n,m,pr,i,j,rfl,_⟩:=h;rfl
 ·obtain⟨x,dx,e,b,es,bs,f1,o,p,n,m,pr,i,j,rfl,TR,Dp,hi,hj,hB,q⟩:=h;refine⟨_,(xX (Zr (2) cH.nd (pv 1)) (xX (Zr (3) cH.nd (@iw _ _ _ _ _ (R7 (yt iu (zU (fq K) (pv 2) ar) ar) (Ic (yt iu (zU (fq K) (pv 2) ar) ar))))) (xX (@vA _ _ _ _ _ _ hX.own (@eO _ _ _ _ (@cZ _ _ _ (η (pv 0) bT a9 (R7 (pv 2) (Ic (pv 3)))) (by intro _;rfl))) (xX (Zr (2) cH.nd (zU (aH K) (η (pv 0) bF a9 (Ic (pv 2))) ar)) (Xm (Zr (3) cH.nd (@iw _ _ _ _ _ (R7 (yt iu (zU (fq K) (pv 2) ar) ar) (Ic (yt iu (zU (fq K) (pv 2) ar) ar)))))))) (Xm (Γ (pv 3)))))),?_⟩;obtain⟨i,rfl⟩:∃i',i=i'+1:=by
   cases i with
   |zero=>exact absurd (jm f1 o p j) hB
   |succ i=>exact⟨i,rfl⟩
  obtain⟨j,rfl⟩:∃j',j=j'+1:=by
   cases j with
   |zero=>exact absurd (by unfold Bq;rfl) hB
   |succ j=>exact⟨j,rfl⟩
  refine⟨_,rfl,_,rfl,pr,_,_,_,rfl,rfl, .of Dp,aS (j:=0) rfl,_,_,rfl,rfl,_,rfl,pr,_,_,_,rfl,rfl, .of Dp,aS (j:=1) rfl,_,_,rfl,rfl,ay XD,fun t ht=>?_⟩;refine⟨fun mm σ H1=>∃(cr ah:Addr)(i2 j2:Nat),mm=i2+j2∧σ=[sR x,sR pr,sR cr,sR ah]∧av H H1∧H1 cr=some (.tup [.int ((i2+1:Nat):Int), .int ((j2+1:Nat):Int)])∧H1 ah=some (.tup [.int i2, .int j2])∧i2<n∧j2<m∧Bq f1 o p (i2+1) (j2+1)≠none∧dh f1 o p (i2+1) (j2+1)=dh f1 o p (i+1) (j+1),⟨i+j,pr,t,i,j,rfl,rfl,av.upd ht,av.upd ht _ _ Dp,?_,by lia,by lia,hB,rfl⟩,?_⟩
  ·rw[af,show((i+1:Nat):Int)-1=(i:Int) by lia,show((j+1:Nat):Int)-1=(j:Int) by lia]
  rintro mm σ H1 ⟨cr,ah,i2,j2,rfl,rfl,s1,Of,Z7,Rk,X2,Rv,Z9⟩;have T1:=TR.keep s1;refine⟨_,rfl,x,dx,_,rfl,T1.ob,N0 o p e b,_,rfl,_,rfl,x,dx,e,b,es,bs,f1,o,p,n,m,cr,ah,i2+1,j2+1,i2,j2,rfl,T1,Of,Z7,by lia,by lia,Rk,X2,?_⟩;refine⟨_,rfl,?_⟩;by_cases hE:dZ f1 o p i2 j2=Bq f1 o p (i2+1) (j2+1)
  ·rw[decide_eq_true hE];refine m_ ?_;refine⟨_,rfl,q H1 ah s1 ?_⟩;have:dh f1 o p (i2+1) (j2+1)=(i2,j2):=by unfold dh;rw[VH hE]
   rw[←Z9,this];exact Z7
  ·rw[decide_eq_false hE];refine jD ?_;refine⟨_,fun bG H' z=>z,?_⟩;obtain⟨i3,j3,c0,c1,c2,c3,c4,c5⟩:=CV Rv hE;refine⟨_,rfl,x,dx,_,rfl,T1.ob,GP o p e b,_,rfl,x,dx,e,b,es,bs,f1,o,p,n,m,cr,i2,j2,rfl,T1,Of,Rk,X2,fun H2 r us s2 uI xM P2=>?_⟩;obtain⟨t2,k1,k2⟩:=P2.2 0 _ c0;refine⟨r,_,_,_,rfl,rfl, .of xM,aS (j:=0) k1,?_⟩;refine⟨_,rfl,t2,_,_,_,rfl,rfl, .of k2,aS (j:=0) rfl,_,_,rfl,rfl,_,rfl,t2,_,_,_,rfl,rfl, .of k2,aS (j:=1) rfl,_,_,rfl,rfl,ay XD,fun t3 Z_=>?_⟩;refine⟨i3+j3,by lia,t2,t3,i3,j3,rfl,rfl,s1.trans (s2.trans (av.upd Z_)),av.upd Z_ _ _ k2,?_,by lia,by lia,c4,by rw[c5,Z9]⟩;rw[af];show some (HO.tup [.int (((i3+1:Nat):Int)-1), .int (((j3+1:Nat):Int)-1)])=_;rw[show((i3+1:Nat):Int)-1=(i3:Int) by lia,show((j3+1:Nat):Int)-1=(j3:Int) by lia]
variable(cJ:c6 P w K mg base true 1 aC "goes_on" ["self","pair"] (Ak aC))
variable(dQ:c6 P w K mg base true 3 aC "pair_before" ["self","pair"] (Al aC))
theorem lG:aP ["self","pair","way"] ["self","pair"] (aw i9):=gL
include T Rc cJ dQ in
theorem tm{f:Addr}{fd:FuncData}(F:fT K "way_to" "Trails.way_to" i9 f fd):bE P w K mg base (de P w) true 4 f fd ["self","pair"] (EX aC):=by
 refine F.gv lG Ζ gM
 ·obtain⟨x,dx,e,b,es,bs,f,o,p,n,m,pr,i,j,rfl,_⟩:=h;rfl
 ·obtain⟨x,dx,e,b,es,bs,f1,o,p,n,m,pr,i,j,rfl,TR,Dp,hi,hj,hn,q⟩:=h;refine⟨_,(xX (Zr (2) lG.nd (@bV _ _ _ _ (Ic (pv 1)))) (xX (@vA _ _ _ _ _ _ hX.own (@cZ _ _ _ (η (pv 0) cJ a9 (Ic (zU (aH K) (pv 2) (@oN _ _ _ _ _ _ kN ar)))) (by intro _;rfl)) (Xm (Χ (ν K PySem.F.plainAttrs_list PySem.F.slot_list_append PySem.F.type_list_append dF (pv 2) (Ic (η (pv 0) dQ a9 (Ic (zU (aH K) (pv 2) (@oN _ _ _ _ _ _ kN ar))))))))) (xX (Χ (@Mu _ K _ _ _ _ _ _ _ _ PySem.F.plainAttrs_list PySem.F.slot_list_reverse PySem.F.type_list_reverse Eu (pv 2) (OB) (OB) (OB))) (Xm (Γ (pv 2)))))),?_⟩;refine⟨_,rfl,ay XD,fun w hw=>?_⟩;refine⟨fun mm σ H1=>∃(us:List V)(A:List (Nat×Nat))(i2 j2:Nat),mm=i2∧σ=[sR x,sR pr,sR w]∧av H H1∧H1 w=some (.lst us)∧iX H1 us ((A++[(i2,j2)]).map bp)∧i2<n∧j2<m∧A.length+i2≤i∧fh f1 o p i i j=fh f1 o p i2 i2 j2++A.reverse,⟨i,_,[],i,j,rfl,rfl,av.upd hw,af,⟨rfl,fun k g hg=>?_⟩,hi,hj,Xx,Xx⟩,?_⟩
  ·have hk:k=0:=by
    have:=(Η hg).1;simp at this
    lia
   subst hk;have hg:bp (i,j)=g:=by simpa using hg
   subst hg;exact⟨pr,rfl,av.upd hw _ _ Dp⟩
  rintro i2 σ H1 ⟨us,A,_,j2,rfl,rfl,s1,qC,P1,Rk,X2,hA,UG⟩;have T1:=TR.keep s1;obtain⟨t,Ob,K9⟩:=P1.last XD;rw[List.map_append,List.map_singleton,EJ]at K9;have hlen:us.length≤1001:=by have:=P1.1;simp at this;lia
  refine⟨_,rfl,x,dx,_,rfl,T1.ob,KL o p e b,_,rfl,_,rfl,w,_,_,_,rfl,rfl, .of qC,Ob,x,dx,e,b,es,bs,f1,o,p,n,m,t,i2,j2,rfl,T1,K9,by lia,by lia,?_⟩;refine⟨_,rfl,?_⟩;refine bQ (fun hh=>?_) (fun hh=>?_)
  ·obtain⟨c1,c2,c3⟩:=lD hh;have hl:=(lW f1 o p i2 j2 c1 c2).resolve_right c3;refine⟨_,fun bG H' z=>z,?_⟩;refine⟨_,rfl, .inl ⟨rfl,_, .of qC⟩,_,rfl,x,dx,_,rfl,T1.ob,Qd o p e b,_,rfl,_,rfl,w,_,_,_,rfl,rfl, .of qC,Ob,x,dx,e,b,es,bs,f1,o,p,n,m,t,i2,j2,rfl,T1,K9,by lia,by lia,c3,fun H2 r s2 hr=>?_⟩;have nrw:r≠w:=fun z=>by subst z;rw[s2 _ _ qC]at hr;cases hr
   refine⟨w,_,_,rfl,rfl,s2 _ _ qC,bR Nz,(dh f1 o p i2 j2).1,hl.1,us++[.ref r],A++[(i2,j2)],_,(dh f1 o p i2 j2).2,rfl,rfl,(s1.trans s2).eP hw,af,?_,by lia,by lia,by simp;lia,?_⟩
   ·rw[List.map_append];refine((P1.same s2).append ⟨rfl,fun k g hg=>?_⟩).cO fun a ys ha=>?_
    ·have hk:k=0:=by
      have:=(Η hg).1;simp at this
      lia
     subst hk;have hg:bp ((dh f1 o p i2 j2).1,(dh f1 o p i2 j2).2)=g:=by simpa using hg
     subst hg;exact⟨r,rfl,hr⟩
    ·have gO:a≠w:=fun z=>by subst z;rw[s2 _ _ qC]at ha;cases ha
     rw[aj gO];exact ha
   ·rw[UG,zh hh];simp
  ·have hh:¬il (Bq f1 o p i2 j2)=true:=hh;refine⟨_,rfl, .inl ⟨rfl,_, .of qC⟩,w,us,rfl,rfl,qC,?_⟩;refine⟨_,rfl,q _ w us.reverse (s1.eP hw) hw af ?_⟩;have e:fh f1 o p i i j=(A++[(i2,j2)]).reverse:=by
    rw[UG,iB hh];simp
   rw[e,List.map_reverse];refine⟨by rw[List.length_reverse,List.length_reverse,P1.1],fun k g hg=>?_⟩;have hk:=(Η hg).1;rw[List.length_reverse]at hk;have hl:=P1.1;rw[List.getElem?_reverse hk]at hg;obtain⟨t3,k1,k2⟩:=P1.2 _ _ hg;refine⟨t3,by rw[List.getElem?_reverse Nz,hl];exact k1,?_⟩;have gO:t3≠w:=fun z=>by subst z;rw[qC]at k2;cases k2
   rw[aj gO];exact k2
variable(Fc:N1 K aT)
theorem oC:aP ["self","worth","way","row","pairs"] ["self","worth","way","row","pairs"] (aw gy):=gL
include T Fc in
theorem oE{f:Addr}{fd:FuncData}(F:fT K "__init__" "Finding.__init__" gy f fd):bE P w K mg base (de P w) true 1 f fd ["self","worth","way","row","pairs"] (v7 aT):=by
 refine F.gv oC Ζ gM
 ·obtain⟨x,dx,a,r,p,w,rfl,_⟩:=h;rfl
 ·obtain⟨x,dx,a,r,p,w,rfl,hx,q⟩:=h;refine⟨_,(xX (Υ K (pv 0) (pv 1)) (xX (Υ K (pv 0) (pv 2)) (xX (Υ K (pv 0) (pv 3)) (Xm (Υ K (pv 0) (pv 4)))))),?_⟩;have a1:=aU "worth" (.int w) [];have a2:=aU "way" (.ref a) (bq "worth" (.int w) []);have a3:=aU "row" (.ref r) (bq "way" (.ref a) (bq "worth" (.int w) []));simp only[List.length_nil]at a1;refine⟨_,rfl,_,rfl,x,aT,dx,_,rfl,hx,Fc.cl,Fc.worth,QY,?_⟩;refine⟨_,rfl,_,rfl,x,aT,dx,_,rfl,af,Fc.cl,Fc.way,by lia,?_⟩;refine⟨_,rfl,_,rfl,x,aT,dx,_,rfl,af,Fc.cl,Fc.row,by lia,?_⟩;refine⟨_,rfl,_,rfl,x,aT,dx,_,rfl,af,Fc.cl,Fc.pairs,by lia,?_⟩;rw[d0,d0,d0,Qg];exact q
theorem Dq:aP ["finding"] ["finding"] (aw pj):=gL
include T Fc in
theorem Dr{f:Addr}{fd:FuncData}(F:lu K "order_of" "order_of" pj f fd):bE P w K mg base (de P w) true 1 f fd ["finding"] (v8 aT):=by
 refine F.gv Dq Ζ gM
 ·obtain⟨x,dx,a,r,p,w,us,ps,rfl,_⟩:=h;rfl
 ·obtain⟨x,dx,a,r,p,w,us,ps,rfl,hx,hp,PS,gO,q⟩:=h;refine⟨_,(Xm (Γ (@iw _ _ _ _ _ (R7 (@oN _ _ _ _ _ _ kN (Β K)) (Ic (zU (aH K) (Β K) ar)))))),?_⟩;obtain⟨t,h1,h2⟩:=PS.first gO;refine⟨_,rfl,x,aT,dx,_,_,rfl,hx,Fc.cl,Fc.worth,CY w a r p,_,rfl,_,rfl,x,aT,dx,_,_,rfl,hx,Fc.cl,Fc.pairs,vZ w a r p,p,_,_,_,rfl,rfl, .of hp,h1,ay XD,fun k hk=>?_⟩;exact q _ k t (av.upd hk) af (av.upd hk _ _ h2)
variable(gk:c6 P w K mg base true 4 aC "way_to" ["self","pair"] (EX aC))
variable(me:j5 P w K mg base true 1 "Finding" aT ["self","worth","way","row","pairs"] [] (v7 aT))
theorem gm:aP ["trails","worth","pairs","ends","way","row"] ["trails","worth","pairs"] (aw fH):=gL
include T Rc gk me in
theorem uJ{f:Addr}{fd:FuncData}(F:lu K "make_finding" "make_finding" fH f fd):bE P w K mg base (de P w) true 6 f fd ["trails","worth","pairs"] (EY aC aT):=by
 refine F.gv gm Ζ gM
 ·obtain⟨x,dx,e,b,es,bs,f,o,p,n,m,w,pr,us,ps,q0,rfl,_⟩:=h;rfl
 ·obtain⟨x,dx,e,b,es,bs,f1,o,p,n,m,w,pr,us,ps,q0,rfl,TR,Dp,PS,Hw,h0,hn,Ji,q⟩:=h;refine⟨_,(Zq (@vi _ _ _ _ _ _ _ _ _ _ _ _ _ _ _ (3) _ _ (by exact rfl) gm.nd Α (by exact rfl) (show bK ["trails","worth","pairs","ends","way","row"] (aw fH) _ ["pair"] [0,1] ["trails","worth"]from DY) (@cx _ K _ _ _ (pv 2) (OB)) (fun _ _ _ _ _=>(Μ (0) (show(["pair","trails","worth"]:List Str).Nodup by decide+kernel))) (fun _ _ _ _ _=>(@zR _ _ _ (Ν ij (zU (aH K) (zU (aH K) (μ K (pv 1)) (zU (fq K) (pv 0) ar)) (zU (fq K) (pv 0) ar)) (pv 2) (br _)))) (fun _ _ _ _ _=>(pv 0)) (OB) (by intro _;rfl)) (Zq (Zr (4) gm.nd (η (pv 0) gk a9 (Ic (zU (aH K) (pv 3) ar)))) (Zq (@vi _ _ _ _ _ _ _ _ _ _ _ _ _ _ _ (5) _ _ (by exact rfl) gm.nd Α (by exact rfl) (show bK ["trails","worth","pairs","ends","way","row"] (aw fH) _ ["i","j"] [0] ["trails"]from DY) (@cx _ K _ _ _ (pv 4) (OB)) (fun _ _ _ _ _=>(@lR _ K _ _ _ (2) _ (by exact rfl) (@cQ _ _ _ _ _ (Μ (0) (show(["i","j","trails"]:List Str).Nodup by decide+kernel)) (@cQ _ _ _ _ _ (Μ (1) (show(["i","j","trails"]:List Str).Nodup by decide+kernel)) j4 (OB)) (OB)) (OB) (OB) (OB))) (fun _ _ _ _ _=>fS) (fun _ _ _ _ _=>(zU (aH K) (zU (aH K) (μ K (pv 2)) (pv 0)) (pv 1))) (OB) (by intro _;rfl)) (Xm (Γ (@lQ _ _ _ _ _ _ _ _ _ _ _ _ _ _ me (hr.mono Ε) hX.pass (R7 (pv 1) (R7 (pv 4) (R7 (pv 5) (Ic (pv 2))))) (OB) (QY) (OB) (OB))))))),?_⟩;have UH:us.length=ps.length:=by have:=PS.1;simpa using this
  refine⟨fun σ H1=>∃D vs,σ=[sR x,sI w,sR pr,sR D,none,none]∧av H H1∧H1 D=some (.lst vs)∧iX H1 vs ((ps.filter fun q=>decide (dZ f1 o p q.1 q.2=some w)).map bp),?_,?_⟩
  ·refine⟨_,rfl,pr,rfl,⟨_, .of Dp⟩,fun D hD=>?_⟩;refine d8 (xs:=us) (fun k ys bG H'=>(∃u,bG=[u,sR x,sI w])∧iX H ys (((ps.take k).filter fun q=>decide (dZ f1 o p q.1 q.2=some w)).map bp)∧H' D=some (.lst ys)∧av H H'∧ys.length≤k) ⟨⟨_,rfl⟩, .nil,af,av.upd hD,Xx⟩ ?_ ?_ ?_
   ·rintro k ys bG H' _ ⟨_,_,_,s1,_⟩;exact .of (s1 _ _ Dp)
   ·rintro k v ys bG H' hv ⟨⟨u,rfl⟩,P1,Cg,s1,G8⟩;have hk:k<ps.length:=by rw[←UH];exact(Η hv).1
    have ek:ps[k]?=some ps[k]:=by simp[hk]
    have hm:=Hw ps[k] (List.getElem_mem hk);generalize ps[k]=g at ek hm;obtain⟨t,k1,k2⟩:=PS.2 k (bp g) (by rw[List.getElem?_map,ek];rfl);rw[hv]at k1;cases k1;have T1:=TR.keep s1;have kt:=s1 _ _ k2;obtain⟨rb,g1,g2,g3⟩:=T1.te.at hm.1;have et:ps.take (k+1)=ps.take k++[g]:=by rw[List.take_succ,ek];rfl
    refine⟨_,rfl,x,aC,dx,_,_,rfl,T1.ob,Rc.cl,Rc.lV,iY o p e b,_,rfl,t,_,_,_,rfl,rfl, .of kt,aS (j:=0) rfl,e,_,_,_,rfl,rfl, .of T1.he,aS g2,_,rfl,t,_,_,_,rfl,rfl, .of kt,aS (j:=1) rfl,rb,_,_,_,rfl,rfl, .of g3,aS (dN hm.2),?_⟩;have Og:decide (cA (dZ f1 o p g.1 g.2)=V.int w)=decide (dZ f1 o p g.1 g.2=some w):=by cases dZ f1 o p g.1 g.2<;>simp[cA]
    refine⟨_,rfl,by cases dZ f1 o p g.1 g.2<;>rfl,_,rfl,?_⟩;rw[Og];refine bQ (fun hh=>?_) (fun hh=>?_)
    ·refine⟨_,rfl,Cg,bR Nz,⟨_,rfl⟩,?_,af,s1.eP hD,by simp;lia⟩;rw[et,List.filter_append,List.map_append];refine P1.append ?_;rw[show[g].filter (fun q=>decide (dZ f1 o p q.1 q.2=some w))=[g] by rw[List.filter_cons,VH hh];rfl];exact⟨rfl,fun k3 g3 V7=>by
      have hk3:k3=0:=by
       have:=(Η V7).1;simp at this
       lia
      subst hk3;have V7:bp g=g3:=by simpa using V7
      subst V7;exact⟨t,rfl,k2⟩⟩
    ·have hh:decide (dZ f1 o p g.1 g.2=some w)=false:=by simpa using hh
     refine⟨⟨_,rfl⟩,?_,Cg,s1,by lia⟩;rw[et,List.filter_append,show[g].filter (fun q=>decide (dZ f1 o p q.1 q.2=some w))=[] by rw[List.filter_cons,hh];rfl,List.append_nil];exact P1
   ·rintro ys bG H' ⟨_,P1,Cg,s1,_⟩;rw[UH,List.take_length]at P1;exact⟨D,ys,rfl,s1,Cg,P1.same s1⟩
  rintro σ H1 ⟨D,vs,rfl,s1,Cg,P1⟩;obtain⟨t0,k1,k2⟩:=P1.2 0 (bp q0) (by rw[List.getElem?_map,h0];rfl);have QI:q0.1<n∧q0.2<m:=Hw q0 (List.mem_filter.mp (Ψ h0)).1;refine⟨fun σ H2=>∃wy us2,σ=[sR x,sI w,sR pr,sR D,sR wy,none]∧av H1 H2∧H1 wy=none∧H2 wy=some (.lst us2)∧iX H2 us2 ((fh f1 o p q0.1 q0.1 q0.2).map bp),?_,?_⟩
  ·have T1:=TR.keep s1;exact⟨_,rfl,x,dx,_,rfl,T1.ob,TY o p e b,_,rfl,D,_,_,_,rfl,rfl, .of Cg,aS (j:=0) k1,x,dx,e,b,es,bs,f1,o,p,n,m,t0,q0.1,q0.2,rfl,T1,k2,QI.1,QI.2,hn,fun H2 wy us2 s2 h2 h3 P2=>⟨wy,us2,rfl,s2,h2,h3,P2⟩⟩
  rintro σ H2 ⟨wy,us2,rfl,s2,X3,Im,P2⟩;have Fw:=P2.1;rw[List.length_map]at Fw;have Gj:(fh f1 o p q0.1 q0.1 q0.2).length≤1001:=by
   have:=CZ (f:=f1) (o:=o) (p:=p) q0.1 q0.1 q0.2
   lia
  have UI:=GQ (f:=f1) (o:=o) (p:=p) q0.1 q0.1 q0.2 QI.1 QI.2;generalize fh f1 o p q0.1 q0.1 q0.2=W at P2 Fw Gj UI q;refine⟨fun σ H3=>∃r,σ=[sR x,sI w,sR pr,sR D,sR wy,sR r]∧av H2 H3∧H2 r=none∧H3 r=some (.lst (W.map fun q=>cA (dZ f1 o p q.1 q.2))),?_,?_⟩
  ·refine⟨_,rfl,wy,rfl,⟨_, .of Im⟩,fun D2 mP=>?_⟩;refine d8 (xs:=us2) (fun k ys bG H'=>(∃u v,bG=[u,v,sR x])∧ys=(W.take k).map (fun q=>cA (dZ f1 o p q.1 q.2))∧H' D2=some (.lst ys)∧av H2 H') ⟨⟨_,_,rfl⟩,rfl,af,av.upd mP⟩ ?_ ?_ ?_
   ·rintro k ys bG H' _ ⟨_,_,_,s3⟩;exact .of (s3 _ _ Im)
   ·rintro k v ys bG H' hv ⟨⟨u,v2,rfl⟩,rfl,Ij,s3⟩;have hk:k<W.length:=by rw[←Fw];exact(Η hv).1
    have ek:W[k]?=some W[k]:=by simp[hk]
    have hm:=UI W[k] (List.getElem_mem hk);generalize W[k]=g at ek hm;obtain⟨t,k1,k2⟩:=P2.2 k (bp g) (by rw[List.getElem?_map,ek];rfl);rw[hv]at k1;cases k1;have T3:=TR.keep (s1.trans (s2.trans s3));have kt:=s3 _ _ k2;obtain⟨rb,g1,g2,g3⟩:=T3.te.at hm.1;refine⟨t,_,rfl, .of kt,rfl,_,_,rfl,_,_,rfl,rfl,?_⟩;refine zS ?_;refine⟨_,rfl,x,aC,dx,_,_,rfl,T3.ob,Rc.cl,Rc.lV,iY o p e b,_,rfl,e,_,_,_,rfl,rfl, .of T3.he,aS g2,_,rfl,rb,_,_,_,rfl,rfl, .of g3,aS (dN hm.2),?_⟩;refine⟨Ij,bR (by rw[List.length_map,List.length_take];lia),⟨_,_,rfl⟩,?_,af,s3.eP mP⟩;rw[List.take_succ,ek];simp
   ·rintro ys bG H' ⟨_,rfl,Ij,s3⟩;rw[Fw,List.take_length]at Ij;exact⟨D2,rfl,s3,mP,Ij⟩
  rintro σ H3 ⟨r,rfl,s3,uI,AB⟩;refine⟨_,rfl,_,rfl,_,rfl,_,rfl,fun y dy hy Ly gO=>?_⟩;have s4:av H3 (upd (upd H3 dy (.own y)) y (.ins aT dy [])):=(av.upd Ly).eP hy;refine⟨y,dy,wy,r,pr,w,rfl,af,?_⟩;refine⟨rfl,?_⟩;rw[d0];have s5:av H3 (upd (upd H3 dy (.own y)) y (.ins aT dy (oP w wy r pr))):=(av.upd Ly).eP hy;have sH:=s1.trans (s2.trans s3);exact q _ y dy wy r us2 (sH.trans s5) (sH.free hy) (sH.free Ly) (s1.free X3) ((s1.trans s2).free uI) af (by rw[aj gO];exact af) (s5 _ _ (s3 _ _ Im)) (P2.same (s3.trans s5)) (s5 _ _ AB)
variable(Gc:T8 K aO)
theorem pF:aP ["self"] ["self"] (aw gY):=gL
include T Gc in
theorem pG{f:Addr}{fd:FuncData}(F:fT K "__init__" "Groups.__init__" gY f fd):bE P w K mg base (de P w) true 1 f fd ["self"] (v9 aO):=by
 refine F.gv pF Ζ gM
 ·obtain⟨x,dx,rfl,_⟩:=h;rfl
 ·obtain⟨x,dx,rfl,hx,q⟩:=h;refine⟨_,(xX (Υ K (pv 0) m7) (Xm (Υ K (pv 0) m7))),?_⟩;have a1:=aU "leads" (.ref 0) [];simp only[List.length_nil]at a1;refine fun dl V8=>?_
  have n1:x≠dl:=aG hx V8;refine⟨_,rfl,x,aO,dx,_,rfl,by rw[aj n1];exact hx,Gc.cl,Gc.qm,QY,?_⟩;refine fun dm Oh=>?_
  have n2:x≠dm:=fun z=>by rw[z,af]at Oh;cases Oh
  have Nf:upd H dl (.dT []) dm=none:=by rw[aj (Ne.symm n2)]at Oh;exact Oh
  have n3:dm≠dl:=fun z=>by rw[z,af]at Nf;cases Nf
  have UJ:H dm=none:=by rw[aj n3]at Nf;exact Nf
  refine⟨_,rfl,x,aO,dx,_,rfl,by rw[aj n2,af],Gc.cl,Gc.members,by have:=aU "leads" (.ref dl) [];simp at this;lia,?_⟩;rw[T9];refine q _ (fun a=>a=dl∨a=dm) ?_ ?_ ?_
  ·exact fun b u hb e=>by
    rw[aj hb,aj (aG e UJ),aj hb,aj (aG e V8)];exact e
  ·rintro a (rfl|rfl)
   ·exact V8
   ·exact UJ
  ·refine⟨dx,dl,dm,[],[],fun _=>none,fun _=>none,af,fun z=>z.elim n1 n2,⟨?_,?_, .inl rfl, .inr rfl,Ne.symm n3,fun p=>rfl,fun p=>rfl,fun p q a e=>(by cases e),fun kv h=>(by cases h), .nil,fun l ms e=>(by cases e),fun p l e=>(by cases e),fun l ms e=>(by cases e)⟩,fun a b=>⟨False.elim,fun⟨l,e,_⟩=>(by cases e)⟩,Nat.le_refl _,Nat.le_refl _⟩
   ·rw[aj (Ne.symm n1),aj (Ne.symm n3),aj (Ne.symm n1),af]
   ·rw[aj (Ne.symm n2),af]
theorem xW:aP ["self","pair"] ["self","pair"] (aw jn):=gL
include T Gc in
theorem aaB{f:Addr}{fd:FuncData}(F:fT K "has" "Groups.has" jn f fd):bE P w K mg base (de P w) true 1 f fd ["self","pair"] (E2 aO):=by
 refine F.gv xW Ζ gM
 ·obtain⟨x,t,p,S,E1,B,rfl,_⟩:=h;rfl
 ·obtain⟨x,t,p,S,E1,B,rfl,G,ht,q⟩:=h;have hu:=hr.units;have hu:(A.deeper (PyProof.Rows.envOfC "Groups.has" (aw jn) s.heap.objs.size f iy)).units+1<cLine:=by lia
  refine⟨_,(Xm (Γ (@Jt _ _ _ _ _ _ (@vI _ _ _ _ _ hu (pv 1) (Β K)) (by first|exact cP _ (QY) (QY)|rfl)))),?_⟩;obtain⟨dg,dl,dm,kl,km,ld,mm,hg,K',D,hE,V9,Rv⟩:=G;refine⟨_,rfl,_,rfl,x,aO,dg,_,_,rfl,hg,Gc.cl,Gc.qm,j9 dl dm,dl,_,rfl, .t (k:=bS p) D.hl ht,q _ ?_⟩;rw[hE];have:=D.lv p;cases e:ld p with
  |none=>
   rw[e]at this;have this:b_ kl (bS p)=none:=this;rw[this];simp
  |some l=>
   rw[e]at this;obtain⟨t2,h1,_⟩:=this;rw[h1];simp
theorem qE:aP ["self","pair"] ["self","pair"] (aw fV):=gL
include T Gc in
theorem qG{f:Addr}{fd:FuncData}(F:fT K "take_in" "Groups.take_in" fV f fd):bE P w K mg base (de P w) true 1 f fd ["self","pair"] (Am aO):=by
 refine F.gv qE Ζ gM
 ·obtain⟨x,t,p,S,E1,B,rfl,_⟩:=h;rfl
 ·obtain⟨x,t,p,S,E1,B,rfl,G,ht,hB,q⟩:=h;have hu:=hr.units;have hu:(A.deeper (PyProof.Rows.envOfC "Groups.take_in" (aw fV) s.heap.objs.size f iy)).units+1<cLine:=by lia
  refine⟨_,(Xm (Ι (ρ (@Hq _ _ _ _ _ hu (pv 1) (Β K))) (xX (@nX _ _ _ _ _ _ _ _ _ hu (Β K) (pv 1) (pv 1) (by exact rfl)) (Xm (@nX _ _ _ _ _ _ _ _ _ hu (Β K) (pv 1) (@bV _ _ _ _ (Ic (pv 1))) (by exact rfl)))) ba)),?_⟩;obtain⟨dg,dl,dm,kl,km,ld,mm,hg,K',D,hE,V9,Rv⟩:=id G;refine⟨_,rfl,_,rfl,x,aO,dg,_,_,rfl,hg,Gc.cl,Gc.qm,j9 dl dm,dl,_,rfl, .t (k:=bS p) D.hl ht,_,rfl,?_⟩;have lv:=D.lv p;cases e:ld p with
  |some l=>
   rw[e]at lv;obtain⟨t2,h1,_⟩:=lv;rw[h1];refine m_ ?_;refine q H S (.same (.refl H)) (G.iff (fun a b=>?_) (by lia));unfold N2;refine⟨fun z=>z.elim id ?_, .inl⟩;rintro⟨rfl,rfl⟩;rw[hE];exact⟨l,e,e⟩
  |none=>
   rw[e]at lv;have lv:b_ kl (bS p)=none:=lv;rw[lv];refine jD ?_;have nx:x≠dl:=fun z=>K' (z▸D.sl)
   have V_:x≠dm:=fun z=>K' (z▸D.sm)
   have X4:t≠dl:=fun z=>by rw[z,D.hl]at ht;cases ht
   have ntm:t≠dm:=fun z=>by rw[z,D.hm]at ht;cases ht
   refine⟨_,rfl,_,rfl,x,aO,dg,_,_,rfl,hg,Gc.cl,Gc.qm,j9 dl dm,_,rfl,dl,_,rfl, .t (k:=bS p) D.hl ht (bR Nz),?_⟩;refine⟨_,rfl,ay XD,fun a ha=>?_⟩;have na:a≠dl:=fun z=>by rw[z,af]at ha;cases ha
   have Fv:H a=none:=by rw[aj na]at ha;exact ha
   have Ux:x≠a:=aG hg Fv;have Z':dm≠a:=aG D.hm Fv;have nta:t≠a:=aG ht Fv;refine⟨_,rfl,x,aO,dg,_,_,rfl,by rw[aj Ux,aj nx];exact hg,Gc.cl,Gc.members,jx dl dm,_,rfl,dm,_,rfl, .t (k:=bS p) (by rw[aj Z',aj (Ne.symm D.ne)];exact D.hm) (by rw[aj nta,aj X4];exact ht) (bR Nz),?_⟩;refine q _ (fun y=>S y∨y=a) ⟨fun y hy=>hy.imp id (fun z=>by rw[z];exact Fv),fun b o hb eb=>?_⟩ ?_
   ·rw[aj (fun z:b=dm=>hb (by rw[z];exact D.sm)),aj (aG eb Fv),aj (fun z:b=dl=>hb (by rw[z];exact D.sl))];exact eb
   refine⟨dg,dl,dm,_,_,_,_,by rw[aj V_,aj Ux,aj nx];exact hg,fun z=>z.elim K' Ux,D.take (t:=t) (a:=a) e ht Fv ?_ af ?_ ?_,fun a1 b1=>?_,?_,?_⟩
   ·rw[aj D.ne,aj (Ne.symm na),af]
   ·rw[aj (Ne.symm Z'),af]
   ·intro b o h1 h2 eb;rw[aj h2,aj (aG eb Fv),aj h1];exact eb
   ·unfold N2;rw[hE];constructor
    ·rintro(⟨l,h1,h2⟩|⟨z1,z2⟩)
     ·exact⟨l,by rw[M9 (fun z=>by rw[z,e]at h1;cases h1)];exact h1,by rw[M9 (fun z=>by rw[z,e]at h2;cases h2)];exact h2⟩
     ·exact⟨p,by rw[VH z1],by rw[VH z2]⟩
    ·rintro⟨l,h1,h2⟩;by_cases z1:a1=p
     ·by_cases z2:b1=p
      ·exact .inr ⟨z1,z2⟩
      ·rw[VH z1]at h1;rw[M9 z2]at h2;cases h1;obtain⟨ms,HW⟩:=D.ml _ _ h2;have:=D.self _ _ HW;rw[e]at this;cases this
     ·rw[M9 z1]at h1;by_cases z2:b1=p
      ·rw[VH z2]at h2;cases h2;obtain⟨ms,HW⟩:=D.ml _ _ h1;have:=D.self _ _ HW;rw[e]at this;cases this
      ·rw[M9 z2]at h2;exact .inl ⟨l,h1,h2⟩
   ·exact Nat.le_trans (gH _ _ _) (by lia)
   ·exact Nat.le_trans (gH _ _ _) (by lia)
theorem cV:aP ["self","pair","other","lead","gone","moved","member"] ["self","pair","other"] (aw fI):=gL
include T Gc in
theorem uK{f:Addr}{fd:FuncData}(F:fT K "unite" "Groups.unite" fI f fd):bE P w K mg base (de P w) true 1 f fd ["self","pair","other"] (v_ aO):=by
 refine F.gv cV Ζ gM
 ·obtain⟨x,t,u,p,q,S,E1,B,rfl,_⟩:=h;rfl
 ·obtain⟨x,t,u,p,q,S,E1,B,rfl,G,ht,VO,hp,hq,hB,qq⟩:=h;have hu:=hr.units;have X5:(A.deeper (PyProof.Rows.envOfC "Groups.unite" (aw fI) s.heap.objs.size f iy)).units<cLine:=by lia
  have hu:(A.deeper (PyProof.Rows.envOfC "Groups.unite" (aw fI) s.heap.objs.size f iy)).units+1<cLine:=by lia
  refine⟨_,(Zq (Zr (3) cV.nd (@jj _ _ _ _ _ _ hu (Β K) (pv 1) (fun _ _=>rfl))) (Zq (Zr (4) cV.nd (@jj _ _ _ _ _ _ hu (Β K) (pv 2) (fun _ _=>rfl))) (Xm (Ι (Ν (HU K X5) (pv 3) (pv 4) (br _)) (Zq (Ι (Ν vE (γ (aV K) T.dA (Ic (@jj _ _ _ _ _ _ hu (Β K) (pv 3) (fun _ _=>rfl)))) (γ (aV K) T.dA (Ic (@jj _ _ _ _ _ _ hu (Β K) (pv 4) (fun _ _=>rfl)))) (br _)) (Zq (Zr (3) cV.nd (@jj _ _ _ _ _ _ hu (Β K) (pv 2) (fun _ _=>rfl))) (Xm (Zr (4) cV.nd (@jj _ _ _ _ _ _ hu (Β K) (pv 1) (fun _ _=>rfl))))) ba) (Zq (Zr (5) cV.nd (@Kx _ _ _ _ _ _ _ hu (Β K) (pv 4) ⟨rfl,rfl,rfl,rfl⟩)) (Zq (@dU _ _ _ _ _ _ _ _ hX.own Α (@cx _ K _ _ _ (pv 5) (OB)) (Μ (6) cV.nd) (Xm (@nX _ _ _ _ _ _ _ _ _ hu (Β K) (pv 6) (pv 3) (by exact rfl))) (by intro _;rfl)) (Xm (Χ (ν K PySem.F.plainAttrs_list PySem.F.slot_list_extend PySem.F.type_list_extend se (@jj _ _ _ _ _ _ hu (Β K) (pv 3) (fun _ _=>rfl)) (Ic (pv 5)))))))) ba)))),?_⟩;obtain⟨dg,dl,dm,kl,km,ld,mm,hg,K',D,hE,V9,Rv⟩:=id G;obtain⟨l,Oi,_⟩:=(hE p p).mp hp;obtain⟨g,Oj,_⟩:=(hE q q).mp hq;obtain⟨tl,vl,zi⟩:∃tl,b_ kl (bS p)=some (.ref tl)∧H tl=some (.tup (mU l)):=by have:=D.lv p;rw[Oi]at this;exact this
  obtain⟨tg,vg,Rw⟩:∃tg,b_ kl (bS q)=some (.ref tg)∧H tg=some (.tup (mU g)):=by have:=D.lv q;rw[Oj]at this;exact this
  refine⟨fun σ H1=>H1=H∧σ=[sR x,sR t,sR u,sR tl,none,none,none],⟨_,rfl,x,aO,dg,_,_,rfl,hg,Gc.cl,Gc.qm,j9 dl dm,_,rfl,dl,_,rfl,by have:=lq.t (k:=bS p) D.hl ht;rw[vl]at this;exact this,rfl,rfl⟩,?_⟩;rintro σ H1 ⟨rfl,rfl⟩;refine⟨fun σ H2=>H2=H1∧σ=[sR x,sR t,sR u,sR tl,sR tg,none,none],⟨_,rfl,x,aO,dg,_,_,rfl,hg,Gc.cl,Gc.qm,j9 dl dm,_,rfl,dl,_,rfl,by have:=lq.t (k:=bS q) D.hl VO;rw[vg]at this;exact this,rfl,rfl⟩,?_⟩;rintro σ H2 ⟨rfl,rfl⟩;refine⟨_,rfl,_,rfl,tl,tg,_,_,rfl,rfl, .of zi, .of Rw,rfl,rfl,_,rfl,?_⟩;rw[Mz];by_cases GW:l=g
  ·rw[decide_eq_true GW];refine m_ ?_;refine qq _ (.same (.refl _)) (G.iff (fun a b=>?_) (Nat.le_refl _));subst GW;unfold sL;rw[hE,hE,hE,hE,hE,Oi,Oj];constructor
   ·rintro(z|⟨z1,z2⟩)
    ·exact z
    ·have y1:ld a=some l:=by rcases z1 with⟨y,h1,h2⟩|⟨y,h1,h2⟩<;>(cases h2;exact h1)
     have y2:ld b=some l:=by rcases z2 with⟨y,h1,h2⟩|⟨y,h1,h2⟩<;>(cases h2;exact h1)
     exact⟨l,y1,y2⟩
   ·exact .inl
  rw[decide_eq_false GW];refine jD ?_;obtain⟨m1,Jk⟩:=D.ml p l Oi;obtain⟨m2,Ng⟩:=D.ml q g Oj;obtain⟨al,us1,UK,uE,P1,_⟩:∃a us,b_ km (bS l)=some (.ref a)∧H2 a=some (.lst us)∧iX H2 us m1∧S a:=by have:=D.mv l;rw[Jk]at this;exact this
  obtain⟨ag,us2,V',Nh,P2,_⟩:∃a us,b_ km (bS g)=some (.ref a)∧H2 a=some (.lst us)∧iX H2 us m2∧S a:=by have:=D.mv g;rw[Ng]at this;exact this
  have gl:∀{tt:Addr}{r:Pr},H2 tt=some (.tup (mU r))→lq H2 dm (.ref tt) (b_ km (bS r)):=fun h=>lq.t (k:=bS _) D.hm h
  have gle:∀{tt:Addr}{r:Pr},H2 tt=some (.tup (mU r))→lq H2 dl (.ref tt) (b_ kl (bS r)):=fun h=>lq.t (k:=bS _) D.hl h
  refine⟨fun σ H3=>H3=H2∧∃l g tl tg p' q',σ=[sR x,sR t,sR u,sR tl,sR tg,none,none]∧l≠g∧H2 tl=some (.tup (mU l))∧H2 tg=some (.tup (mU g))∧ld p'=some l∧ld q'=some g∧∀a b,sL E1 p q a b↔sL E1 p' q' a b,?_,?_⟩
  ·refine⟨_,rfl,x,aO,dg,_,_,rfl,hg,Gc.cl,Gc.members,jx dl dm,_,rfl,dm,_,rfl,by have:=gl zi;rw[UK]at this;exact this,al,_,rfl, .inl (.of uE),?_⟩;refine⟨_,rfl,x,aO,dg,_,_,rfl,hg,Gc.cl,Gc.members,jx dl dm,_,rfl,dm,_,rfl,by have:=gl Rw;rw[V']at this;exact this,ag,_,rfl, .inl (.of Nh),?_⟩;refine⟨_,_,rfl,rfl,_,rfl,?_⟩;refine bQ (fun _=>?_) (fun _=>?_)
   ·refine⟨fun σ H3=>H3=H2∧σ=[sR x,sR t,sR u,sR tg,sR tg,none,none],⟨_,rfl,x,aO,dg,_,_,rfl,hg,Gc.cl,Gc.qm,j9 dl dm,_,rfl,dl,_,rfl,by have:=gle VO;rw[vg]at this;exact this,rfl,rfl⟩,?_⟩;rintro σ H3 ⟨rfl,rfl⟩;refine⟨_,rfl,x,aO,dg,_,_,rfl,hg,Gc.cl,Gc.qm,j9 dl dm,_,rfl,dl,_,rfl,by have:=gle ht;rw[vl]at this;exact this,rfl,g,l,tg,tl,q,p,rfl,Ne.symm GW,Rw,zi,Oj,Oi,fun a b=>HV⟩
   ·exact⟨rfl,l,g,tl,tg,p,q,rfl,GW,zi,Rw,Oi,Oj,fun a b=>Iff.rfl⟩
  rintro σ H3 ⟨rfl,l,g,tl,tg,p',q',rfl,GW,zi,Rw,Oi,Oj,hun⟩;obtain⟨m1,Jk⟩:=D.ml p' l Oi;obtain⟨m2,Ng⟩:=D.ml q' g Oj;obtain⟨al,us1,UK,uE,P1,sal⟩:∃a us,b_ km (bS l)=some (.ref a)∧H3 a=some (.lst us)∧iX H3 us m1∧S a:=by have:=D.mv l;rw[Jk]at this;exact this
  obtain⟨ag,us2,V',Nh,P2,sag⟩:∃a us,b_ km (bS g)=some (.ref a)∧H3 a=some (.lst us)∧iX H3 us m2∧S a:=by have:=D.mv g;rw[Ng]at this;exact this
  have nlg:al≠ag:=fun z=>GW (D.inj l g al UK (by rw[V',z]))
  have l1:=D.Ca (D.ms l m1 Jk).1 (fun r hr=>⟨l,((D.ms l m1 Jk).2 r).mp hr⟩);have l2:=D.Ca (D.ms g m2 Ng).1 (fun r hr=>⟨g,((D.ms g m2 Ng).2 r).mp hr⟩);have nx:x≠dl:=fun z=>K' (by rw[z];exact D.sl)
  have V_:x≠dm:=fun z=>K' (by rw[z];exact D.sm)
  have UL:al≠dl:=fun z=>by rw[z,D.hl]at uE;cases uE
  have UM:al≠dm:=fun z=>by rw[z,D.hm]at uE;cases uE
  have UN:ag≠dl:=fun z=>by rw[z,D.hl]at Nh;cases Nh
  have QJ:ag≠dm:=fun z=>by rw[z,D.hm]at Nh;cases Nh
  have Fw:=P2.1;refine⟨fun σ H4=>H4=upd H3 dm (.dT (jC km (bS g)))∧σ=[sR x,sR t,sR u,sR tl,sR tg,sR ag,none],?_,?_⟩
  ·exact⟨_,rfl,x,aO,dg,_,_,rfl,hg,Gc.cl,Gc.members,jx dl dm,dm,rfl, .inr ⟨km, .of D.hm⟩,_,rfl,dm,tg,km,bS g,_,rfl,rfl,D.hm,Rw,V',rfl,rfl⟩
  rintro σ H4 ⟨rfl,rfl⟩;refine⟨fun σ H5=>(∃w,σ=[sR x,sR t,sR u,sR tl,sR tg,sR ag,w])∧∃xR,H5 dl=some (.dT xR)∧xR.length≤B∧(∀r,b_ xR (bS r)=if r∈m2 then some (.ref tl)else b_ kl (bS r))∧SameBut dl (upd H3 dm (.dT (jC km (bS g)))) H5,?_,?_⟩
  ·refine⟨_,rfl,ag,rfl,⟨_, .of (by rw[aj QJ];exact Nh)⟩,?_⟩;refine gQ (xs:=us2) (fun i σ H5=>(∃w,σ=[sR x,sR t,sR u,sR tl,sR tg,sR ag,w])∧∃xR,H5 dl=some (.dT xR)∧xR.length≤B∧(∀r,b_ xR (bS r)=if r∈m2.take i then some (.ref tl)else b_ kl (bS r))∧SameBut dl (upd H3 dm (.dT (jC km (bS g)))) H5) ?_ ?_ ?_ ?_
   ·exact⟨⟨_,rfl⟩,kl,by rw[aj D.ne];exact D.hl,V9,fun r=>Xx, .refl⟩
   ·rintro i σ H5 _ ⟨_,xR,_,_,_,s5⟩;exact .of (s5 _ _ UN (by rw[aj QJ];exact Nh))
   ·rintro i v σ H5 hv ⟨⟨w,rfl⟩,xR,h5,Wa,Lz,s5⟩;have hi:i<m2.length:=by rw[←Fw];exact(Η hv).1
    have ei:m2[i]?=some m2[i]:=by simp[hi]
    have jK:m2[i]∈m2:=List.getElem_mem hi;generalize m2[i]=r0 at ei jK;obtain⟨tr,k1,k2⟩:=P2.2 i r0 ei;rw[hv]at k1;cases k1;have Z6:tr≠dl:=fun z=>by rw[z,D.hl]at k2;cases k2
    have X6:tr≠dm:=fun z=>by rw[z,D.hm]at k2;cases k2
    have k5:=s5 tr _ Z6 (by rw[aj X6];exact k2);have g5:=s5 x _ nx (by rw[aj V_];exact hg);refine⟨_,rfl,_,rfl,x,aO,dg,_,_,rfl,g5,Gc.cl,Gc.qm,j9 dl dm,_,rfl,dl,_,rfl, .t (k:=bS r0) h5 k5 (bR Nz),⟨_,rfl⟩,_,af,?_,fun r=>?_,s5.upd⟩
    ·have Hw:b_ xR (bS r0)≠none:=by
      rw[Lz];split
      ·simp
      ·have:=D.lv r0;rw[((D.ms g m2 Ng).2 r0).mp jK]at this;obtain⟨t0,z,_⟩:=this;rw[z];simp
     have:(putK xR (bS r0) (.ref tl)).length=xR.length:=by
      unfold putK;rw[iW,VH (by cases z:b_ xR (bS r0)<;>simp_all),List.length_map]
     lia
    ·rw[ll,Lz];have et:m2.take (i+1)=m2.take i++[r0]:=by rw[List.take_succ,ei];rfl
     rw[et];by_cases e:r=r0
     ·rw[VH (by rw[e]),VH (by simp[e])]
     ·rw[M9 (fun z=>e (d_ z))];by_cases e2:r∈m2.take i
      ·rw[VH e2,VH (by simp[e2])]
      ·rw[M9 e2,M9 (by simp[e,e2])]
   ·rintro σ H5 ⟨⟨w,rfl⟩,xR,h5,Wa,Lz,s5⟩;rw[Fw,List.take_length]at Lz;exact⟨⟨_,rfl⟩,xR,h5,Wa,Lz,s5⟩
  rintro σ H5 ⟨⟨w,rfl⟩,xR,h5,Wa,Lz,s5⟩;have X4:tl≠dl:=fun z=>by rw[z,D.hl]at zi;cases zi
  have X7:tl≠dm:=fun z=>by rw[z,D.hm]at zi;cases zi
  have g5:=s5 x _ nx (by rw[aj V_];exact hg);have m5:=s5 dm _ (Ne.symm D.ne) af;have al5:=s5 al _ UL (by rw[aj UM];exact uE);have ag5:=s5 ag _ UN (by rw[aj QJ];exact Nh);have tl5:=s5 tl _ X4 (by rw[aj X7];exact zi);have vd:b_ (jC km (bS g)) (bS l)=some (.ref al):=by rw[nY,M9 (fun z=>GW (d_ z))];exact UK
  refine⟨_,rfl,x,aO,dg,_,_,rfl,g5,Gc.cl,Gc.members,jx dl dm,_,rfl,dm, .ref al,rfl,by have:=lq.t (k:=bS l) m5 tl5;rw[vd]at this;exact this, .inl ⟨rfl,_, .of al5⟩,_,rfl,al,ag,us1,us2,rfl,rfl,al5,ag5,?_,?_⟩
  ·have:=P1.1;exact ay Nz
  have aaW:x≠al:=fun z=>K' (by rw[z];exact sal)
  have Ol:∀b o,¬S b→H3 b=some o→upd H5 al (.lst (us1++us2)) b=some o:=fun b o hb eb=>by
   rw[aj (fun z=>hb (by rw[z];exact sal))];exact s5 b o (fun z=>hb (by rw[z];exact D.sl)) (by rw[aj (fun z=>hb (by rw[z];exact D.sm))];exact eb)
  refine qq _ ⟨fun _ h=> .inl h,Ol⟩ ?_;refine⟨dg,dl,dm,xR,jC km (bS g),_,_,Ol x _ K' hg,K',D.Ub (tl:=tl) GW Jk Ng UK P1 P2 uE zi Lz (by rw[aj (Ne.symm UL)];exact h5) (by rw[aj (Ne.symm UM)];exact m5) af ?_,fun a b=>(hun a b).trans (Qj GW Oi Oj (D.ms g m2 Ng).2 hE a b),Wa,Nat.le_trans (Cz _ _) Rv⟩;intro b o h1 h2 h3 eb;rw[aj h3];exact s5 b o h1 (by rw[aj h2];exact eb)
variable(cX:mg "sorted"=none)
theorem wR:aP ["self"] ["self"] (aw iM):=gL
include T Gc cX in
theorem wU{f:Addr}{fd:FuncData}(F:fT K "told" "Groups.told" iM f fd):bE P w K mg base (de P w) true 1 f fd ["self"] (wH aO):=by
 refine F.gv wR Ζ gM
 ·obtain⟨x,S,E1,B,rfl,_⟩:=h;rfl
 ·obtain⟨x,S,E1,B,rfl,G,hB,xT,q⟩:=h;refine⟨_,(Xm (Γ (@gi _ _ _ _ _ _ _ _ _ _ _ _ _ _ (by exact rfl) (show bK ["self"] (aw iM) _ ["members"] [] []from DY) (@MB _ H _ _ _ _ _ (Β K) (OB) (OB) (OB)) (fun _ _ _ _ _=>(Μ (0) (show(["members"]:List Str).Nodup by decide+kernel))) (fun _ _ _ _ _=>fS) (fun _ _ _ _ _=>(@aR _ _ _ _ _ _ _ _ _ (Dd K) (by exact rfl) cX PyProof.Rows.Boot.«sorted» (Ic (pv 0)) (QY) (QY) (OB) (OB))) (by intro _;rfl)))),?_⟩;obtain⟨dg,dl,dm,kl,km,ld,mm,hg,K',D,hE,V9,Rv⟩:=G;refine⟨_,rfl,x,aO,dg,_,_,rfl,hg,Gc.cl,Gc.members,jx dl dm,dm,km,rfl,D.hm,fun o nf R hR=>?_⟩;have nR:R≠dm:=fun z=>by rw[z,af]at hR;cases hR
  have X8:H R=none:=by rw[aj nR]at hR;exact hR
  refine HR (fun k ys bG H'=>(∃u,bG=[u])∧(∃gs,gS H' ys gs∧gs.length=k∧∀(i:Nat) ps,gs[i]?=some ps→∃l ms v,km[i]?=some (bS l,v)∧mm l=some ms∧ps.Perm ms∧ps.Pairwise fun p q=>jw p q=true)∧H' R=some (.lst ys)∧(∀b o,b≠dm→H b=some o→H' b=some o)∧H' dm=some (.ve o (.dT km))∧∀(i:Nat) a,ys[i]?=some (.ref a)→H a=none∧a≠R) ⟨⟨_,rfl⟩,⟨[], .nil,rfl,fun i ps e=>by simp at e⟩,af,fun b o hb e=>by rw[aj (aG e X8),aj hb];exact e,by rw[aj (Ne.symm nR),af],fun i a e=>by simp at e⟩ ?_ ?_ ?_
  ·rintro k ys bG H' _ ⟨_,_,_,_,h4,_⟩;exact h4
  ·rintro k ⟨key,v⟩ ys bG H' hk ⟨⟨u,rfl⟩,⟨gs,W1,hl,Rx⟩,UO,Ry,Oh,Ht⟩;obtain⟨l,el⟩:=D.key _ (Ψ hk);have el:key=bS l:=el;subst el;have vv:=GV D.GU hk;have mv:=D.mv l;cases e:mm l with
   |none=>
    rw[e]at mv;have mv:b_ km (bS l)=none:=mv;rw[mv]at vv;cases vv
   |some ms=>
    rw[e]at mv;obtain⟨a,us,z1,z2,z3,z4⟩:=mv;rw[vv]at z1;cases z1;obtain⟨nd,HW⟩:=D.ms l ms e;have X9:a≠dm:=fun z=>by rw[z,D.hm]at z2;cases z2
    have T:fD H H':=fun b v hb=>Ry b _ (fun z=>by rw[z,D.hm]at hb;cases hb) hb
    refine kR ?_;refine⟨_,rfl,a,us,ms,rfl, .of (Ry _ _ X9 z2),z3.cO T,nd,xT ms nd (fun p hp=>(hE p p).mpr ⟨l,(HW p).mp hp,(HW p).mp hp⟩),fun D2 ys2 qs mP P2 perm pw=>?_⟩;have Wb:D2≠R:=fun z=>by rw[z,UO]at mP;cases mP
    have nD3:D2≠dm:=fun z=>by rw[z,Oh]at mP;cases mP
    have UP:H D2=none:=by
     cases z:H D2 with
     |none=>rfl
     |some o2=>rw[Ry D2 o2 nD3 z]at mP;cases mP
    have hyl:=W1.1;have ZL:k<km.length:=(Η hk).1;refine⟨by rw[aj (Ne.symm Wb)];exact UO,bR Nz,⟨_,rfl⟩,⟨gs++[qs],?_,by simp;lia,fun i ps hi=>?_⟩,af,fun b o hb eb=>?_,?_,fun i a ha=>?_⟩
    ·have W2:gS (upd H' D2 (.lst ys2)) ys gs:=W1.same (av.upd mP);have W3:gS (upd H' D2 (.lst ys2)) (ys++[.ref D2]) (gs++[qs]):=W2.append (.one af (P2.same (av.upd mP)));refine W3.put (fun i e=>?_) (by rw[aj (Ne.symm Wb)];exact UO);by_cases hi:i<ys.length
     ·rw[ζ hi]at e;exact(Ht i R e).2 rfl
     ·have:=(Η e).1;have:i=ys.length:=by simp at this;lia
      subst this;simp at e;exact Wb e
    ·by_cases Rk:i<gs.length
     ·rw[ζ Rk]at hi;exact Rx i ps hi
     ·have:=(Η hi).1;have:i=gs.length:=by simp at this;lia
      subst this;simp at hi;subst hi;exact⟨l,ms,_,by rw[hl];exact hk,e,perm,pw⟩
    ·rw[aj (aG eb X8),aj (aG eb UP)];exact Ry b o hb eb
    ·rw[aj (Ne.symm nR),aj (Ne.symm nD3)];exact Oh
    ·by_cases hi:i<ys.length
     ·rw[ζ hi]at ha;exact Ht i a ha
     ·have:=(Η ha).1;have:i=ys.length:=by simp at this;lia
      subst this;simp at ha;subst ha;exact⟨UP,Wb⟩
  ·rintro ys bG H' ⟨_,⟨gs,W1,hl,Rx⟩,UO,Ry,Oh,Ht⟩;refine q _ R ys gs ⟨fun a h=> .inl h,fun b o hb eb=>Ry b o (fun z=>hb (by rw[z];exact D.sm)) eb⟩ X8 UO W1 (fun k a h=>(Ht k a h).1) ?_;have at_:∀ps∈gs,∃l ms,mm l=some ms∧ps.Perm ms∧ps.Pairwise (fun p q=>jw p q=true):=fun ps Ji=>by
    obtain⟨i,hi⟩:=List.getElem?_of_mem Ji;obtain⟨l,ms,v,_,h2,h3,h4⟩:=Rx i ps hi;exact⟨l,ms,h2,h3,h4⟩
   refine⟨fun ps Ji=>?_,fun ps Ji=>?_,fun ps Ji a ha b=>?_,fun a ha=>?_,?_⟩
   ·obtain⟨_,_,_,_,h4⟩:=at_ ps Ji
    exact h4
   ·obtain⟨l,ms,h2,h3,_⟩:=at_ ps Ji
    intro z;subst z;have:l∈ms:=((D.ms l ms h2).2 l).mpr (D.self l ms h2);have:=h3.mem_iff.mpr this;cases this
   ·obtain⟨l,ms,h2,h3,_⟩:=at_ ps Ji
    have ha:=((D.ms l ms h2).2 a).mp (h3.mem_iff.mp ha);rw[h3.mem_iff,(D.ms l ms h2).2,hE,ha];exact⟨fun z=>⟨l,rfl,z⟩,fun⟨y,h,z⟩=>by cases h;exact z⟩
   ·obtain⟨l,h1,_⟩:=(hE a a).mp ha;obtain⟨ms,HW⟩:=D.ml a l h1;have mv:=D.mv l;rw[HW]at mv;obtain⟨aa,us,z1,_⟩:=mv;obtain⟨i,hi⟩:=C4 z1;have jv:i<gs.length:=by rw[hl];exact(Η hi).1
    obtain⟨l2,ms2,v,h5,h6,h7,_⟩:=Rx i gs[i] (by simp[jv]);rw[hi]at h5;have:l=l2:=d_ (Prod.mk.inj (Ρ h5)).1;subst this;refine⟨gs[i],List.getElem_mem jv,h7.mem_iff.mpr ?_⟩;exact((D.ms l ms2 h6).2 a).mpr h1
   ·rw[List.pairwise_iff_getElem];intro i j hi hj xJ a ha hb;obtain⟨l1,m1,v1,a1,a2,a3,_⟩:=Rx i gs[i] (by simp[hi]);obtain⟨l2,m2,v2,b1,b2,b3,_⟩:=Rx j gs[j] (by simp[hj]);have ha:=((D.ms l1 m1 a2).2 a).mp (a3.mem_iff.mp ha);have hb:=((D.ms l2 m2 b2).2 a).mp (b3.mem_iff.mp hb);rw[ha]at hb;cases hb;have nd:=D.GU;have h1:(km.map (·.1))[i]?=some (bS l1):=by rw[List.getElem?_map,a1];rfl
    have h2:(km.map (·.1))[j]?=some (bS l1):=by rw[List.getElem?_map,b1];rfl
    have:=(List.getElem?_inj (Η h1).1 nd).mp (h1.trans h2.symm)
    lia
variable(oh:j5 P w K mg base true 1 "Groups" aO ["self"] [] (v9 aO))
variable(Hc:N5 K aB)
theorem mR:aP ["self","trails","worth"] ["self","trails","worth"] (aw fJ):=gL
include T oh Hc in
theorem mS{f:Addr}{fd:FuncData}(F:fT K "__init__" "Gathering.__init__" fJ f fd):bE P w K mg base (de P w) true 3 f fd ["self","trails","worth"] (sM aB aO):=by
 refine F.gv mR Ζ gM
 ·obtain⟨x,dx,tr,W,rfl,_⟩:=h;rfl
 ·obtain⟨x,dx,tr,W,rfl,hx,q⟩:=h;refine⟨_,(xX (Υ K (pv 0) (pv 1)) (xX (Υ K (pv 0) (pv 2)) (xX (Υ K (pv 0) (@KJ _ _ _ _ _ _ _ _ _ _ _ oh (hr.mono Ε) hX.pass (OB) (QY))) (Xm (Υ K (pv 0) m7))))),?_⟩;refine⟨_,rfl,_,rfl,x,aB,dx,_,rfl,hx,Hc.cl,Hc.we,QY,?_⟩;refine⟨_,rfl,_,rfl,x,aB,dx,_,rfl,af,Hc.cl,Hc.worth,by have:=aU "trails" (.ref tr) [];simp at this;lia,?_⟩;rw[d0];refine fun g dg hg Wc gO=>?_
  have UQ:x≠g:=fun z=>by rw[←z,af]at hg;cases hg
  have X_:x≠dg:=fun z=>by rw[←z,af]at Wc;cases Wc
  have UR:H g=none:=by rw[aj (Ne.symm UQ)]at hg;exact hg
  have US:H dg=none:=by rw[aj (Ne.symm X_)]at Wc;exact Wc
  refine⟨g,dg,rfl,af,fun H1 S1 Cj X' G1=>⟨rfl,?_⟩⟩;have keep:∀b o,b≠x→H b=some o→H1 b=some o:=fun b o hb e=>Cj b o (aG e UR) (by rw[aj (aG e UR),aj (aG e US),aj hb];exact e)
  have mT:H1 x=some (.ins aB dx (bq "worth" (.int W) (bq "trails" (.ref tr) []))):=Cj x _ UQ (by rw[aj UQ,aj X_];exact af);have l2:(bq "worth" (.int W) (bq "trails" (.ref tr) [])).length≤2:=by
   have:=aU "trails" (.ref tr) [];have:=aU "worth" (.int W) (bq "trails" (.ref tr) []);simp at*;lia
  refine⟨_,rfl,x,aB,dx,_,rfl,mT,Hc.cl,Hc.groups,by lia,?_⟩;refine fun dk Wd=>?_
  have Rz:x≠dk:=fun z=>by rw[←z,af]at Wd;cases Wd
  have Lb:H1 dk=none:=by rw[aj (Ne.symm Rz)]at Wd;exact Wd
  have Yb:H dk=none:=by
   cases e:H dk with
   |none=>rfl
   |some o=>rw[keep dk o (Ne.symm Rz) e]at Lb;cases Lb
  refine⟨_,rfl,x,aB,dx,_,rfl,by rw[aj Rz];exact af,Hc.cl,Hc.marks,by have:=aU "groups" (.ref g) (bq "worth" (.int W) (bq "trails" (.ref tr) []));lia,?_⟩;rw[Qo];have We:¬S1 x:=fun z=>by
   have:=X' x z;rw[aj UQ,aj X_,af]at this;cases this
  have s1g:¬S1 g:=fun z=>by
   have:=X' g z;rw[af]at this;cases this
  have G2:=G1.nt;have fin:∀b o,b≠x→H1 b=some o→upd (upd (upd H1 x (.ins aB dx (bq "groups" (.ref g) (bq "worth" (.int W) (bq "trails" (.ref tr) []))))) dk (.dT [])) x (.ins aB dx (kY tr W g dk)) b=some o:=fun b o hb e=>by
   rw[aj hb,aj (aG e Lb),aj hb];exact e
  have Yc:¬(S1 dk∧NT H1 dk):=fun z=>by
   obtain⟨o,e,_⟩:=z.2;rw[Lb]at e;cases e
  refine q _ (fun a=>(S1 a∧NT H1 a)∨a=dk) (fun b o hb e=>fin b o hb (keep b o hb e)) (fun a ha=>?_) ⟨dx,g,dk,[],fun a=>S1 a∧NT H1 a,af,G2.keep (fun a o hs e=>fin a o (fun z=>We (by rw[←z];exact hs.1)) e) (fun b v hb=>fin b _ (fun z=>by rw[z,mT]at hb;cases hb) hb) (fun o e=>fin g o (Ne.symm UQ) e),by rw[aj (Ne.symm Rz),af],fun c=>rfl,Nat.le_refl _,fun a=>Iff.rfl,Yc,fun z=>z.elim (fun y=>We y.1) Rz,fun z=>z.elim (fun y=>s1g y.1) (fun y=>?_),fun a ha=>?_⟩
  ·rcases ha with ha|ha
   ·have:=X' a ha.1;cases e:H a with
    |none=>rfl
    |some o=>rw[aj (aG e UR),aj (aG e US),aj (fun z=>We (by rw[←z];exact ha.1)),e]at this;cases this
   ·rw[ha];exact Yb
  ·obtain⟨dg2,dl,dm,kl,MQ,ld,mm,og,_⟩:=G1;rw[y,Lb]at og;cases og
  ·rcases ha with⟨h1,o,h2,h3⟩|ha
   ·exact⟨o,fin a o (fun z=>We (by rw[←z];exact h1)) h2,h3⟩
   ·exact⟨_,by rw[ha,aj (Ne.symm Rz),af],fun v=>(Xx)⟩
variable(dw:c6 P w K mg base true 1 aO "unite" ["self","pair","other"] (v_ aO))
theorem qH:aP ["self","crossing","pair"] ["self","crossing","pair"] (aw fW):=gL
include T Hc dw in
theorem qI{f:Addr}{fd:FuncData}(F:fT K "mark" "Gathering.mark" fW f fd):bE P w K mg base (de P w) true 2 f fd ["self","crossing","pair"] (wg aB aO):=by
 refine F.gv qH Ζ gM
 ·obtain⟨x,tc,tp,tr,W,c,r,S,s1,B,M,rfl,_⟩:=h;rfl
 ·obtain⟨x,tc,tp,tr,W,c,r,S,s1,B,M,rfl,G,hc,hp,Qk,h0,hB,hM,q⟩:=h;have hu:=hr.units;have hu:(A.deeper (PyProof.Rows.envOfC "Gathering.mark" (aw fW) s.heap.objs.size f iy)).units+1<cLine:=by lia
  refine⟨_,(Xm (Ι (ρ (@vI _ _ _ _ _ hu (pv 1) (Β K))) (Xm (Χ (η (Β K) dw a9 (R7 (@jj _ _ _ _ _ _ hu (Β K) (pv 1) (fun _ _=>rfl)) (Ic (pv 2)))))) (Xm (@nX _ _ _ _ _ _ _ _ _ hu (Β K) (pv 1) (pv 2) (by exact rfl))))),?_⟩;obtain⟨dx,g,dk,km,S1,D⟩:=id G;refine⟨_,rfl,_,rfl,x,aB,dx,_,_,rfl,D.ob,Hc.cl,Hc.marks,ny tr W g dk,dk,_,rfl, .t (k:=bS c) D.hk hc,_,rfl,?_⟩;have mv:=D.mv c;cases e:s1.2 c with
  |none=>
   rw[e]at mv;have mv:b_ km (bS c)=none:=mv;rw[mv];refine m_ ?_;have hl:=D.len;refine⟨_,rfl,_,rfl,x,aB,dx,_,_,rfl,D.ob,Hc.cl,Hc.marks,ny tr W g dk,_,rfl,dk,_,rfl, .t (k:=bS c) D.hk hc (bR Nz),?_⟩;obtain⟨u,D'⟩:=D.put (c:=c) hp;refine q _ S u ⟨dx,g,dk,putK km (bS c) (.ref tp),S1,?_⟩;unfold C5;rw[e];exact D'
  |some r0=>
   rw[e]at mv;obtain⟨t0,v0,ht0⟩:=mv;rw[v0];refine jD ?_;obtain⟨dg,dl,dm,kl,MQ,ld,mm,og,_⟩:=id D.gr;refine⟨_,rfl,x,aB,dx,_,_,rfl,D.ob,Hc.cl,Hc.groups,jy tr W g dk,g,dg,_,rfl,og,GR dl dm,_,rfl,x,aB,dx,_,_,rfl,D.ob,Hc.cl,Hc.marks,ny tr W g dk,_,rfl,dk,_,rfl,by have:=lq.t (k:=bS c) D.hk hc;rw[v0]at this;exact this,_,rfl,g,t0,tp,r0,r,S1,s1.1,B,rfl,D.gr,ht0,hp,h0 r0 e,Qk,hB,fun H' u G'=>?_⟩;obtain⟨S',S2,u2,D2⟩:=D.VP u G';refine q _ S' u2 ⟨dx,g,dk,km,S2,?_⟩;unfold C5;rw[e];exact⟨D2.ob,D2.gr,D2.hk,D2.mv,by have:=D2.len;lia,D2.sS,D2.GU,D2.nx,D2.ng,D2.nt⟩
variable(cK:c6 P w K mg base true 1 aO "take_in" ["self","pair"] (Am aO))
variable(cL:c6 P w K mg base true 2 aB "mark" ["self","crossing","pair"] (wg aB aO))
theorem fO:aP ["self","crossing","pair","later","before"] ["self","crossing","pair"] (aw d5):=gL
include T bT bF Hc dw cK cL in
theorem nG{f:Addr}{fd:FuncData}(F:fT K "go_over" "Gathering.go_over" d5 f fd):bE P w K mg base (de P w) true 3 f fd ["self","crossing","pair"] (wj aB aO aC):=by
 refine F.gv fO Ζ gM
 ·obtain⟨x,tc,tp,tr,dt,e,b,es,bs,f,o,p,n,m,W,i,j,r,S,s1,B,M,H0,rfl,_⟩:=h;rfl
 ·obtain⟨x,tc,tp,tr,dt,e,b,es,bs,f1,o,p,n,m,W,i,j,r,S,s1,B,M,H0,rfl,G,TR,BA,hc,hp,hi,hj,TP,OK,hs,hB,hM,q⟩:=h;have hu:=hr.units;have hu:(A.deeper (PyProof.Rows.envOfC "Gathering.go_over" (aw d5) s.heap.objs.size f iy)).units+1<cLine:=by lia
  refine⟨_,(Zq (Zr (3) fO.nd (@jj _ _ _ _ _ _ hu (Β K) (pv 1) (fun _ _=>rfl))) (Zq (Ι (@cZ _ _ _ (η (Β K) bT a9 (R7 (pv 1) (Ic (pv 2)))) (by intro _;rfl)) (Zq (Χ (η (Β K) cK a9 (Ic (pv 2)))) (Xm (Χ (η (Β K) dw a9 (R7 (pv 2) (Ic (pv 3))))))) ba) (Xm (@dU _ _ _ _ _ _ _ _ hX.own Α (@cx _ K _ _ _ (η (Β K) bF a9 (Ic (pv 1))) (OB)) (Μ (4) fO.nd) (Xm (Χ (η (pv 0) cL a9 (R7 (pv 4) (Ic (pv 3)))))) (by intro _;rfl))))),?_⟩;obtain⟨dx,g,dk,km,S1,D⟩:=id G;obtain⟨tl,vl,zi⟩:∃tl,b_ km (bS (bp (i+1,j+1)))=some (.ref tl)∧H tl=some (.tup (mU r)):=by have:=D.mv (bp (i+1,j+1));rw[hs]at this;exact this
  obtain⟨Rp,i2,j2,e2,OV⟩:=OK.mr _ _ hs;obtain⟨rfl,rfl⟩:=gT e2;refine⟨fun σ H1=>H1=H∧σ=[sR x,sR tc,sR tp,sR tl,none],⟨_,rfl,x,aB,dx,_,_,rfl,D.ob,Hc.cl,Hc.marks,ny tr W g dk,_,rfl,dk,_,rfl,by have:=lq.t (k:=bS (bp (i+1,j+1))) D.hk hc;rw[vl]at this;exact this,rfl,rfl⟩,?_⟩;rintro σ H1 ⟨rfl,rfl⟩;have T1:=TR.keep BA.same;refine⟨fun σ H2=>σ=[sR x,sR tc,sR tp,sR tl,none]∧∃S',ql S H1 S' H2∧i5 H2 aB aO x tr W S' (N3 f1 o p i j s1 r) (B+1) M,?_,?_⟩
  ·refine⟨_,rfl,x,aB,dx,_,_,rfl,D.ob,Hc.cl,Hc.we,n6 tr W g dk,tr,dt,_,rfl,T1.ob,N0 o p e b,_,rfl,_,rfl,tr,dt,e,b,es,bs,f1,o,p,n,m,tc,tp,i+1,j+1,i,j,rfl,T1,hc,hp,by lia,by lia,hi,hj,_,rfl,?_⟩;unfold N3;refine bQ (fun hh=>?_) (fun hh=>?_)
   ·have hh:=of_decide_eq_true hh;rw[VH hh];refine⟨fun σ H2=>σ=[sR x,sR tc,sR tp,sR tl,none]∧∃S',ql S H1 S' H2∧i5 H2 aB aO x tr W S' (N2 s1.1 (bp (i,j)),s1.2) (B+1) M,?_,?_⟩
    ·obtain⟨dg,dl,dm,kl,MQ,ld,mm,og,_⟩:=id D.gr;refine⟨_,rfl,x,aB,dx,_,_,rfl,D.ob,Hc.cl,Hc.groups,jy tr W g dk,g,dg,_,rfl,og,KN dl dm,_,rfl,g,tp,bp (i,j),S1,s1.1,B,rfl,D.gr,hp,by lia,fun H' Qq u G'=>?_⟩;obtain⟨S',S2,u2,D2⟩:=D.VP u G';exact⟨rfl,S',u2,dx,g,dk,km,S2,D2⟩
    rintro σ H2 ⟨rfl,S',u2,G2⟩;obtain⟨Wf,g2,Wg,MQ,S2,D2⟩:=id G2;have T:=u2.cO G.nt;obtain⟨dg,dl,dm,kl,km3,ld,mm,og,_⟩:=id D2.gr;refine⟨_,rfl,x,aB,Wf,_,_,rfl,D2.ob,Hc.cl,Hc.groups,jy tr W g2 Wg,g2,dg,_,rfl,og,GR dl dm,_,rfl,_,rfl,g2,tp,tl,bp (i,j),r,S2,_,B+1,rfl,D2.gr,T _ _ hp,T _ _ zi, .inr ⟨rfl,rfl⟩, .inl Rp,by lia,fun H' u G'=>?_⟩;obtain⟨VL,S3,u3,D3⟩:=D2.VP u G';exact⟨rfl,VL,u2.trans u3,Wf,g2,Wg,MQ,S3,D3⟩
   ·have hh:¬dZ f1 o p i j=Bq f1 o p (i+1) (j+1):=fun z=>hh (decide_eq_true z)
    rw[M9 hh];exact⟨rfl,S, .same (.refl _),G.cast rfl (by lia) (Nat.le_refl _)⟩
  rintro σ H2 ⟨rfl,S2,u2,G2⟩;obtain⟨OKB,GWB,_⟩:=KS TP OK Rp OV;have G9:=BA.ups u2;have T2:=TR.keep G9.same;have TT:=u2.cO G.nt;obtain⟨Wf,g2,Wg,MQ,S3,D2⟩:=id G2;refine⟨_,rfl,x,aB,Wf,_,_,rfl,D2.ob,Hc.cl,Hc.we,n6 tr W g2 Wg,tr,dt,_,rfl,T2.ob,GP o p e b,_,rfl,tr,dt,e,b,es,bs,f1,o,p,n,m,tc,i,j,rfl,T2,TT _ _ hc,hi,hj,fun H3 rr us s3 uI AB P3=>?_⟩;refine⟨rr,rfl,⟨_, .of AB⟩,?_⟩;have hlen:(bX f1 o p i j).length≤2:=by
   unfold bX;rw[List.length_append];split<;>split<;>simp
  have hco:=ur TP OV;refine gQ (xs:=us) (fun k σ H4=>(∃w,σ=[sR x,sR tc,sR tp,sR tl,w])∧∃S4,ql S H1 S4 H4∧i5 H4 aB aO x tr W S4 (((bX f1 o p i j).take k).foldl (fun s c=>C5 s c r) (N3 f1 o p i j s1 r)) (B+1) (M+k)∧H4 rr=some (.lst us)∧iX H4 us (bX f1 o p i j)∧¬S4 rr∧H4 tl=some (.tup (mU r))) ?_ ?_ ?_ ?_
  ·have G3:=G2.same s3;refine⟨⟨_,rfl⟩,S2,u2.trans (.same s3),G3.cast XD (Nat.le_refl _) (Nat.le_refl _),AB,P3,G2.out uI,s3 _ _ (TT _ _ zi)⟩
  ·rintro k σ H4 _ ⟨_,S4,_,_,h4,_⟩;exact .of h4
  ·rintro k v σ H4 hv ⟨⟨w,rfl⟩,S4,u4,G4,h4,P4,n4,t4⟩;have hk:k<(bX f1 o p i j).length:=by rw[←P4.1];exact(Η hv).1
   have ek:(bX f1 o p i j)[k]?=some (bX f1 o p i j)[k]:=by simp[hk]
   have jK:(bX f1 o p i j)[k]∈bX f1 o p i j:=List.getElem_mem hk;generalize (bX f1 o p i j)[k]=c at ek jK;obtain⟨t,k1,k2⟩:=P4.2 k c ek;rw[hv]at k1;cases k1;obtain⟨OK4,GW4,_⟩:=wc TP ((bX f1 o p i j).take k) _ OKB (GWB.e _ _ Rp) (fun c hc=>hco c (List.mem_of_mem_take hc));obtain⟨dx4,g4,dk4,km4,S5,D4⟩:=id G4;refine⟨_,rfl,x,dx4,_,rfl,D4.ob,GX tr W g4 dk4,_,rfl,_,rfl,x,t,tl,tr,W,c,r,S4,_,B+1,M+k,rfl,G4,k2,t4,GW4.e _ _ (GWB.e _ _ Rp),fun r0 h=>(OK4.mr _ _ h).1,by lia,by lia,fun H5 S6 u5 G5=>?_⟩;have T5:=u5.cO G4.nt;refine⟨⟨_,rfl⟩,S6,u4.trans u5,G5.cast ?_ Ξ (by lia),u5.keep rr _ n4 h4,P4.cO T5,u5.out n4 h4,T5 _ _ t4⟩;rw[List.take_succ,ek];simp
  ·rintro σ H4 ⟨⟨w,rfl⟩,S4,u4,G4,h4,P4,n4,t4⟩;refine q _ S4 u4 (G4.cast ?_ Ξ (by have:=P4.1;lia));rw[P4.1,List.take_length];rfl
variable(jo:c6 P w K mg base true 1 aO "has" ["self","pair"] (E2 aO))
variable(d6:c6 P w K mg base true 3 aB "go_over" ["self","crossing","pair"] (wj aB aO aC))
theorem gA:aP ["self","i","j","pair","behind"] ["self","i","j"] (aw fv):=gL
include T Rc cJ Hc cK cL jo d6 in
theorem pH{f:Addr}{fd:FuncData}(F:fT K "visit" "Gathering.visit" fv f fd):bE P w K mg base (de P w) true 4 f fd ["self","i","j"] (sN aB aO aC):=by
 refine F.gv gA Ζ gM
 ·obtain⟨x,tr,dt,e,b,es,bs,f,o,p,n,m,W,i,j,S,s1,B,M,H0,rfl,_⟩:=h;rfl
 ·obtain⟨x,tr,dt,e,b,es,bs,f1,o,p,n,m,W,i,j,S,s1,B,M,H0,rfl,G,TR,BA,hi,hj,hn,hm,TP,OK,hB,hM,q⟩:=h;have hu:=hr.units;have hu:(A.deeper (PyProof.Rows.envOfC "Gathering.visit" (aw fv) s.heap.objs.size f iy)).units+1<cLine:=by lia
  refine⟨_,(Zq (Zr (3) gA.nd (@iw _ _ _ _ _ (R7 (pv 1) (Ic (pv 2))))) (Zq (Zr (4) gA.nd (@iw _ _ _ _ _ (R7 (yt dW (pv 1) ar) (Ic (yt dW (pv 2) ar))))) (Zq (Ι (Ν ij (zU (aH K) (zU (aH K) (μ K (Β K)) (pv 1)) (pv 2)) (Β K) (br _)) (Xm (Χ (η (Β K) cK a9 (Ic (pv 3))))) ba) (Zq (Ι (ρ (@vI _ _ _ _ _ hu (pv 4) (Β K))) (Xm (Χ (η (pv 0) d6 a9 (R7 (pv 4) (Ic (pv 3)))))) ba) (Xm (Ι (@PW.pt _ _ _ (@pw_and _ _ _ _ _ _ _ (@cZ _ _ _ (η (Β K) jo a9 (Ic (pv 3))) (by intro _;rfl)) (@pw_and1 _ _ _ _ (@cZ _ _ _ (η (Β K) cJ a9 (Ic (pv 3))) (by intro _;rfl))))) (Xm (Χ (η (pv 0) cL a9 (R7 (pv 3) (Ic (pv 3)))))) ba)))))),?_⟩;refine⟨fun σ H1=>∃t,σ=[sR x,sI i,sI j,sR t,none]∧av H H1∧H1 t=some (.tup (mU (bp (i,j)))),⟨_,rfl,_,rfl,ay XD,fun t ht=>⟨t,rfl,av.upd ht,af⟩⟩,?_⟩;rintro σ H1 ⟨t,rfl,s2,ht⟩;refine⟨fun σ H2=>∃u,σ=[sR x,sI i,sI j,sR t,sR u]∧av H1 H2∧H2 u=some (.tup (mU (bp (i+1,j+1)))),⟨_,rfl,_,_,rfl,rfl,_,rfl,_,_,rfl,rfl,ay XD,fun u hu=>⟨u,rfl,av.upd hu,af⟩⟩,?_⟩;rintro σ H2 ⟨u,rfl,s3,VX⟩;have K9:=s3 _ _ ht;have Yd:=s2.trans s3;have G2:=G.same Yd;have G9:=BA.more Yd;have T2:=TR.keep G9.same;obtain⟨rb,g1,g2,g3⟩:=T2.te.at hi;refine⟨fun σ H3=>σ=[sR x,sI i,sI j,sR t,sR u]∧∃S',ql S H2 S' H3∧i5 H3 aB aO x tr W S' (MO f1 o p W i j s1) (B+1) M,?_,?_⟩
  ·obtain⟨dx,g,dk,km,S1,D⟩:=id G2;refine⟨_,rfl,x,aB,dx,_,_,rfl,D.ob,Hc.cl,Hc.we,n6 tr W g dk,tr,aC,dt,_,_,rfl,T2.ob,Rc.cl,Rc.lV,iY o p e b,_,rfl,e,_,_,_,rfl,rfl, .of T2.he,aS g2,_,rfl,rb,_,_,_,rfl,rfl, .of g3,aS (dN hj),_,rfl,x,aB,dx,_,_,rfl,D.ob,Hc.cl,Hc.worth,KZ tr W g dk,?_⟩;have Og:decide (cA (dZ f1 o p i j)=V.int W)=decide (dZ f1 o p i j=some W):=by cases dZ f1 o p i j<;>simp[cA]
   refine⟨by cases dZ f1 o p i j<;>rfl,_,rfl,?_⟩;rw[Og];unfold MO;refine bQ (fun hh=>?_) (fun hh=>?_)
   ·have hh:=of_decide_eq_true hh;rw[VH hh];obtain⟨dg,dl,dm,kl,MQ,ld,mm,og,_⟩:=id D.gr;refine⟨_,rfl,x,aB,dx,_,_,rfl,D.ob,Hc.cl,Hc.groups,jy tr W g dk,g,dg,_,rfl,og,KN dl dm,_,rfl,g,t,bp (i,j),S1,s1.1,B,rfl,D.gr,K9,by lia,fun H' Qq u G'=>?_⟩;obtain⟨S',S2,u2,D2⟩:=D.VP u G';exact⟨rfl,S',u2,dx,g,dk,km,S2,D2⟩
   ·have hh:¬dZ f1 o p i j=some W:=fun z=>hh (decide_eq_true z)
    rw[M9 hh];exact⟨rfl,S, .same (.refl _),G2.cast rfl (by lia) (Nat.le_refl _)⟩
  rintro σ H3 ⟨rfl,S3,u3,G3⟩;have Wh:=u3.cO G2.nt;have Ni:=G9.ups u3;obtain⟨OK1,GW1,_⟩:=KU OK i j;refine⟨fun σ H4=>σ=[sR x,sI i,sI j,sR t,sR u]∧∃S',ql S3 H3 S' H4∧i5 H4 aB aO x tr W S' (HY f1 o p W i j s1) (B+2) (M+2),?_,?_⟩
  ·obtain⟨dx,g,dk,km,S1,D⟩:=id G3;refine⟨_,rfl,_,rfl,x,aB,dx,_,_,rfl,D.ob,Hc.cl,Hc.marks,ny tr W g dk,dk,_,rfl, .t (k:=bS (bp (i+1,j+1))) D.hk (Wh _ _ VX),_,rfl,?_⟩;have mv:=D.mv (bp (i+1,j+1));have ee:(MO f1 o p W i j s1).2=s1.2:=rfl;rw[ee]at mv;unfold HY;cases e9:s1.2 (bp (i+1,j+1))with
   |none=>
    rw[e9]at mv;have mv:b_ km (bS (bp (i+1,j+1)))=none:=mv;rw[mv];refine m_ ?_;exact⟨rfl,S3, .same (.refl _),G3.cast rfl (by lia) (by lia)⟩
   |some r=>
    rw[e9]at mv;obtain⟨tl,vl,zi⟩:=mv;rw[vl];refine jD ?_;exact⟨_,rfl,x,dx,_,rfl,D.ob,MP tr W g dk,_,rfl,_,rfl,x,u,t,tr,dt,e,b,es,bs,f1,o,p,n,m,W,i,j,r,S3,_,B+1,M,H0,rfl,G3,TR,Ni,Wh _ _ VX,Wh _ _ K9,hi,hj,TP,OK1,e9,by lia,by lia,fun H' S' u G'=>⟨rfl,S',u,G'⟩⟩
  rintro σ H4 ⟨rfl,S4,u4,G4⟩;have TT4:=u4.cO G3.nt;have BA4:=Ni.ups u4;have T4:=TR.keep BA4.same;have Wi:=TT4 _ _ (Wh _ _ K9);obtain⟨OK2,GW2,_⟩:=KW TP OK i j;have uu:ql S H S4 H4:=(ql.same Yd).trans (u3.trans u4);obtain⟨dx,g,dk,km,S1,D⟩:=id G4;obtain⟨dg,dl,dm,kl,MQ,ld,mm,og,_⟩:=id D.gr;refine⟨_,rfl,x,aB,dx,_,_,rfl,D.ob,Hc.cl,Hc.groups,jy tr W g dk,g,dg,_,rfl,og,T_ dl dm,_,rfl,g,t,bp (i,j),S1,_,B+2,rfl,D.gr,Wi,fun b1 rZ=>?_⟩;refine⟨_,rfl,?_⟩;refine bQ (fun hh=>?_) (fun hh=>?_)
  ·refine⟨_,rfl,x,aB,dx,_,_,rfl,D.ob,Hc.cl,Hc.we,n6 tr W g dk,tr,dt,_,rfl,T4.ob,KL o p e b,_,rfl,tr,dt,e,b,es,bs,f1,o,p,n,m,t,i,j,rfl,T4,Wi,by lia,by lia,_,rfl,?_⟩;refine bQ (fun h2=>?_) (fun h2=>?_)
   ·have Hw:=rZ.mp hh;refine⟨_,rfl,x,dx,_,rfl,D.ob,GX tr W g dk,_,rfl,_,rfl,x,t,t,tr,W,bp (i,j),bp (i,j),S4,_,B+2,M+2,rfl,G4,Wi,Wi,Hw,fun r0 h=>(OK2.mr _ _ h).1,by lia,by lia,fun H5 S5 u5 G5=>?_⟩;refine q _ S5 (uu.trans u5) ?_;unfold DW;rw[VH ⟨Hw,h2⟩];exact G5
   ·refine q _ S4 uu (G4.cast ?_ Nz (by lia));unfold DW;rw[M9 (fun z=>h2 z.2)]
  ·refine m_ ?_;refine q _ S4 uu (G4.cast ?_ Nz (by lia));unfold DW;rw[M9 (fun z=>hh (rZ.mpr z.1))]
variable(jq:j5 P w K mg base true 3 "Gathering" aB ["self","trails","worth"] [] (sM aB aO))
variable(fB:c6 P w K mg base true 4 aB "visit" ["self","i","j"] (sN aB aO aC))
variable(iP:c6 P w K mg base true 1 aO "told" ["self"] (wH aO))
theorem g7:aP ["trails","worth","gathering","i","j"] ["trails","worth"] (aw k8):=gL
include T Rc Hc jq fB iP in
theorem wV{f:Addr}{fd:FuncData}(F:lu K "best_groups" "best_groups" k8 f fd):bE P w K mg base (de P w) true 5 f fd ["trails","worth"] (Aw aC):=by
 refine F.gv g7 Ζ gM
 ·obtain⟨tr,dt,e,b,es,bs,f,o,p,n,m,W,rfl,_⟩:=h;rfl
 ·obtain⟨tr,dt,e,b,es,bs,f1,o,p,n,m,W,rfl,TR,IT,LA,hn,hm,TP,xT,q⟩:=h;refine⟨_,(Zq (Zr (2) g7.nd (@lQ _ _ _ _ _ _ _ _ _ _ _ _ _ _ jq (hr.mono Ε) hX.pass (R7 (pv 0) (Ic (pv 1))) (OB) (QY) (OB) (OB))) (Zq (@dU _ _ _ _ _ _ _ _ hX.own Α (@zg _ _ _ _ _ _ _ _ (by exact rfl) T.iJ (R7 (yt iu (γ (aV K) T.dA (Ic (Β K))) ar) (R7 (@oN _ _ _ _ _ _ kN ar) (Ic (@oN _ _ _ _ _ _ kN ar)))) (OB) (OB)) (Μ (3) g7.nd) (Xm (@dU _ _ _ _ _ _ _ _ hX.own Α (@zg _ _ _ _ _ _ _ _ (by exact rfl) T.iJ (R7 (yt iu (γ (aV K) T.dA (Ic (zU (aH K) (Β K) (pv 3)))) ar) (R7 (@oN _ _ _ _ _ _ kN ar) (Ic (@oN _ _ _ _ _ _ kN ar)))) (OB) (OB)) (Μ (4) g7.nd) (Xm (Χ (η (pv 2) fB a9 (R7 (pv 3) (Ic (pv 4)))))) (by intro _;rfl))) (by intro _;rfl)) (Xm (Γ (@e_ _ _ _ _ _ _ _ _ _ _ _ _ _ (μ K (pv 2)) iP (hr.mono Ε) a9 (OB)))))),?_⟩;refine⟨fun σ H1=>∃gx S,σ=[sR tr,sI W,sR gx,none,none]∧Base H H1 S∧i5 H1 aB aO gx tr W S (fun _ _=>False,fun _=>none) 0 0,?_,?_⟩
  ·refine⟨_,rfl,_,rfl,fun y dy hy Ly gO=>⟨y,dy,tr,W,rfl,af,fun H' S sb fr G=>⟨rfl,y,S,rfl,⟨SameBut.sq hy Ly sb,fun a ha=>?_⟩,G⟩⟩⟩;have:=fr a ha;cases e9:H a with
   |none=>rfl
   |some o9=>rw[aj (aG e9 hy),aj (aG e9 Ly),e9]at this;cases this
  rintro σ H1 ⟨gx,S,rfl,BA,G⟩;have DZ:es.length=n:=TR.te.1;have V0:=Vd.start f1 o p W n m;refine⟨fun σ H2=>(∃u v,σ=[sR tr,sI W,sR gx,u,v])∧∃S s B M,Base H H2 S∧i5 H2 aB aO gx tr W S s B M∧Vd f1 o p W (Vb n m 0 0) s∧B≤6000,?_,?_⟩
  ·have T1:=TR.keep BA.same;refine⟨_,rfl,tr,aC,dt,_,_,rfl,T1.ob,Rc.cl,Rc.lV,iY o p e b,e,_,rfl, .inl (.of T1.he),_,_,rfl,rfl,_,rfl,_,rfl,_,_,rfl,⟨by rw[List.length_map,DZ];lia,by rw[List.length_map,DZ];lia,QY,QY⟩,?_⟩;have en:((((es.map V.ref).length:Nat):Int)-1- -1).toNat=n:=by rw[List.length_map,DZ];lia
   rw[en];refine CU (fun k σ H2=>(∃u v,σ=[sR tr,sI W,sR gx,u,v])∧∃S s B M,Base H H2 S∧i5 H2 aB aO gx tr W S s B M∧Vd f1 o p W (Vb n m (n-k) 0) s∧B≤2*(k*m)∧M≤3*(k*m)) ⟨⟨_,_,rfl⟩,S,_,0,0,BA,G,V0,by lia,by lia⟩ ?_ ?_
   ·rintro k σ H2 hk ⟨⟨u,v,rfl⟩,S2,s2,B,M,G9,G2,V2,hB,hM⟩;have ei:(((es.map V.ref).length:Nat):Int)-1-(k:Int)=((n-1-k:Nat):Int):=by rw[List.length_map,DZ];lia
    rw[ei];have T2:=TR.keep G9.same;obtain⟨rb,g1,g2,g3⟩:=T2.te.at (show n-1-k<n by lia);have V2:Vd f1 o p W (Vb n m (n-1-k) m) s2:=Vd.turn (by rw[show n-1-k+1=n-k by lia];exact V2);have hkm:(k+1)*m≤n*m:=Nat.mul_le_mul_right m Nz;have hks:(k+1)*m=k*m+m:=Nat.succ_mul k m;have lm:∀g:Nat→Option Int,(dJ m g).length=m:=fun g=>by simp[dJ]
    refine⟨_,rfl,tr,aC,dt,_,_,rfl,T2.ob,Rc.cl,Rc.lV,iY o p e b,_,rfl,e,_,_,_,rfl,rfl, .of T2.he,aS g2,rb,_,rfl, .inl (.of g3),_,_,rfl,rfl,_,rfl,_,rfl,_,_,rfl,⟨by rw[lm];lia,by rw[lm];lia,QY,QY⟩,?_⟩;have en2:((((dJ m (dZ f1 o p (n-1-k))).length:Nat):Int)-1- -1).toNat=m:=by rw[lm];lia
    rw[en2];refine CU (fun l σ H3=>(∃v,σ=[sR tr,sI W,sR gx,sI (((n-1-k:Nat):Int)),v])∧∃S s B M,Base H H3 S∧i5 H3 aB aO gx tr W S s B M∧Vd f1 o p W (Vb n m (n-1-k) (m-l)) s∧B≤2*(k*m+l)∧M≤3*(k*m+l)) ⟨⟨_,rfl⟩,S2,s2,B,M,G9,G2,V2,hB,hM⟩ ?_ ?_
    ·rintro l σ H3 hl ⟨⟨v3,rfl⟩,S3,s3,B3,M3,Ni,G3,V3,hB3,UT⟩;have ej:(((dJ m (dZ f1 o p (n-1-k))).length:Nat):Int)-1-(l:Int)=((m-1-l:Nat):Int):=by rw[lm];lia
     rw[ej];obtain⟨dx,g,dk,km,S1,D⟩:=id G3;have V3:Vd f1 o p W (Vb n m (n-1-k) (m-1-l+1)) s3:=by rw[show m-1-l+1=m-l by lia];exact V3
     refine⟨_,rfl,gx,dx,_,rfl,D.ob,K0 tr W g dk,_,rfl,_,rfl,gx,tr,dt,e,b,es,bs,f1,o,p,n,m,W,n-1-k,m-1-l,S3,s3,B3,M3,H,rfl,G3,TR,Ni,by lia,by lia,hn,hm,TP,V3.ok,by lia,by lia,fun H4 S4 u4 G4=>?_⟩;refine⟨⟨_,rfl⟩,S4,_,_,_,Ni.ups u4,G4,?_,by lia,by lia⟩;have:=V3.next TP (show n-1-k<n by lia) (show m-1-l<m by lia);rw[show m-(l+1)=m-1-l by lia];exact this
    ·rintro σ H3 ⟨⟨v3,rfl⟩,S3,s3,B3,M3,Ni,G3,V3,hB3,UT⟩;refine⟨⟨_,_,rfl⟩,S3,s3,B3,M3,Ni,G3,?_,by lia,by lia⟩;rw[show n-(k+1)=n-1-k by lia,show(0:Nat)=m-m by lia];exact V3
   ·rintro σ H2 ⟨⟨u,v,rfl⟩,S2,s2,B,M,G9,G2,V2,hB,hM⟩;rw[Nat.sub_self]at V2;exact⟨⟨_,_,rfl⟩,S2,s2,B,M,G9,G2,V2,by lia⟩
  rintro σ H2 ⟨⟨u,v,rfl⟩,S2,s2,B,M,G9,G2,V2,hB⟩;obtain⟨dx,g,dk,km,S1,D⟩:=id G2;obtain⟨dg,dl,dm,kl,MQ,ld,mm,og,_⟩:=id D.gr;have HG:=fun a b=>V2.Qn TP IT a b
  refine⟨_,rfl,gx,aB,dx,_,_,rfl,D.ob,Hc.cl,Hc.groups,jy tr W g dk,g,dg,_,rfl,og,Qh dl dm,g,S1,_,B,rfl,D.gr,by lia,fun ms nd h=>xT ms nd fun a ha=>(HG a a).mp (h a ha),fun H3 r us gs u3 uI AB W3 Q6 TD=>?_⟩;have Ni:Base H H2 S1:=⟨G9.same,fun a h=>G9.free a ((D.sS a).mpr (.inl h))⟩
  exact q _ r us gs (Ni.ups u3).same (G9.same.free uI) AB W3 (fun k a h=>G9.same.free (Q6 k a h)) (TD.iff HG)
theorem pI:aP ["taken","shut","pair"] ["taken"] (aw oa):=gL
include T in
theorem Fx{f:Addr}{fd:FuncData}(F:lu K "shut_by" "shut_by" oa f fd):bE P w K mg base (de P w) true 1 f fd ["taken"] Ag:=by
 refine F.gv pI Ζ gM
 ·obtain⟨v,shut,rfl,_⟩:=h;rfl
 ·obtain⟨v,shut,rfl,TV,hlen,q⟩:=h;have hu:=hr.units;have hu:(A.deeper (PyProof.Rows.envOfC "shut_by" (aw oa) s.heap.objs.size f iy)).units+1<cLine:=by lia
  refine⟨_,(xX (Zr (1) pI.nd m7) (Zq (Ι (ρ (@zA _ _ _ _ _ (pv 0))) (Xm (@dU _ _ _ _ _ _ _ _ hX.own Α (@cx _ K _ _ _ (pv 0) (OB)) (Μ (2) pI.nd) (Xm (@nX _ _ _ _ _ _ _ _ _ hu (pv 1) (pv 2) j1 Α)) (by intro _;rfl))) ba) (Xm (Γ (pv 1))))),?_⟩;refine fun d hd=>?_
  refine⟨fun σ H1=>(∃u,σ=[some v,sR d,u])∧av H H1∧∃kvs,H1 d=some (.dT kvs)∧GH kvs shut,?_,?_⟩
  ·refine⟨_,rfl,_,rfl,?_⟩;rcases TV with⟨rfl,rfl⟩|⟨l,us,rfl,hl,P1⟩
   ·refine bQ (fun hh=>absurd hh XD) (fun _=>?_);exact⟨⟨_,rfl⟩,av.upd hd,[],af,fun p=>by simp[Cw]⟩
   ·refine bQ (fun _=>?_) (fun hh=>absurd XD hh);have UH:=P1.1;refine⟨_,rfl,l,rfl,⟨_, .of (av.upd hd _ _ hl)⟩,?_⟩;refine gQ (xs:=us) (fun i σ H'=>(∃u,σ=[sR l,sR d,u])∧av H H'∧∃kvs,H' d=some (.dT kvs)∧kvs.length≤i∧GH kvs (shut.take i)) ?_ ?_ ?_ ?_
    ·exact⟨⟨_,rfl⟩,av.upd hd,[],af,Nat.le_refl _,fun p=>by simp[Cw]⟩
    ·rintro i σ H' _ ⟨_,s1,_⟩;exact .of (s1 _ _ hl)
    ·rintro i x σ H' hx ⟨⟨u,rfl⟩,s1,kvs,hD,hk,hS⟩;have hi:i<shut.length:=by rw[←UH];exact(Η hx).1
     obtain⟨t,Ob,K9⟩:=P1.Zy hi;rw[hx]at Ob;cases Ob;refine⟨_,rfl,_,rfl,d,_,rfl, .t (k:=bS (pr shut i)) hD (s1 _ _ K9) (bR Nz),⟨_,rfl⟩,s1.eP hd,_,af,Nat.le_trans (gH _ _ _) (by lia),fun p=>?_⟩;have e1:shut.take (i+1)=shut.take i++[pr shut i]:=by rw[List.take_succ,NP hi];rfl
     rw[ll,e1];by_cases hp:p=pr shut i
     ·rw[VH (by rw[hp])];simp[hp]
     ·rw[M9 (fun z=>hp ?_),hS p]
      ·simp[hp]
      ·simp only[bS,List.cons.injEq,Sum.inl.injEq,and_true]at z;exact Prod.ext z.1 z.2
    ·rintro σ H' ⟨⟨u,rfl⟩,s1,kvs,hD,_,hS⟩;rw[UH,List.take_length]at hS;exact⟨⟨_,rfl⟩,s1,kvs,hD,hS⟩
  rintro σ H1 ⟨⟨u,rfl⟩,s1,kvs,hD,hS⟩;exact⟨_,rfl,q H1 d kvs s1 hD hS⟩
variable(oj:cG P w K mg base true 1 "shut_by" ["taken"] Ag)
variable(eY:c6 P w K mg base true 1 aW "pair_worth" ["self","x","y"] (z9 aW))
theorem eE:aP ["first","second","terms","taken","shut","worths","i","x","row"] ["first","second","terms","taken"] (aw gf):=gL
include T Tc oj eY in
theorem wW{f:Addr}{fd:FuncData}(F:lu K "open_worths" "open_worths" gf f fd):bE P w K mg base (de P w) true 2 f fd ["first","second","terms","taken"] (wt aW):=by
 refine F.gv eE Ζ gM
 ·obtain⟨f,g,t,v,c,shut,rfl,_⟩:=h;rfl
 ·obtain⟨f1,g,t,v,c,shut,rfl,hf,hg,TF,TV,W_,hxl,hyl,q⟩:=h;have hu:=hr.units;have hu:(A.deeper (PyProof.Rows.envOfC "open_worths" (aw gf) s.heap.objs.size f iy)).units+1<cLine:=by lia
  have lx:(c.xs.map V.str).length=c.xs.length:=List.length_map ..;have ly:(c.ys.map V.str).length=c.ys.length:=List.length_map ..;refine⟨_,(Zq (@aK _ _ (4) _ _ _ _ eE.nd Α (Or.inr rfl) (Κ oj a9 (Ic (pv 3))) (OB) (by exact .inl rfl)) (Zq (Zr (5) eE.nd (@bV _ _ _ _ ai)) (Zq (@dU _ _ _ _ _ _ _ _ hX.own Α (@qh _ K _ _ _ _ _ _ _ (by exact rfl) T.j6 (Ic (pv 0)) (OB) (OB)) (@lR _ K _ _ _ (2) _ (by exact rfl) (@cQ _ _ _ _ _ (@bj _ _ (6) _ eE.nd Α (Or.inr rfl) (by first|exact .inl rfl|exact .inr rfl|assumption)) (@cQ _ _ _ _ _ (@bj _ _ (7) _ eE.nd Α (Or.inr rfl) (by first|exact .inl rfl|exact .inr rfl|assumption)) j4 (OB)) (OB)) (OB) (OB) (OB)) (Zq (@vi _ _ _ _ _ _ _ _ _ _ _ _ _ _ _ (8) _ _ (by exact rfl) eE.nd Α (by exact rfl) (show bK ["first","second","terms","taken","shut","worths","i","x","row"] (aw gf) _ ["j","y"] [6,4,2,7] ["i","shut","terms","x"]from DY) (@qh _ K _ _ _ _ _ _ _ (by exact rfl) T.j6 (Ic (pv 1)) (OB) (OB)) (fun _ _ _ _ _=>(@lR _ K _ _ _ (2) _ (by exact rfl) (@cQ _ _ _ _ _ (Μ (0) (show(["j","y","i","shut","terms","x"]:List Str).Nodup by decide+kernel)) (@cQ _ _ _ _ _ (Μ (1) (show(["j","y","i","shut","terms","x"]:List Str).Nodup by decide+kernel)) j4 (OB)) (OB)) (OB) (OB) (OB))) (fun _ _ _ _ _=>fS) (fun _ _ _ _ _=>(@m3 _ _ _ _ _ _ _ _ (ρ (@vI _ _ _ _ _ hu (@iw _ _ _ _ _ (R7 (pv 2) (Ic (pv 0)))) (pv 3))) lM (η (pv 4) eY a9 (R7 (pv 5) (Ic (pv 1)))))) (OB) (by intro _;rfl)) (Xm (Χ (ν K PySem.F.plainAttrs_list PySem.F.slot_list_append PySem.F.type_list_append dF (pv 5) (Ic (pv 8)))))) (by intro _;rfl)) (Xm (Γ (pv 5)))))),?_⟩;refine⟨fun σ H1=>∃d kvs,σ=[sR f1,sR g,sR t,some v,sR d,none,none,none,none]∧av H H1∧H1 d=some (.dT kvs)∧GH kvs shut,?_,?_⟩
  ·exact⟨_,rfl,v,shut,rfl,TV,W_,fun H1 d kvs s1 hd hS=>⟨d,kvs,rfl,s1,hd,hS⟩⟩
  rintro σ H1 ⟨d,kvs,rfl,s1,hd1,hS⟩;refine⟨fun σ H2=>∃e,σ=[sR f1,sR g,sR t,some v,sR d,sR e,none,none,none]∧av H1 H2∧H1 e=none∧H2 e=some (.lst []),?_,?_⟩
  ·exact⟨ay XD,fun e he=>⟨e,rfl,av.upd he,he,af⟩⟩
  rintro σ H2 ⟨e,rfl,s2,K_,Ru⟩;refine⟨fun σ H3=>(∃u1 u2 u3,σ=[sR f1,sR g,sR t,some v,sR d,sR e,u1,u2,u3])∧av H1 H3∧∃as:List Addr,H3 e=some (.lst (as.map V.ref))∧jF H3 as (jV c shut) c.xs.length c.ys.length∧(∀a∈as,H1 a=none∧a≠e)∧as.Nodup,?_,?_⟩
  ·refine⟨_,rfl,f1,rfl,⟨_, .of (s2 _ _ (s1 _ _ hf))⟩,?_⟩;refine CK (xs:=c.xs.map V.str) (fun i σ H'=>(∃u1 u2 u3,σ=[sR f1,sR g,sR t,some v,sR d,sR e,u1,u2,u3])∧av H1 H'∧∃as:List Addr,H' e=some (.lst (as.map V.ref))∧jF H' as (jV c shut) i c.ys.length∧(∀a∈as,H1 a=none∧a≠e)∧as.Nodup) ?_ ?_ ?_ ?_
   ·exact⟨⟨_,_,_,rfl⟩,s2,[],Ru,⟨rfl,fun i a h=>by simp at h⟩,(fun a h=>by cases h), .nil⟩
   ·rintro i σ H' _ ⟨_,s3,_⟩;exact .of (s3 _ _ (s1 _ _ hf))
   ·rintro i x T' σ H' hx ⟨⟨u1,u2,u3,rfl⟩,s3,as,Lx,TA,hn,Ii⟩ hT;obtain⟨wx,hwx,rfl⟩:=Ac hx;have hi:i<c.xs.length:=(Η hwx).1;have s4:av H1 (upd H' T' (.tup [.int i, .str wx])):=s3.trans (av.upd hT);have Ld:=av.upd (o:= .tup [.int i, .str wx]) hT _ _ Lx;have Wj:=TA.same (av.upd (o:= .tup [.int i, .str wx]) hT);refine⟨T',_,rfl, .of af,rfl,_,_,rfl,_,_,rfl,rfl,?_⟩;generalize upd H' T' (.tup [.int i, .str wx])=H4 at s4 Ld Wj;clear TA Lx s3 hT;refine⟨fun σ H5=>∃r,σ=[sR f1,sR g,sR t,some v,sR d,sR e,sI i,sS wx,sR r]∧av H4 H5∧H4 r=none∧H5 r=some (.lst (dJ c.ys.length (jV c shut i))),?_,?_⟩
    ·have hg4:=s4 _ _ (s1 _ _ hg);refine⟨_,rfl,g,rfl,⟨_, .of hg4⟩,fun D hD=>?_⟩;refine zc (xs:=c.ys.map V.str) (fun j ys bG H5=>(∃w1 w2,bG=[w1,w2,sI i,sR d,sR t,sS wx])∧ys=dJ j (jV c shut i)∧H5 D=some (.lst ys)∧av H4 H5) ⟨⟨_,_,rfl⟩,rfl,af,av.upd hD⟩ ?_ ?_ ?_
     ·rintro j ys bG H5 _ ⟨_,_,_,s5⟩;exact .of (s5 _ _ hg4)
     ·rintro j y T2 ys bG H5 hy ⟨⟨w1,w2,rfl⟩,rfl,UU,s5⟩ UB;obtain⟨wy,Im,rfl⟩:=Ac hy;have hj:j<c.ys.length:=(Η Im).1;have s6:av H4 (upd H5 T2 (.tup [.int j, .str wy])):=s5.trans (av.upd UB);have UW:=av.upd (o:= .tup [.int j, .str wy]) UB _ _ UU;refine⟨T2,_,rfl, .of af,rfl,_,_,rfl,_,_,rfl,rfl,?_⟩;generalize upd H5 T2 (.tup [.int j, .str wy])=H6 at s6 UW;refine zS ?_;refine⟨_,rfl,_,rfl,ay XD,fun p hp=>?_⟩;have s7:=s6.trans (av.upd (o:= .tup [.int (i:Int), .int (j:Int)]) hp);have sA:=s4.trans s7;have hD7:=av.upd (o:= .tup [.int (i:Int), .int (j:Int)]) hp _ _ UW;have len:(dJ j (jV c shut i)).length<sizeLine:=bR (by rw[dM];lia);have sn:∀u,u=jV c shut i j→dJ j (jV c shut i)++[cA u]=dJ (j+1) (jV c shut i):=fun u e=>by rw[su,e]
      have Wl:c.pw ((i:Int),(j:Int))=nk c.same c.fs wx wy:=Case.pw_of (by rw[Ad];exact hwx) (by rw[Ad];exact Im);refine⟨_,rfl,d,_,rfl, .t (k:=bS ((i:Int),(j:Int))) (sA _ _ hd1) af,_,rfl,?_⟩;rw[hS];refine bQ (fun h1=>?_) (fun h1=>?_)
      ·have h1:((i:Int),(j:Int))∈shut:=by simpa using h1
       refine⟨hD7,len,⟨_,_,rfl⟩,?_,af,s7.eP hD⟩;exact sn none (by simp[jV,NQ,h1])
      ·have h1:((i:Int),(j:Int))∉shut:=by simpa using h1
       obtain⟨n,dx,l,dd,vs,T1,e1,e2,e3,e4⟩:=(TF.keep s1).keep sA;refine⟨_,rfl,t,dx,_,rfl,T1.ob,zZ n l dd,_,rfl,_,rfl,t,wx,wy,n,c.fs,dx,l,dd,vs,rfl,T1,fun H8 s8=>?_⟩;refine⟨s8 _ _ hD7,len,⟨_,_,rfl⟩,?_,af,(s7.trans s8).eP hD⟩;exact sn _ (by simp[jV,NQ,h1,Wl,e1])
     ·rintro ys bG H5 ⟨_,rfl,UU,s5⟩;rw[ly]at UU;exact⟨D,rfl,s5,hD,UU⟩
    rintro σ H5 ⟨r,rfl,s5,uI,Ye⟩;have hre:r≠e:=Ne.symm (aG Ld uI);have hlen:=Wj.len;refine⟨_,rfl, .inl ⟨rfl,_, .of (s5 _ _ Ld)⟩,_,rfl,e,_,_,rfl,rfl,s5 _ _ Ld,bR (by rw[List.length_map];lia),⟨_,_,_,rfl⟩,(s4.trans s5).eP K_,as++[r],by rw[af];simp,⟨by simp[hlen],fun k a hk=>?_⟩,fun a ha=>?_,List.nodup_append.mpr ⟨Ii,Xx,fun x hx y hy e9=>?_⟩⟩
    ·by_cases h:k<i
     ·rw[ζ Nz]at hk;rw[aj (hn a (Ψ hk)).2];exact s5 _ _ (Wj.row k a hk)
     ·rw[θ Nz]at hk;have QH:k-as.length=0:=by
       have:=(Η hk).1;simp at this
       lia
      rw[QH]at hk;have:r=a:=by simpa using hk
      subst this;rw[aj hre];have:k=i:=by lia
      rw[this];exact Ye
    ·rcases List.mem_append.mp ha with ha|ha
     ·exact hn a ha
     ·have:a=r:=by simpa using ha
      rw[this];exact⟨s4.free uI,hre⟩
    ·have hy:y=r:=by simpa using hy
     obtain⟨k,hk,ek⟩:=List.mem_iff_getElem.mp hx;have:=Wj.row k x (by rw[Ω hk,ek]);rw[e9,hy,uI]at this;cases this
   ·rintro σ H' ⟨⟨u1,u2,u3,rfl⟩,s3,as,Lx,TA,hn,Ii⟩;rw[lx]at TA;exact⟨⟨_,_,_,rfl⟩,s3,as,Lx,TA,hn,Ii⟩
  rintro σ H3 ⟨⟨u1,u2,u3,rfl⟩,s3,as,Lx,TA,hn,Ii⟩;exact⟨_,rfl,q H3 e as (s1.trans s3) Lx (s1.free K_) TA Ii (fun z=>(hn e z).2 rfl) fun a ha=>s1.free (hn a ha).1⟩
variable(om:j5 P w K mg base true 4 "Trails" aC ["self","worths","terms"] [] (sJ aC aW))
variable(iQ:cG P w K mg base true 5 "best_groups" ["trails","worth"] (Aw aC))
variable(g8:cG P w K mg base true 6 "make_finding" ["trails","worth","pairs"] (EY aC aT))
theorem lg:aP ["worths","terms","trails","worth"] ["worths","terms"] (aw gZ):=gL
include T Tc fN Rc om iQ g8 in
theorem xY{f:Addr}{fd:FuncData}(F:lu K "make_round" "make_round" gZ f fd):bE P w K mg base (de P w) true 7 f fd ["worths","terms"] (n9 aW aT):=by
 refine F.gv lg Ζ gM
 ·obtain⟨w,t,as,c,f,n,m,rfl,_⟩:=h;rfl
 ·obtain⟨w,t,as,c,f1,n,m,rfl,hw,TA,TF,IT,LA,hn,hm,xT,q0,q1⟩:=h;refine⟨_,(Zq (@aK _ _ (2) _ _ _ _ lg.nd Α (Or.inr rfl) (@lQ _ _ _ _ _ _ _ _ _ _ _ _ _ _ om (hr.mono Ε) hX.pass (R7 (pv 0) (Ic (pv 1))) (OB) (QY) (OB) (OB)) (OB) (by exact .inl rfl)) (Zq (@aK _ _ (3) _ _ _ _ lg.nd Α (Or.inr rfl) (Κ fN a9 (Ic (@gi _ _ _ _ _ _ _ _ _ _ _ _ _ _ (by exact rfl) (show bK ["worths","terms","trails","worth"] (aw gZ) _ ["row"] [] []from DY) (@cx _ K _ _ _ (μ K (pv 2)) (OB)) (fun _ _ _ _ _=>(Μ (0) (show(["row"]:List Str).Nodup by decide+kernel))) (fun _ _ _ _ _=>fS) (fun _ _ _ _ _=>(Κ fN a9 (Ic (pv 0)))) (by intro _;rfl)))) (OB) (by exact .inl rfl)) (Zq (Ι (@PW.pt _ _ _ (@pw_or _ _ _ _ _ _ _ (ρ (@r6 _ _ _ _ _ (pv 3))) (@pw_or1 _ _ _ _ (Ν vE (pv 3) (μ K (pv 1)) (br _))))) (Xm (Γ (@bV _ _ _ _ ai))) ba) (Xm (Γ (@gi _ _ _ _ _ _ _ _ _ _ _ _ _ _ (by exact rfl) (show bK ["worths","terms","trails","worth"] (aw gZ) _ ["pairs"] [2,3] ["trails","worth"]from DY) (@cx _ K _ _ _ (Κ iQ a9 (R7 (pv 2) (Ic (pv 3)))) (OB)) (fun _ _ _ _ _=>(Μ (0) (show(["pairs","trails","worth"]:List Str).Nodup by decide+kernel))) (fun _ _ _ _ _=>fS) (fun _ _ _ _ _=>(Κ g8 a9 (R7 (pv 1) (R7 (pv 2) (Ic (pv 0)))))) (by intro _;rfl))))))),?_⟩;refine⟨fun σ H1=>∃x dx e b es,σ=[sR w,sR t,sR x,none]∧av H H1∧H1 x=some (.ins aC dx (ik c.out c.into e b))∧H1 e=some (.lst (es.map V.ref))∧jF H1 es (dZ f1 c.out c.into) n m∧(0<n→∃bs,sF H1 aC x dx e b es bs f1 c.out c.into n m),?_,?_⟩
  ·refine⟨_,rfl,_,rfl,fun x dx hx GA gO=>?_⟩;have s5:av H (upd (upd H dx (.own x)) x (.ins aC dx [])):=(av.upd GA).eP hx;refine⟨x,dx,w,t,c,as,f1,n,m,rfl,af,by rw[aj gO];exact af,s5 _ _ hw,TA.same s5,TF.keep s5,hn,hm,fun H6 e b sb Wm Te Tb=>?_⟩;obtain⟨es,he,_,TE,_⟩:=Te;refine⟨rfl,x,dx,e,b,es,rfl,SameBut.sq hx GA sb,Wm,he,TE,fun h=>?_⟩;obtain⟨bs,hb,_,TB',_⟩:=Tb h;exact⟨bs,Wm,he,TE,hb,TB'⟩
  rintro σ H1 ⟨x,dx,e,b,es,rfl,s1,mT,Fu,TE,TRs⟩;have DZ:es.length=n:=TE.len;refine⟨fun σ H2=>σ=[sR w,sR t,sR x,some (cA (MS f1 c.out c.into n m))]∧av H1 H2,?_,?_⟩
  ·refine⟨_,rfl,x,aC,dx,_,_,rfl,mT,Rc.cl,Rc.lV,iY c.out c.into e b,e,rfl,⟨_, .of Fu⟩,fun D hD=>?_⟩;refine d8 (xs:=es.map V.ref) (fun k ys bG H'=>(∃u,bG=[u])∧ys=((List.range k).map fun i=>cA (qi ((List.range m).map (dZ f1 c.out c.into i))))∧H' D=some (.lst ys)∧av H1 H') ⟨⟨_,rfl⟩,rfl,af,av.upd hD⟩ ?_ ?_ ?_
   ·rintro k ys bG H' _ ⟨_,_,_,s2⟩;exact .of (s2 _ _ Fu)
   ·rintro k v ys bG H' hv ⟨⟨u,rfl⟩,rfl,Cg,s2⟩;have hk:k<n:=by rw[←DZ];have:=(Η hv).1;simpa using this
    obtain⟨rb,g1,g2,g3⟩:=TE.at hk;rw[hv]at g2;cases g2;refine kR ?_;refine⟨_,rfl,rb,(List.range m).map (dZ f1 c.out c.into k),rfl,?_,by simpa using hm,fun VM s3=>?_⟩
    ·rw[s2 _ _ g3,List.map_map];rfl
    ·refine⟨s3 _ _ Cg,bR (by simp;lia),⟨_,rfl⟩,?_,af,(s2.trans s3).eP hD⟩;rw[List.range_succ,List.map_append];rfl
   ·rintro ys bG H' ⟨_,rfl,Cg,s2⟩;rw[List.length_map,DZ]at Cg;refine⟨D,(List.range n).map fun i=>qi ((List.range m).map (dZ f1 c.out c.into i)),rfl,by rw[Cg,List.map_map];rfl,by simpa using hn,fun VM s3=>⟨rfl,s2.trans s3⟩⟩
  rintro σ H2 ⟨rfl,s2⟩;have Jl:=s1.trans s2;obtain⟨nu,dt,l,d,vs,TM,z1,z2,z3,z4⟩:=TF.keep Jl;have MX:=K3 IT c.out c.into;refine⟨fun σ H3=>∃W,MS f1 c.out c.into n m=some W∧c.least≤W∧σ=[sR w,sR t,sR x,sI W]∧H3=H2,?_,?_⟩
  ·refine⟨_,rfl,_,rfl,?_⟩;cases eT:MS f1 c.out c.into n m with
   |none=>
    rw[eT]at MX;refine jD ?_;refine jD ?_;exact⟨ay XD,fun r uI=>q0 (fun ps hp=>absurd ⟨ps,hp,rfl⟩ (MX _)) _ r (Jl.trans (av.upd uI)) (Jl.free uI) af⟩
   |some W=>
    rw[eT]at MX;refine bQ (fun hh=>absurd hh (by simp[cA])) (fun _=>?_);refine⟨_,rfl,_,rfl,t,aW,dt,_,_,rfl,TM.ob,Tc.cl,Tc.least,Mq nu l d,_,_,rfl,rfl,_,rfl,?_⟩;refine bQ (fun hh=>?_) (fun hh=>?_)
    ·have hh:W<nu.least:=by simpa using hh
     rw[z4]at hh;exact⟨ay XD,fun r uI=>q0 (fun ps hp=>by have:=MX.2 _ ⟨ps,hp,rfl⟩;lia) _ r (Jl.trans (av.upd uI)) (Jl.free uI) af⟩
    ·have hh:¬W<nu.least:=by simpa using hh
     rw[z4]at hh;exact⟨W,rfl,by lia,rfl,rfl⟩
  rintro σ H2 ⟨W,eT,hle,rfl,rfl⟩;rw[eT]at MX;obtain⟨ps0,w0,hv0⟩:=MX.1;have TP:eM f1 c.out c.into W:=fun ps hp=>MX.2 _ ⟨ps,hp,rfl⟩
  have X1:0<n:=by
   obtain⟨i,j,_,hi,_⟩:=kW IT w0 (dO w0.ne)
   lia
  obtain⟨bs,TR⟩:=TRs X1;have TR2:=TR.keep s2;refine⟨_,rfl,_,rfl,x,dx,e,b,es,bs,f1,c.out,c.into,n,m,W,rfl,TR2,IT,LA,hn,hm,TP,xT W TP hle,fun H3 r us gs s3 uI AB W3 Q6 TD=>?_⟩;have QK:∀g∈gs,∀a∈g,∃i j:Nat,a=bp (i,j)∧i<n∧j<m:=fun g hg a ha=>by
   obtain⟨ps,wp,hm⟩:=(TD.mem hg ha).on;exact kW IT wp.1 hm
  have uk:∀g∈gs,g.length<64:=fun g hg=>xT W TP hle g ((TD.xK g hg).imp fun{a b} h e=>by
   rw[e]at h;unfold jw at h;simp at h) fun a ha=>TD.mem hg ha
  have L':=TD.Ca QK;have Yg:gs≠[]:=fun z=>by
   obtain⟨i,j,h1,_⟩:=kW IT w0 (dO w0.ne);obtain⟨g,hg,_⟩:=TD.all _ (fE.way ps0 ⟨w0,hv0.symm⟩ (dO w0.ne) (dO w0.ne));rw[z]at hg;cases hg
  have hW:=W3.1;refine⟨r,rfl,⟨_, .of AB⟩,fun D hD=>?_⟩;refine d8 (xs:=us) (fun k ys bG H'=>(∃u,bG=[u,sR x,sI W])∧H' D=some (.lst ys)∧av H3 H'∧∃ds,dC (fun b=>H2 b=none∧b≠D) H' aT ys ds∧ds.map Fd.pairs=gs.take k∧∀d∈ds,Ug f1 c.out c.into W d) ⟨⟨_,rfl⟩,af,av.upd hD,[], .nil,rfl,fun d h=>(by cases h)⟩ ?_ ?_ ?_
  ·rintro k ys bG H' _ ⟨_,_,s4,_⟩;exact .of (s4 _ _ AB)
  ·rintro k v ys bG H' hv ⟨⟨u,rfl⟩,RA,s4,ds,F4,RD,cC⟩;have hk:k<gs.length:=by rw[←hW];exact(Η hv).1
   have ek:gs[k]?=some gs[k]:=by simp[hk]
   have jK:gs[k]∈gs:=List.getElem_mem hk;generalize gs[k]=g at ek jK;obtain⟨pa,pus,k1,k2,k3⟩:=W3.2 k g ek;rw[hv]at k1;cases k1;have Yh:=Q6 k pa hv;have UX:pa≠D:=fun z=>by rw[z,hD]at k2;cases k2
   obtain⟨gn,Mf⟩:∃gn:List (Nat×Nat),g=gn.map bp:=by
    refine⟨g.map fun a=>(a.1.toNat,a.2.toNat),?_⟩;rw[List.map_map]
    conv=>lhs;rw[←List.map_id g]
    apply List.map_congr_left;intro a ha;obtain⟨i,j,rfl,_⟩:=QK g jK a ha;simp[bp]
   obtain⟨i0,j0,z5,z6,z7,z8⟩:∃i j:Nat,dZ f1 c.out c.into i j=some W∧i<n∧j<m∧bp (i,j)∈g:=by
    obtain⟨a,ha⟩:=List.exists_mem_of_ne_nil _ (TD.ne g jK);obtain⟨i,j,h1,h2,h3,h4⟩:=HZ TP IT (TD.mem jK ha);exact⟨i,j,h1,h2,h3,(TD.cls g jK a ha _).mpr h4⟩
   have Yi:gn.filter (fun q=>decide (dZ f1 c.out c.into q.1 q.2=some W))≠[]:=fun z=>by
    rw[Mf]at z8;obtain⟨q9,hq9,e9⟩:=List.mem_map.mp z8;obtain⟨e91,e92⟩:=gT (a:=q9.1) (b:=q9.2) e9;have:q9∈gn.filter (fun q=>decide (dZ f1 c.out c.into q.1 q.2=some W)):=List.mem_filter.mpr ⟨hq9,by rw[e91,e92];simpa using z5⟩;rw[z]at this;cases this
   obtain⟨wX,QI⟩:∃q0,(gn.filter fun q=>decide (dZ f1 c.out c.into q.1 q.2=some W))[0]?=some q0:=by
    cases e9:gn.filter (fun q=>decide (dZ f1 c.out c.into q.1 q.2=some W))with
    |nil=>exact absurd e9 Yi
    |cons a r=>exact⟨a,rfl⟩
   have UY:=List.mem_filter.mp (Ψ QI);have Yj:dZ f1 c.out c.into wX.1 wX.2=some W:=by simpa using UY.2
   have TR4:=TR2.keep (s3.trans s4);refine kR ?_;refine⟨_,rfl,_,rfl,_,rfl,x,dx,e,b,es,bs,f1,c.out,c.into,n,m,W,pa,pus,gn,wX,rfl,TR4,s4 _ _ k2,by rw[←Mf];exact k3.same s4,fun q hq=>?_,QI,hn,?_,fun H5 y dy wy rw us2 s5 hy Ly Im RE hy5 aaN Yk P5 Ye=>?_⟩
   ·have:bp q∈g:=by rw[Mf];exact List.mem_map.mpr ⟨q,hq,rfl⟩
    obtain⟨i,j,h1,h2,h3⟩:=QK g jK _ this;obtain⟨h4,h5⟩:=gT (a:=q.1) (b:=q.2) h1
    lia
   ·have:=uk g jK;rw[Mf,List.length_map]at this
    lia
   ·obtain⟨v1,v2,v3,v4⟩:=MR f1 c.out c.into wX.1 wX.1 wX.2 W Ξ Yj;have hlW:=F4.1;have aaM:ds.length=k:=by
     have:=congrArg List.length RD;rw[List.length_map,List.length_take]at this
     lia
    have nD:∀{z},H' z=none→z≠D:=fun h z=>by rw[z,RA]at h;cases h
    have Yl:av H2 H':=s3.trans s4;refine⟨s5 _ _ RA,bR Nz,⟨_,rfl⟩,af,(s4.trans s5).eP hD,ds++[⟨W,(fh f1 c.out c.into wX.1 wX.1 wX.2).map bp,GY (lf f1) c.out c.into ((fh f1 c.out c.into wX.1 wX.1 wX.2).map bp),g⟩],?_,?_,fun d hd=>?_⟩
    ·refine dC.append (F4.keep (fun b o hb e=>by rw[aj hb.2];exact s5 _ _ e) (fun a v e=>by rw[aj (fun z=>by rw[z,RA]at e;cases e)];exact s5 _ _ e) fun _ h=>h) ⟨rfl,fun k9 d9 e9=>?_⟩;have hk9:k9=0:=by
      have:=(Η e9).1;simp at this
      lia
     subst hk9;have e9:=(Ρ e9).symm;subst e9;have T5:fD H5 (upd H5 D (.lst (ys++[.ref y]))):=fD.lst (s5 _ _ RA);refine⟨y,dy,wy,rw,pa,us2,pus,rfl,⟨by rw[aj (nD hy)];exact hy5,by rw[aj (nD Im)];exact Yk,P5.cO T5,?_,by rw[aj UX];exact s5 _ _ (s4 _ _ k2),((k3.same s4).same s5).cO T5,⟨Yl.free hy,nD hy⟩,⟨Yl.free Im,nD Im⟩,⟨Yl.free RE,nD RE⟩,⟨Yh,UX⟩⟩⟩;rw[aj (nD RE),Ye]
     congr 2
     have:=congrArg (List.map cA) v4;rw[List.map_map,List.map_map]at this;exact this
    ·rw[List.map_append,RD,List.take_succ,ek];rfl
    ·rcases List.mem_append.mp hd with hd|hd
     ·exact cC d hd
     ·have:d=⟨W,(fh f1 c.out c.into wX.1 wX.1 wX.2).map bp,GY (lf f1) c.out c.into ((fh f1 c.out c.into wX.1 wX.1 wX.2).map bp),g⟩:=by simpa using hd
      subst this;refine⟨rfl,⟨v1,v3⟩,rfl,fun q hq=>?_⟩;have UR:bp wX∈g:=by rw[Mf];exact List.mem_map.mpr ⟨_,UY.1,rfl⟩
      have v2:lstP ((fh f1 c.out c.into wX.1 wX.1 wX.2).map bp)=bp wX:=v2;exact(TD.cls g jK _ UR q).mpr (.way _ ⟨v1,v3⟩ (by rw[←v2];exact dO v1.ne) hq)
  ·rintro ys bG H' ⟨_,RA,s4,ds,F4,RD,cC⟩;rw[hW,List.take_length]at RD;have sA:=Jl.trans (s3.trans s4);exact q1 W gs ds ⟨TP,⟨ps0,w0,hv0.symm⟩,hle,TD,RD,cC⟩ Yg _ D ys sA ((Jl.trans s3).free hD) RA (F4.keep (fun _ _ _ h=>h) (fun _ _ h=>h) fun b hb=>Jl.free hb.1)
theorem iR:aP ["worths","findings","finding","i","j"] ["worths","findings"] (aw l6):=gL
include T Fc in
theorem xZ{f:Addr}{fd:FuncData}(F:lu K "shut_pairs" "shut_pairs" l6 f fd):bE P w K mg base (de P w) true 1 f fd ["worths","findings"] (wu aT):=by
 refine F.gv iR Ζ gM
 ·obtain⟨w,md,as,us,ds,f,n,m,rfl,_⟩:=h;rfl
 ·obtain⟨w,md,as,us,ds,f1,n,m,rfl,hw,Ym,nw,TA,hmd,nmd,FL,Hw,q⟩:=h;refine⟨_,(Xm (@dU _ _ _ _ _ _ _ _ hX.own Α (@cx _ K _ _ _ (pv 1) (OB)) (Μ (2) iR.nd) (Xm (@dU _ _ _ _ _ _ _ _ hX.own Α (@cx _ K _ _ _ (μ K (pv 2)) (OB)) (@lR _ K _ _ _ (2) _ (by exact rfl) (@cQ _ _ _ _ _ (Μ (3) iR.nd) (@cQ _ _ _ _ _ (Μ (4) iR.nd) j4 (OB)) (OB)) (OB) (OB) (OB)) (Xm (@Eb _ _ _ _ _ _ lM (@Ju _ _ _ _ _ _ _ (zU (aH K) (pv 0) (pv 3)) (pv 4) set_list (by intro _;rfl)) (OB) (OB) (OB))) (by intro _;rfl))) (by intro _;rfl))),?_⟩;have rows:∀a∈as,∃xs,H a=some (.lst xs):=fun a ha=>by
   obtain⟨k,hk,ek⟩:=List.mem_iff_getElem.mp ha;exact⟨_,TA.row k a (by rw[Ω hk,ek])⟩
  have cO:∀H',(∀b o,b∉as→H b=some o→H' b=some o)→fD H H':=fun H' k t v e=>k t _ (fun z=>by
   obtain⟨xs,h⟩:=rows t z;rw[e]at h;cases h) e
  have hlen:=FL.1;refine⟨_,rfl,md,rfl,⟨_, .of hmd⟩,?_⟩;refine gQ (xs:=us) (fun k σ H1=>(∃u1 u2 u3,σ=[sR w,sR md,u1,u2,u3])∧(∀b o,b∉as→H b=some o→H1 b=some o)∧jF H1 as (mL f1 ((ds.take k).map Fd.pairs).flatten) n m) ⟨⟨_,_,_,rfl⟩,fun _ _ _ h=>h,TA⟩ ?_ ?_ ?_
  ·rintro k σ H1 _ ⟨_,k1,_⟩;exact .of (k1 _ _ nmd hmd)
  ·rintro k v σ H1 hv ⟨⟨u1,u2,u3,rfl⟩,k1,T1⟩;have hk:k<ds.length:=by rw[←hlen];exact(Η hv).1
   have ek:ds[k]?=some ds[k]:=by simp[hk]
   have jK:ds[k]∈ds:=List.getElem_mem hk;generalize ds[k]=d at ek jK;obtain⟨a,dy,wy,mO,pr,us1,us2,e1,F⟩:=FL.2 k d ek;rw[hv]at e1;cases e1;have Q9:=F.pp.1;have et:((ds.take (k+1)).map Fd.pairs).flatten=((ds.take k).map Fd.pairs).flatten++d.pairs:=by
    rw[List.take_succ,ek,List.map_append,List.flatten_append];simp
   refine⟨_,rfl,a,aT,dy,_,_,rfl,k1 _ _ F.fa F.ob,Fc.cl,Fc.pairs,vZ d.worth wy mO pr,pr,rfl,⟨_, .of (k1 _ _ F.fp F.hp)⟩,?_⟩;refine gQ (xs:=us2) (fun l σ H2=>(∃u2 u3,σ=[sR w,sR md,sR a,u2,u3])∧(∀b o,b∉as→H b=some o→H2 b=some o)∧jF H2 as (mL f1 (((ds.take k).map Fd.pairs).flatten++d.pairs.take l)) n m) ⟨⟨_,_,rfl⟩,k1,by simpa using T1⟩ ?_ ?_ ?_
   ·rintro l σ H2 _ ⟨_,k2,_⟩;exact .of (k2 _ _ F.fp F.hp)
   ·rintro l v σ H2 hv2 ⟨⟨v2,v3,rfl⟩,k2,T2⟩;have hl:l<d.pairs.length:=by rw[←Q9];exact(Η hv2).1
    have el:d.pairs[l]?=some d.pairs[l]:=by simp[hl]
    have hq:=Hw d jK d.pairs[l] (List.getElem_mem hl);generalize d.pairs[l]=g at el hq;obtain⟨i,j,rfl,hi,hj⟩:=hq;obtain⟨t,g1,g2⟩:=F.pp.2 l _ el;rw[hv2]at g1;cases g1;have kt:=cO H2 k2 _ _ g2;refine⟨t,_,rfl, .of kt,rfl,_,_,rfl,_,_,rfl,rfl,?_⟩;obtain⟨ra,r1,r2,r3⟩:=T2.at hi;have V4:ra∈as:=Ψ r1;refine⟨_,rfl,_,rfl,w,_,_,_,rfl,rfl, .of (k2 _ _ nw hw),aS r2,_,rfl,ra,_,_,j,rfl,rfl,r3,Gz (by rw[dM];exact hj),⟨_,_,rfl⟩,fun b o hb e=>?_,⟨T2.len,fun x b hb=>?_⟩⟩
    ·rw[aj (fun z=>hb (by rw[z];exact V4))];exact k2 b o hb e
    ·have Wn:d.pairs.take (l+1)=d.pairs.take l++[bp (i,j)]:=by rw[List.take_succ,el];rfl
     by_cases e:b=ra
     ·have ex:x=i:=by
       obtain⟨h1,e1⟩:=Η hb;obtain⟨h2,e2⟩:=Η r1;exact(List.getElem_inj Ym).mp (by rw[e1,e2,e])
      subst ex e;rw[af];show some (HO.lst ((dJ m _).set j (cA none)))=_;rw[Kv]
      congr 2
      unfold dJ;apply List.map_congr_left;intro y _;unfold mL;rw[Wn,←List.append_assoc]
      congr 1
      dsimp only;by_cases ey:y=j
      ·subst ey;rw[if_pos rfl,if_pos XD]
      ·rw[M9 ey];have:¬bp (x,y)=bp (x,j):=fun z=>ey (gT z).2
       simp[this]
     ·rw[aj e,T2.row x b hb]
      congr 2
      unfold dJ;apply List.map_congr_left;intro y _;unfold mL;rw[Wn,←List.append_assoc];have:¬bp (x,y)=bp (i,j):=fun z=>by
       have hk:=(gT z).1;subst hk;rw[r1]at hb;exact e (Ρ hb).symm
      simp[this]
   ·rintro σ H2 ⟨⟨v2,v3,rfl⟩,k2,T2⟩;rw[Q9,List.take_length]at T2;exact⟨⟨_,_,_,rfl⟩,k2,by rw[et];exact T2⟩
  ·rintro σ H1 ⟨_,k1,T1⟩;rw[hlen,List.take_length]at T1;exact q H1 k1 (cO H1 k1) T1
variable(e8:Cs mg "FINDINGS_MOST" (.int 20))
variable(iS:cG P w K mg base true 2 "open_worths" ["first","second","terms","taken"] (wt aW))
variable(g9:cG P w K mg base true 7 "make_round" ["worths","terms"] (n9 aW aT))
variable(jr:cG P w K mg base true 1 "shut_pairs" ["worths","findings"] (wu aT))
variable(mf:cG P w K mg base true 1 "order_of" ["finding"] (v8 aT))
variable(eF:Er K mg "TooMany" aJ)
theorem jL:aP ["first","second","terms","worths","findings","made"] ["first","second","terms"] (aw sY):=gL
include T cX e8 iS g9 jr mf eF in
theorem Fy{f:Addr}{fd:FuncData}(F:lu K "compare" "compare" sY f fd):bE P w K mg base (de P w) true 8 f fd ["first","second","terms"] (wI aW aT aJ):=by
 refine F.gv jL Ζ gM
 ·obtain⟨a,b,t,c,rfl,_⟩:=h;rfl
 ·obtain⟨a,b,t,c,rfl,ha,hb,TF,hx,hy,xT,q1,q2⟩:=h;refine⟨_,(Zq (Zr (3) jL.nd (Κ iS a9 (R7 (pv 0) (R7 (pv 1) (R7 (pv 2) (Ic lM)))))) (Zq (Zr (4) jL.nd (@bV _ _ _ _ ai)) (Zq (Zr (5) jL.nd (Κ g9 a9 (R7 (pv 3) (Ic (pv 2))))) (Zq (@vA _ _ _ _ _ _ hX.own (Ν m6 (γ (aV K) T.dA (Ic (pv 5))) ar (br _)) (Zq (Χ (ν K PySem.F.plainAttrs_list PySem.F.slot_list_extend PySem.F.type_list_extend se (pv 4) (Ic (pv 5)))) (Zq (Ι (Ν m6 (γ (aV K) T.dA (Ic (pv 4))) (ε e8) (br _)) (Xm (ο hX Α (by exact rfl) eF.m eF.e (Ic (@gI _ _ _ _ _ _ (@cy _ _ _ _ _ bh (@cy _ _ _ _ _ (@kQ _ _ _ _ (ε e8)) (@cy _ _ _ _ _ bh nc))))))) ba) (Zq (Χ (Κ jr a9 (R7 (pv 3) (Ic (pv 5))))) (Xm (Zr (5) jL.nd (Κ g9 a9 (R7 (pv 3) (Ic (pv 2)))))))))) (Xm (Γ (qu Fe K mf (hr.mono Ε) (pv 4) rfl cX))))))),?_⟩;have MK:c.xs.length*c.ys.length≤3000:=Nat.le_trans (Nat.mul_le_mul hx hy) (QY);have Yn:=P6 c [];refine⟨fun σ H1=>∃w as,σ=[sR a,sR b,sR t,sR w,none,none]∧av H H1∧H1 w=some (.lst (as.map V.ref))∧jF H1 as (jV c []) c.xs.length c.ys.length∧as.Nodup∧w∉as∧∀a∈as,H a=none,?_,?_⟩
  ·exact⟨_,rfl,_,rfl,_,rfl,a,b,t, .cF,c,[],rfl,ha,hb,TF, .inl ⟨rfl,rfl⟩,Xx,by lia,by lia,fun H1 w as s1 h1 _ h3 h4 h5 h6=>⟨w,as,rfl,s1,h1,h3,h4,h5,h6⟩⟩
  rintro σ H1 ⟨w,as,rfl,s1,qC,Yo,Ym,nw,has⟩;refine⟨fun σ H2=>∃fl,σ=[sR a,sR b,sR t,sR w,sR fl,none]∧av H1 H2∧H1 fl=none∧H2 fl=some (.lst []),⟨ay XD,fun fl h=>⟨fl,rfl,av.upd h,h,af⟩⟩,?_⟩;rintro σ H2 ⟨fl,rfl,s2,QL,UZ⟩;have alloc:∀x∈as,∃xs,H1 x=some (.lst xs):=fun x hx=>by
   obtain⟨k,hk,ek⟩:=List.mem_iff_getElem.mp hx;exact⟨_,Yo.row k x (by rw[Ω hk,ek])⟩
  have nfl:fl∉as:=fun z=>by
   obtain⟨xs,h⟩:=alloc fl z;rw[QL]at h;cases h
  have Nj:w≠fl:=aG qC QL;have rd:∀f H3,(∀x∈as,∃xs,H3 x=some (.lst xs))→H3 w=some (.lst (as.map V.ref))→jF H3 as f c.xs.length c.ys.length→av H H3→∀done,Reach (jV c []) c.out c.into c.least done f→∀(Q':VK)(E':XK),(∀H4 r,av H3 H4→H3 r=none→∀us ds,H4 r=some (.lst us)→dC (fun b=>H3 b=none) H4 aT us ds→((us=[]∧ds=[]∧Stop f c.out c.into c.least)∨(us≠[]∧∃W gs,n8 f c.out c.into c.least W gs ds))→Q' (.ref r) H4)→n9 aW aT [.ref w, .ref t] H3 Q' E':=fun f H3 al h3 T3 s3 done RC Q' E' k=>by
   refine⟨w,t,as,c,f,_,_,rfl,h3,T3,TF.keep s3,RC.XI Yn,MK,by lia,by lia,fun W TP hle=>xT done f W RC TP hle,fun st H4 r s4 h4 h5=>k H4 r s4 h4 [] [] h5 .nil (.inl ⟨rfl,rfl,st⟩),fun W gs ds R Yg H4 r us s4 h4 h5 FL=>k H4 r s4 h4 us ds h5 FL (.inr ⟨fun z=>Yg ?_,W,gs,R⟩)⟩;have:=FL.1;rw[z]at this;have:ds=[]:=List.length_eq_zero_iff.mp (by simpa using this.symm);rw[←R.Ls,this];rfl
  have aaV:∀b o,b∉as→b≠fl→H1 b=some o→H2 b=some o:=fun b o _ _ e=>s2 b o e
  have RF:=s1.trans s2;refine⟨fun σ H3=>∃md us ds,σ=[sR a,sR b,sR t,sR w,sR fl,sR md]∧av H2 H3∧H2 md=none∧H3 md=some (.lst us)∧dC (fun b=>H2 b=none) H3 aT us ds∧((us=[]∧ds=[]∧Stop (jV c []) c.out c.into c.least)∨(us≠[]∧∃W gs,n8 (jV c []) c.out c.into c.least W gs ds)),?_,?_⟩
  ·exact⟨_,rfl,_,rfl,rd _ H2 (fun x hx=>let ⟨xs,h⟩:=alloc x hx;⟨xs,s2 _ _ h⟩) (s2 _ _ qC) (Yo.same s2) RF [] .start _ _ fun H4 r s4 h4 us ds h5 FL z=>⟨r,us,ds,rfl,s4,h4,h5,FL,z⟩⟩
  rintro σ H3 ⟨md,us,ds,rfl,s3,Nk,Yp,FL3,Z3⟩;refine⟨fun σ H5=>∃md ul es f,σ=[sR a,sR b,sR t,sR w,sR fl,sR md]∧av H H5∧H5 fl=some (.lst ul)∧dC (fun b=>H2 b=none) H5 aT ul es∧Reach (jV c []) c.out c.into c.least es f∧Stop f c.out c.into c.least∧es.length≤20,?_,?_⟩
  ·refine⟨fun mm σ H4=>∃md us ds ul es f,mm+es.length=20∧σ=[sR a,sR b,sR t,sR w,sR fl,sR md]∧av H H4∧(∀b o,b∉as→b≠fl→H2 b=some o→H4 b=some o)∧jF H4 as f c.xs.length c.ys.length∧H4 fl=some (.lst ul)∧dC (fun b=>H2 b=none) H4 aT ul es∧Reach (jV c []) c.out c.into c.least es f∧H2 md=none∧H4 md=some (.lst us)∧dC (fun b=>H2 b=none) H4 aT us ds∧((us=[]∧ds=[]∧Stop f c.out c.into c.least)∨(us≠[]∧∃W gs,n8 f c.out c.into c.least W gs ds)),⟨20,md,us,ds,[],[],jV c [],rfl,rfl,RF.trans s3,fun b o _ _ e=>s3 b o e,(Yo.same s2).same s3,s3 _ _ UZ, .nil, .start,Nk,Yp,FL3,Z3⟩,?_⟩;rintro mm σ H4 ⟨md,us,ds,ul,es,f1,hmm,rfl,sH,k4,T4,Nl,FE,RC,Nk,QM,FD,Z4⟩;have H2s:∀x∈as,∃xs,H2 x=some (.lst xs):=fun x hx=>let ⟨xs,h⟩:=alloc x hx;⟨xs,s2 _ _ h⟩
   have P2:∀{b},H2 b=none→b∉as:=fun{b} h z=>by
    obtain⟨xs,h'⟩:=H2s b z;rw[h]at h';cases h'
   have Yq:∀{b},H2 b=none→b≠fl:=fun{b} h z=>by rw[z,UZ]at h;cases h
   have Wo:=FE.1;have hlD:=FD.1;refine⟨_,rfl,md,_,rfl, .inl (.of QM),_,_,rfl,rfl,_,rfl,?_⟩;refine bQ (fun hh=>?_) (fun hh=>?_)
   ·have hh:0<us.length:=by simpa using hh
    rcases Z4 with⟨z1,_,_⟩|⟨une,W,gs,R⟩
    ·rw[z1]at hh;simp at hh
    have V8:ds.length≤c.xs.length*c.ys.length:=by
     have:=R.told.Ca (n:=c.xs.length) (m:=c.ys.length) fun g hg q hq=>by
      obtain⟨ps,wp,hm⟩:=(R.told.mem hg hq).on;exact kW (RC.XI Yn) wp.1 hm
     rw[←R.Ls,List.length_map]at this;exact this
    refine⟨_,fun bG H' z=>z,?_⟩;have nmf:md≠fl:=Yq Nk;refine⟨fun σ H5=>σ=[sR a,sR b,sR t,sR w,sR fl,sR md]∧H5=upd H4 fl (.lst (ul++us)),⟨_,rfl, .inl ⟨rfl,_, .of Nl⟩,_,rfl,fl,md,ul,us,rfl,rfl,Nl,QM,ay Nz,rfl,rfl⟩,?_⟩;rintro σ H5 ⟨rfl,rfl⟩;have sH5:av H (upd H4 fl (.lst (ul++us))):=sH.eP (s1.free QL);have T45:fD H4 (upd H4 fl (.lst (ul++us))):=fD.lst Nl;have FE5:dC (fun b=>H2 b=none) (upd H4 fl (.lst (ul++us))) aT ul es:=FE.keep (fun b o hb e=>by rw[aj (Yq hb)];exact e) T45 fun _ h=>h
    have FD5:dC (fun b=>H2 b=none) (upd H4 fl (.lst (ul++us))) aT us ds:=FD.keep (fun b o hb e=>by rw[aj (Yq hb)];exact e) T45 fun _ h=>h
    have Yr:=RC.round R;refine⟨fun σ H6=>σ=[sR a,sR b,sR t,sR w,sR fl,sR md]∧H6=upd H4 fl (.lst (ul++us))∧(es++ds).length≤20,?_,?_⟩
    ·refine⟨_,rfl,fl,_,rfl, .inl (.of af),_,_,rfl,rfl,_,rfl,?_⟩;refine bQ (fun h9=>?_) (fun h9=>?_)
     ·have h9:20<(ul++us).length:=by
       have:(20:Int)<((ul++us).length:Nat):=by simpa using h9
       lia
      have:=q2 _ _ Yr (by rw[List.length_append]at h9⊢;lia) _ sH5;have z:(20:Int).natAbs.log2<1920∧(Str.ofString (toString (20:Int))).length≤6:=⟨QY,by decide+kernel⟩
      have w1:(Str.ofString "there are at most ").length=18:=by decide+kernel
      have w2:(Str.ofString " findings between two books").length=27:=by decide+kernel
      have w3:=iz;refine⟨_,rfl,ay ?_, .inr ⟨20,rfl,z.1,_,rfl,ay ?_,_,rfl,ay ?_,ay ?_,dq,this⟩⟩;all_goals (simp only[len_app];lia)
     ·have h9:¬20<(ul++us).length:=by
       have:¬(20:Int)<((ul++us).length:Nat):=by simpa using h9
       lia
      exact⟨rfl,rfl,by rw[List.length_append]at h9⊢;lia⟩
    rintro σ H6 ⟨rfl,rfl,hle⟩;refine⟨fun σ H7=>σ=[sR a,sR b,sR t,sR w,sR fl,sR md]∧(∀b o,b∉as→upd H4 fl (.lst (ul++us)) b=some o→H7 b=some o)∧fD (upd H4 fl (.lst (ul++us))) H7∧jF H7 as (mL f1 gs.flatten) c.xs.length c.ys.length,?_,?_⟩
    ·refine⟨_,rfl,_,rfl,w,md,as,us,ds,f1,_,_,rfl,by rw[aj Nj];exact k4 _ _ nw Nj (s2 _ _ qC),Ym,nw,⟨T4.len,fun i x hx=>by rw[aj (fun z=>nfl (by rw[←z];exact Ψ hx))];exact T4.row i x hx⟩,by rw[aj nmf];exact QM,P2 Nk,FD5.keep (fun _ _ _ h=>h) (fun _ _ h=>h) (fun _ h=>P2 h),fun d hd q hq=>?_,fun H7 k7 t7 T7=>⟨rfl,k7,t7,by rw[←R.Ls];exact T7⟩⟩;have hg:d.pairs∈gs:=by rw[←R.Ls];exact List.mem_map.mpr ⟨d,hd,rfl⟩
     obtain⟨ps,wp,hm⟩:=(R.told.mem hg hq).on;exact kW (RC.XI Yn) wp.1 hm
    rintro σ H7 ⟨rfl,k7,t7,T7⟩;have sH7:av H H7:=fun b o e=>k7 b o (fun z=>by rw[has b z]at e;cases e) (sH5 b o e)
    have al7:∀x∈as,∃xs,H7 x=some (.lst xs):=fun x hx=>by
     obtain⟨k,hk,ek⟩:=List.mem_iff_getElem.mp hx;exact⟨_,T7.row k x (by rw[Ω hk,ek])⟩
    have w7:H7 w=some (.lst (as.map V.ref)):=k7 w _ nw (by rw[aj Nj];exact k4 _ _ nw Nj (s2 _ _ qC));have F7:dC (fun b=>H2 b=none) H7 aT (ul++us) (es++ds):=(FE5.append FD5).keep (fun b o hb e=>k7 b o (P2 hb) e) t7 fun _ h=>h
    have fl7:H7 fl=some (.lst (ul++us)):=k7 fl _ nfl af;refine⟨_,rfl,_,rfl,rd _ H7 al7 w7 T7 sH7 _ Yr _ _ fun H8 r s8 h8 us8 ds8 hr8 FL8 Z8=>?_⟩;have k27:∀b,H7 b=none→H2 b=none:=fun b h=>by
     cases e:H2 b with
     |none=>rfl
     |some o=>
      by_cases Ys:b∈as
      ·obtain⟨xs,h'⟩:=al7 b Ys;rw[h]at h';cases h'
      ·by_cases U0:b=fl
       ·rw[U0,fl7]at h;cases h
       ·rw[k7 b o Ys (by rw[aj U0];exact k4 b o Ys U0 e)]at h;cases h
    refine⟨20-(es++ds).length,?_,r,us8,ds8,ul++us,es++ds,_,by lia,rfl,sH7.trans s8,fun b o h1 h2 e=>s8 b o (k7 b o h1 (by rw[aj h2];exact k4 b o h1 h2 e)),T7.same s8,s8 _ _ fl7,F7.keep (fun b o _ e=>s8 b o e) (fD.same s8) fun _ h=>h,Yr,k27 r h8,hr8,FL8.keep (fun _ _ _ h=>h) (fun _ _ h=>h) fun b h=>k27 b h,Z8⟩;rw[List.length_append]at hle⊢
    lia
   ·have hh:us.length=0:=by
     have:¬(0:Int)<(us.length:Nat):=by simpa using hh
     lia
    rcases Z4 with⟨_,_,z3⟩|⟨une,_⟩
    ·exact⟨md,ul,es,f1,rfl,sH,Nl,FE,RC,z3,by lia⟩
    ·exact absurd (List.length_eq_zero_iff.mp hh) une
  rintro σ H5 ⟨md,ul,es,f1,rfl,sH,Yt,FE,RC,ST,hle⟩;have Wo:=FE.1;have AP:=RC.apart;have U1:∀d∈es,jW d.pairs∈d.pairs:=fun d hd=>by
   cases e:d.pairs with
   |nil=>exact absurd e (AP.xK d hd).2
   |cons a r=>simp[jW]
  refine⟨_,rfl,fl,ul,es.map (fun d=>(-d.worth,jW d.pairs)),rfl, .of Yt,by rw[List.length_map];lia,?_,by lia,fun L=>Aq Nz L,fun i v H6 hv s6=>?_,fun p H6 D hp hs s6 hD UW=>?_⟩
  ·refine List.pairwise_map.mpr (List.Pairwise.imp_of_mem (fun{x y} hx hy MK e=>?_) AP.ap);have:=(Prod.mk.inj e).2;exact MK _ (U1 x hx) (by rw[this];exact U1 y hy)
  ·have hi:i<es.length:=by rw[←Wo];exact(Η hv).1
   have ei:es[i]?=some es[i]:=by simp[hi]
   have jK:es[i]∈es:=List.getElem_mem hi;have eg:(es.map fun d=>(-d.worth,jW d.pairs)).getD i Fe.d=(-es[i].worth,jW es[i].pairs):=by simp[hi]
   rw[eg];generalize es[i]=d at ei jK;obtain⟨x,dy,wy,mO,pr,us1,us2,e1,F⟩:=FE.2 i d ei;rw[hv]at e1;cases e1;exact⟨x,dy,wy,mO,pr,d.worth,us2,d.pairs,rfl,s6 _ _ F.ob,s6 _ _ F.hp,F.pp.same s6,(AP.xK d jK).2,fun H7 k t s7 hk ht=>⟨s7,k,rfl,t,hk,ht⟩⟩
  ·have uk:p.toList.Perm (List.range es.length):=by rw[←Wo];exact hp
   have QN:∀i∈p.toList,i<es.length:=fun i hi=>by simpa using uk.mem_iff.mp hi
   have dflt:Fd:=⟨0,[],[],[]⟩
   refine q1 (p.toList.map fun i=>es.getD i dflt) ⟨⟨es,f1,RC,ST,?_⟩,?_,?_⟩ _ D _ ((sH.trans s6).eP (sH.free hD)) (sH.free hD) af ?_
   ·have e1:(List.range es.length).map (fun i=>es.getD i dflt)=es:=by
     apply List.ext_getElem
     ·simp
     ·intro i h1 h2;simp[h2]
    have:=uk.map fun i=>es.getD i dflt
    rw[e1]at this;exact this
   ·rw[List.length_map,uk.length_eq,List.length_range];exact hle
   ·rw[List.pairwise_map,List.pairwise_iff_getElem];intro i j hi hj xJ;have hsz:p.size=es.length:=by have:=uk.length_eq;simpa using this
    have:=hs i j xJ (by rw[Wo,←hsz];simpa using hj);have g1:gd p i=p.toList[i]:=by rw[iZ];simp at hi;simp[hi]
    have g2:gd p j=p.toList[j]:=by rw[iZ];simp at hj;simp[hj]
    rw[g1,g2]at this;have l1:=QN _ (List.getElem_mem hi);have l2:=QN _ (List.getElem_mem hj);generalize p.toList[i]=x at this l1;generalize p.toList[j]=y at this l2;unfold wB Fe at this;dsimp only at this;unfold CS at this;unfold Uh;simp only[List.getD_eq_getElem?_getD,List.getElem?_map,Ω l1,Ω l2,Option.map_some,Option.getD_some]at this⊢;by_cases ew:es[x].worth=es[y].worth
    ·rw[VH ew];rw[VH (by rw[ew])]at this;exact this
    ·rw[M9 ew];rw[M9 (fun z=>ew Nz)]at this;simp at this⊢
     lia
   ·refine⟨Xx,fun k d hk=>?_⟩;rw[List.getElem?_map]at hk;cases e:p.toList[k]? with
    |none=>rw[e]at hk;cases hk
    |some i=>
     rw[e]at hk;have hi:=QN i (Ψ e);have hd:es.getD i dflt=d:=by simpa using hk
     have ei:es[i]?=some d:=by rw[←hd];simp[hi]
     obtain⟨x,dy,wy,mO,pr,us1,us2,e1,F⟩:=FE.2 i d ei;have nD:∀{b o},H5 b=some o→b≠D:=fun h z=>by rw[z,hD]at h;cases h
     refine⟨x,dy,wy,mO,pr,us1,us2,?_,F.ob|>fun h=>⟨by rw[aj (nD h)];exact s6 _ _ h,by rw[aj (nD F.hw)];exact s6 _ _ F.hw,(F.pw.same s6).same (av.upd UW),by rw[aj (nD F.hr)];exact s6 _ _ F.hr,by rw[aj (nD F.hp)];exact s6 _ _ F.hp,(F.pp.same s6).same (av.upd UW),RF.free F.fa,RF.free F.fw,RF.free F.fr,RF.free F.fp⟩⟩;rw[List.getElem?_map,e];show some (ul.getD i .cF)=_;simp[e1]
variable(Ec:Uo K aQ)
theorem qJ:aP ["self","number","older","newer","worth","way","row","pairs","left"] ["self","number","older","newer","worth","way","row","pairs","left"] (aw bZ):=gL
include T Ec in
theorem qK{f:Addr}{fd:FuncData}(F:fT K "__init__" "Entry.__init__" bZ f fd):bE P w K mg base (de P w) true 1 f fd ["self","number","older","newer","worth","way","row","pairs","left"] (qx aQ):=by
 refine F.gv qJ Ζ gM
 ·obtain⟨x,dx,wy,mO,pr,e,us1,us2,rfl,_⟩:=h;rfl
 ·obtain⟨x,dx,wy,mO,pr,e,us1,us2,rfl,hx,Im,pw,RE,Dp,pp,q⟩:=h;refine⟨_,(xX (Υ K (pv 0) (pv 1)) (xX (Υ K (pv 0) (pv 2)) (xX (Υ K (pv 0) (pv 3)) (xX (Υ K (pv 0) (pv 4)) (xX (Υ K (pv 0) (@gG _ _ _ _ _ _ _ _ _ (fb K) (by exact rfl) T.ni PyProof.Rows.Boot.«list» (Ic (pv 5)) (QY) (QY) (OB) (OB))) (xX (Υ K (pv 0) (@gG _ _ _ _ _ _ _ _ _ (fb K) (by exact rfl) T.ni PyProof.Rows.Boot.«list» (Ic (pv 6)) (QY) (QY) (OB) (OB))) (xX (Υ K (pv 0) (@gG _ _ _ _ _ _ _ _ _ (fb K) (by exact rfl) T.ni PyProof.Rows.Boot.«list» (Ic (pv 7)) (QY) (QY) (OB) (OB))) (Xm (Υ K (pv 0) (pv 8)))))))))),?_⟩;have a1:=aU "number" (.int e.number) [];have a2:=aU "older" (.str e.jH) (bq "number" (.int e.number) []);have a3:=aU "newer" (.str e.j_) (bq "older" (.str e.jH) (bq "number" (.int e.number) []));have a4:=aU "worth" (.int e.fd.worth) (bq "newer" (.str e.j_) (bq "older" (.str e.jH) (bq "number" (.int e.number) [])));simp only[List.length_nil]at a1;have lst:∀{b:Addr}{xs:List V},H b=some (.lst xs)→b≠x:=fun{b xs} h z=>by rw[z,hx]at h;cases h
  refine⟨_,rfl,_,rfl,x,aQ,dx,_,rfl,hx,Ec.cl,Ec.number,QY,?_⟩;refine⟨_,rfl,_,rfl,x,aQ,dx,_,rfl,af,Ec.cl,Ec.jH,by lia,?_⟩;refine⟨_,rfl,_,rfl,x,aQ,dx,_,rfl,af,Ec.cl,Ec.j_,by lia,?_⟩;refine⟨_,rfl,_,rfl,x,aQ,dx,_,rfl,af,Ec.cl,Ec.worth,by lia,?_⟩;rw[d0,d0,d0];have ef:=QA e.number e.jH e.j_ e.fd.worth;generalize bq "worth" (.int e.fd.worth) (bq "newer" (.str e.j_) (bq "older" (.str e.jH) (bq "number" (.int e.number) [])))=F4 at a4 ef;have s0:SameBut x H (upd H x (.ins aQ dx F4)):=fun b o hb h=>by rw[aj hb];exact h
  have Yu:upd H x (.ins aQ dx F4) x=some (.ins aQ dx F4):=af;generalize upd H x (.ins aQ dx F4)=G0 at s0 Yu;refine⟨_,rfl,wy,_,rfl, .inl (.of (s0 _ _ (lst Im) Im)),fun w1 qC=>?_⟩;have n1:w1≠x:=fun z=>by rw[z,Yu]at qC;cases qC
  have a5:=aU "way" (.ref w1) F4;refine⟨_,rfl,x,aQ,dx,_,rfl,by rw[aj (Ne.symm n1)];exact Yu,Ec.cl,Ec.way,by lia,?_⟩;have s1:=As (o:= .lst us1) (o':= .ins aQ dx (bq "way" (.ref w1) F4)) s0 qC;have k1:upd (upd G0 w1 (.lst us1)) x (.ins aQ dx (bq "way" (.ref w1) F4)) w1=some (.lst us1):=by rw[aj n1];exact af
  have mT:upd (upd G0 w1 (.lst us1)) x (.ins aQ dx (bq "way" (.ref w1) F4)) x=some (.ins aQ dx (bq "way" (.ref w1) F4)):=af;generalize upd (upd G0 w1 (.lst us1)) x (.ins aQ dx (bq "way" (.ref w1) F4))=G1 at s1 k1 mT;refine⟨_,rfl,mO,_,rfl, .inl (.of (s1 _ _ (lst RE) RE)),fun w2 Jm=>?_⟩;have n2:w2≠x:=fun z=>by rw[z,mT]at Jm;cases Jm
  have a6:=aU "row" (.ref w2) (bq "way" (.ref w1) F4);refine⟨_,rfl,x,aQ,dx,_,rfl,by rw[aj (Ne.symm n2)];exact mT,Ec.cl,Ec.row,by lia,?_⟩;have s2:=As (o:= .lst (e.fd.row.map V.int)) (o':= .ins aQ dx (bq "row" (.ref w2) (bq "way" (.ref w1) F4))) s1 Jm;have k2:=Au (o:= .lst (e.fd.row.map V.int)) (o':= .ins aQ dx (bq "row" (.ref w2) (bq "way" (.ref w1) F4))) n1 k1 Jm;have l2:upd (upd G1 w2 (.lst (e.fd.row.map V.int))) x (.ins aQ dx (bq "row" (.ref w2) (bq "way" (.ref w1) F4))) w2=some (.lst (e.fd.row.map V.int)):=by rw[aj n2];exact af
  have Cb:upd (upd G1 w2 (.lst (e.fd.row.map V.int))) x (.ins aQ dx (bq "row" (.ref w2) (bq "way" (.ref w1) F4))) x=some (.ins aQ dx (bq "row" (.ref w2) (bq "way" (.ref w1) F4))):=af;generalize upd (upd G1 w2 (.lst (e.fd.row.map V.int))) x (.ins aQ dx (bq "row" (.ref w2) (bq "way" (.ref w1) F4)))=G2 at s2 k2 l2 Cb;refine⟨_,rfl,pr,_,rfl, .inl (.of (s2 _ _ (lst Dp) Dp)),fun w3 RG=>?_⟩;have n3:w3≠x:=fun z=>by rw[z,Cb]at RG;cases RG
  have a7:=aU "pairs" (.ref w3) (bq "row" (.ref w2) (bq "way" (.ref w1) F4));refine⟨_,rfl,x,aQ,dx,_,rfl,by rw[aj (Ne.symm n3)];exact Cb,Ec.cl,Ec.pairs,by lia,?_⟩;have s3:=As (o:= .lst us2) (o':= .ins aQ dx (qv e.number e.jH e.j_ e.fd.worth w1 w2 w3 e.left)) s2 RG;have k3:=Au (o:= .lst us2) (o':= .ins aQ dx (qv e.number e.jH e.j_ e.fd.worth w1 w2 w3 e.left)) n1 k2 RG;have l3:=Au (o:= .lst us2) (o':= .ins aQ dx (qv e.number e.jH e.j_ e.fd.worth w1 w2 w3 e.left)) n2 l2 RG;refine⟨_,rfl,_,rfl,x,aQ,dx,_,rfl,af,Ec.cl,Ec.left,by lia,?_⟩;rw[d0,ef];have T:fD H (upd (upd G2 w3 (.lst us2)) x (.ins aQ dx (qv e.number e.jH e.j_ e.fd.worth w1 w2 w3 e.left))):=fun b v h=>s3 b _ (fun z=>by rw[z,hx]at h;cases h) h
  have fr:∀{G:Hp}{z:Addr},SameBut x H G→G z=none→z≠x→H z=none:=fun{G z} s h nz=>by
   cases e9:H z with
   |none=>rfl
   |some o9=>have:=s _ _ nz e9;rw[h]at this;cases this
  exact q _ w1 w2 w3 s3 (fr s0 qC n1) (fr s1 Jm n2) (fr s2 RG n3) ⟨af,k3,pw.cO T,l3,by rw[aj n3];exact af,pp.cO T⟩
variable(qL:j5 P w K mg base true 1 "Entry" aQ ["self","number","older","newer","worth","way","row","pairs","left"] [.bl false] (qx aQ))
theorem Dt:aP ["number","older","newer","finding"] ["number","older","newer","finding"] (aw px):=gL
include T Fc qL in
theorem Du{f:Addr}{fd:FuncData}(F:lu K "entry_of" "entry_of" px f fd):bE P w K mg base (de P w) true 3 f fd ["number","older","newer","finding"] (Fh aQ aT):=by
 refine F.gv Dt Ζ gM
 ·obtain⟨y,P',e,dy,wy,mO,pr,us1,us2,rfl,_⟩:=h;rfl
 ·obtain⟨y,P',e,dy,wy,mO,pr,us1,us2,rfl,F1,hl,q⟩:=h;refine⟨_,(Xm (Γ (@lQ _ _ _ _ _ _ _ _ _ _ _ _ _ _ qL (hr.mono Ε) hX.pass (R7 (pv 0) (R7 (pv 1) (R7 (pv 2) (R7 (μ K (pv 3)) (R7 (μ K (pv 3)) (R7 (μ K (pv 3)) (Ic (μ K (pv 3))))))))) (OB) (QY) (OB) (OB)))),?_⟩;refine⟨_,rfl,_,rfl,_,rfl,_,rfl,y,aT,dy,_,_,rfl,F1.ob,Fc.cl,Fc.worth,CY _ _ _ _,_,rfl,y,aT,dy,_,_,rfl,F1.ob,Fc.cl,Fc.way,Qe _ _ _ _,_,rfl,y,aT,dy,_,_,rfl,F1.ob,Fc.cl,Fc.row,Qf _ _ _ _,_,rfl,y,aT,dy,_,_,rfl,F1.ob,Fc.cl,Fc.pairs,vZ _ _ _ _,fun x dx hx GA gO=>?_⟩;have s0:av H (upd H dx (.own x)):=av.upd GA;have s5:av H (upd (upd H dx (.own x)) x (.ins aQ dx [])):=(av.upd GA).eP hx;refine⟨x,dx,wy,mO,pr,e,us1,us2,by rw[hl];rfl,af,s5 _ _ F1.hw,F1.pw.same s5,s5 _ _ F1.hr,s5 _ _ F1.hp,F1.pp.same s5,fun H' w1 w2 w3 sb f1 f2 f3 E1=>⟨rfl,q H' x dx w1 w2 w3 (SameBut.sq hx GA sb) hx (s5.free f1) (s5.free f2) (s5.free f3) E1⟩⟩
variable(dj:Er K mg "BadWord" aI)
theorem wY:aP ["texts"] ["texts"] (aw iN):=gL
include T fK eD dj in
theorem wZ{f:Addr}{fd:FuncData}(F:lu K "check_words" "check_words" iN f fd):bE P w K mg base (de P w) true 3 f fd ["texts"] (sP aI):=by
 refine F.gv wY Ζ gM
 ·obtain⟨w,ws,rfl,_⟩:=h;rfl
 ·obtain⟨w,ws,rfl,hw,hl,hz,q0,q1⟩:=h;refine⟨_,(Xm (Ι (@eO _ _ _ _ (@cZ _ _ _ (@aR _ _ _ _ _ _ _ _ _ (sj K rfl) (by exact rfl) T.Kc PyProof.Rows.Boot.«all» (Ic (@gi _ _ _ _ _ _ _ _ _ _ _ _ _ _ (by exact rfl) (show bK ["texts"] (aw iN) _ ["text"] [] []from DY) (@cx _ K _ _ _ (pv 0) (OB)) (fun _ _ _ _ _=>(Μ (0) (show(["text"]:List Str).Nodup by decide+kernel))) (fun _ _ _ _ _=>fS) (fun _ _ _ _ _=>(Κ eD a9 (Ic (pv 0)))) (by intro _;rfl))) (QY) (QY) (OB) (OB)) (by intro _;rfl))) (Xm (ο hX Α (by exact rfl) dj.m dj.e (Ic (@gI _ _ _ _ _ _ (@cy _ _ _ _ _ bh (@cy _ _ _ _ _ (@kQ _ _ _ _ (ε fK)) (@cy _ _ _ _ _ bh nc))))))) ba)),?_⟩;refine⟨_,rfl,w,rfl,⟨_, .of hw⟩,fun D hD=>?_⟩;refine d8 (xs:=ws.map V.str) (fun i ys bG H'=>(∃u,bG=[u])∧H' D=some (.lst ys)∧av H H'∧ys=((ws.take i).map gP).map V.bl) ⟨⟨_,rfl⟩,af,av.upd hD,rfl⟩ ?_ ?_ ?_
  ·rintro i ys bG H' _ ⟨_,_,s1,_⟩;exact .of (s1 _ _ hw)
  ·rintro i v ys bG H' hv ⟨⟨u,rfl⟩,qM,s1,rfl⟩;obtain⟨z,ez,rfl⟩:=Ac hv;have et:ws.take (i+1)=ws.take i++[z]:=by rw[List.take_succ,ez];rfl
   refine kR ?_;refine⟨_,rfl,z,rfl,hz z (Ψ ez),fun H2 s2=>⟨s2 _ _ qM,bR (by rw[List.length_map,List.length_map,List.length_take];lia),⟨_,rfl⟩,af,(s1.trans s2).eP hD,?_⟩⟩;rw[et,List.map_append,List.map_append];rfl
  ·rintro ys bG H' ⟨_,qM,s1,rfl⟩;rw[List.length_map,List.take_length]at qM;refine⟨D,ws.map gP,rfl, .of qM,_,rfl,?_⟩;have e:(fun bs:List Bool=>bs.all id) (ws.map gP)=ws.all gP:=by
    show(ws.map gP).all id=_;rw[List.all_map];rfl
   rw[e];refine bQ (fun h1=>?_) (fun h1=>?_)
   ·have h1:ws.all gP=false:=(Bool.not_eq_true' _).mp h1;have z1:=jE (i:=12) (by lia);have w1:(Str.ofString "a word has 1 to ").length=16:=by decide+kernel
    have w2:(Str.ofString " small letters").length=14:=by decide+kernel
    have w3:=iz;refine⟨_,rfl,ay ?_, .inr ⟨12,rfl,z1.1,_,rfl,ay ?_,_,rfl,ay ?_,ay ?_,dq,?_⟩⟩
    ·rw[len_app];lia
    ·rw[len_app,len_app];lia
    ·rw[len_app,len_app,len_app];lia
    ·rw[len_app,len_app,len_app];lia
    ·refine q1 ?_ H' s1;obtain⟨z,hz,e⟩:=List.all_eq_false.mp h1;exact⟨z,hz,by simpa using e⟩
   ·have h1:ws.all gP=true:=by simpa using h1
    exact q0 (List.all_eq_true.mp h1) H' s1
variable(Bc:N_ K bH)
theorem tq:aP ["self","name","year","words"] ["self","name","year","words"] (aw i_):=gL
include T Bc in
theorem tw{f:Addr}{fd:FuncData}(F:fT K "__init__" "Book.__init__" i_ f fd):bE P w K mg base (de P w) true 1 f fd ["self","name","year","words"] (wC bH):=by
 refine F.gv tq Ζ gM
 ·obtain⟨x,dx,w0,n,y,ws,rfl,_⟩:=h;rfl
 ·obtain⟨x,dx,w0,n,y,ws,rfl,hx,hw,q⟩:=h;refine⟨_,(xX (Υ K (pv 0) (pv 1)) (xX (Υ K (pv 0) (pv 2)) (Xm (Υ K (pv 0) (@gG _ _ _ _ _ _ _ _ _ (fb K) (by exact rfl) T.ni PyProof.Rows.Boot.«list» (Ic (pv 3)) (QY) (QY) (OB) (OB)))))),?_⟩;have a1:=aU "name" (.str n) [];have a2:=aU "year" (.int y) (bq "name" (.str n) []);simp only[List.length_nil]at a1;have nw:w0≠x:=fun e=>by rw[e,hx]at hw;cases hw
  refine⟨_,rfl,_,rfl,x,bH,dx,_,rfl,hx,Bc.cl,Bc.name,QY,?_⟩;refine⟨_,rfl,_,rfl,x,bH,dx,_,rfl,af,Bc.cl,Bc.year,by lia,?_⟩;rw[d0];refine⟨_,rfl,w0,_,rfl, .inl (.of (by rw[aj nw];exact hw)),fun w Jm=>?_⟩;have Yv:w≠x:=fun e=>by rw[e,af]at Jm;cases Jm
  have Ci:H w=none:=by rw[aj Yv]at Jm;exact Jm
  refine⟨_,rfl,x,bH,dx,_,rfl,by rw[aj (Ne.symm Yv)];exact af,Bc.cl,Bc.words,by lia,?_⟩;rw[Qz];refine q _ w (fun b o hb e=>?_) Ci ⟨af,by rw[aj Yv];exact af⟩;rw[aj hb,aj (fun z=>by rw[z,Ci]at e;cases e),aj hb];exact e
variable(dR:Cs mg "YEAR_MOST" (.int 9999))
variable(i7:Cs mg "BOOK_MOST" (.int 40))
variable(iT:cG P w K mg base true 3 "check_words" ["texts"] (sP aI))
variable(eG:Er K mg "BadName" aM)
variable(eI:Er K mg "BadYear" aN)
variable(eJ:Er K mg "BadBook" aL)
theorem x_:aP ["name","year","words"] ["name","year","words"] (aw l7):=gL
include T eD dj dR i7 iT eG eI eJ in
theorem ya{f:Addr}{fd:FuncData}(F:lu K "check_book" "check_book" l7 f fd):bE P w K mg base (de P w) true 4 f fd ["name","year","words"] (sQ aM aN aL aI):=by
 refine F.gv x_ Ζ gM
 ·obtain⟨w,n,y,ws,rfl,_⟩:=h;rfl
 ·obtain⟨w,n,y,ws,rfl,hw,hn,hl,hz,q0,q1,q2,q3,q4⟩:=h;refine⟨_,(Zq (Ι (@eO _ _ _ _ (@cZ _ _ _ (Κ eD a9 (Ic (pv 0))) (by intro _;rfl))) (Xm (ο hX Α (by exact rfl) eG.m eG.e (Ic bh))) ba) (Zq (Ι (@PW.pt _ _ _ (@pw_or _ _ _ _ _ _ _ (Ν vE (pv 1) ar (br _)) (@pw_or1 _ _ _ _ (Ν m6 (pv 1) (ε dR) (br _))))) (Xm (ο hX Α (by exact rfl) eI.m eI.e (Ic (@gI _ _ _ _ _ _ (@cy _ _ _ _ _ bh (@cy _ _ _ _ _ (@kQ _ _ _ _ (ε dR)) nc)))))) ba) (Zq (Ι (Ν m6 (γ (aV K) T.dA (Ic (pv 2))) (ε i7) (br _)) (Xm (ο hX Α (by exact rfl) eJ.m eJ.e (Ic (@gI _ _ _ _ _ _ (@cy _ _ _ _ _ bh (@cy _ _ _ _ _ (@kQ _ _ _ _ (ε i7)) (@cy _ _ _ _ _ bh nc))))))) ba) (Xm (Χ (Κ iT hX.pass (Ic (pv 2)))))))),?_⟩;have w3:=iz;refine⟨fun σ H1=>gP n=true∧σ=[sS n,sI y,sR w]∧av H H1,?_,?_⟩
  ·refine⟨_,rfl,n,rfl,hn,fun H1 s1=>⟨_,rfl,?_⟩⟩;refine bQ (fun h1=>?_) (fun h1=>?_)
   ·have h1:gP n=false:=(Bool.not_eq_true' _).mp h1;exact⟨dq,q0 (by unfold dX;rw[VH h1]) H1 s1⟩
   ·exact⟨by simpa using h1,rfl,s1⟩
  rintro σ H1 ⟨h1,rfl,s1⟩;have e1:¬gP n=false:=by simp[h1]
  refine⟨fun σ H2=>¬(y<0∨9999<y)∧σ=[sS n,sI y,sR w]∧H2=H1,?_,?_⟩
  ·have z1:=aaG;have w1:(Str.ofString "a year lies between 0 and ").length=26:=by decide+kernel
   have bad:(y<0∨9999<y)→dX n y ws=1:=fun h=>by unfold dX;rw[M9 e1,VH h]
   refine⟨_,rfl,_,_,rfl,rfl,_,rfl,?_⟩;refine bQ (fun h2=>?_) (fun h2=>?_)
   ·have h2:y<0:=by simpa using h2
    refine jD ?_;refine⟨_,rfl,ay ?_, .inr ⟨9999,rfl,z1.1,_,rfl,ay ?_,ay ?_,dq,?_⟩⟩
    ·rw[len_app];lia
    ·rw[len_app,len_app];lia
    ·rw[len_app,len_app];lia
    ·exact q1 (bad (.inl h2)) H1 s1
   have h2:¬y<0:=by simpa using h2
   refine⟨_,rfl,_,_,rfl,rfl,_,rfl,?_⟩;refine bQ (fun h3=>?_) (fun h3=>?_)
   ·have h3:9999<y:=by simpa using h3
    refine⟨_,rfl,ay ?_, .inr ⟨9999,rfl,z1.1,_,rfl,ay ?_,ay ?_,dq,?_⟩⟩
    ·rw[len_app];lia
    ·rw[len_app,len_app];lia
    ·rw[len_app,len_app];lia
    ·exact q1 (bad (.inr h3)) H1 s1
   ·have h3:¬9999<y:=by simpa using h3
    exact⟨by lia,rfl,rfl⟩
  rintro σ H1 ⟨h2,rfl,rfl⟩;have qC:=s1 _ _ hw;refine⟨fun σ H2=>¬40<ws.length∧σ=[sS n,sI y,sR w]∧H2=H1,?_,?_⟩
  ·refine⟨_,rfl,w,_,rfl, .inl (.of qC),_,_,rfl,rfl,_,rfl,?_⟩;refine bQ (fun h3=>?_) (fun h3=>?_)
   ·have h3:40<ws.length:=by
     have:(40:Int)<((ws.map V.str).length:Int):=by simpa using h3
     rw[List.length_map]at this
     lia
    have z1:=jE (i:=40) (by lia);have w1:(Str.ofString "a book has at most ").length=19:=by decide+kernel
    have w2:(Str.ofString " words").length=6:=by decide+kernel
    refine⟨_,rfl,ay ?_, .inr ⟨40,rfl,z1.1,_,rfl,ay ?_,_,rfl,ay ?_,ay ?_,dq,?_⟩⟩
    ·rw[len_app];lia
    ·rw[len_app,len_app];lia
    ·rw[len_app,len_app,len_app];lia
    ·rw[len_app,len_app,len_app];lia
    ·exact q2 (by unfold dX;rw[M9 e1,M9 h2,VH h3]) H1 s1
   ·have h3:¬40<ws.length:=by
     have:¬(40:Int)<((ws.map V.str).length:Int):=by simpa using h3
     rw[List.length_map]at this
     lia
    exact⟨h3,rfl,rfl⟩
  rintro σ H1 ⟨h3,rfl,rfl⟩;refine⟨_,rfl,w,ws,rfl,qC,hl,hz,fun ha H2 s2=>?_,fun hb H2 s2=>?_⟩
  ·exact q4 (by unfold dX;rw[M9 e1,M9 h2,M9 h3,M9 (by rw[List.all_eq_true.mpr ha];simp)]) H2 (s1.trans s2)
  ·exact q3 (by
    unfold dX;rw[M9 e1,M9 h2,M9 h3,if_pos (by
     obtain⟨z,hz,e⟩:=hb;exact List.all_eq_false.mpr ⟨z,hz,by simp[e]⟩)]) H2 (s1.trans s2)
theorem Io:aP ["book"] ["book"] (aw wO):=gL
include T Bc in
theorem Iq{f:Addr}{fd:FuncData}(F:lu K "age_of" "age_of" wO f fd):bE P w K mg base (de P w) true 1 f fd ["book"] (Fg bH):=by
 refine F.gv Io Ζ gM
 ·obtain⟨a,b,dx,w,rfl,_⟩:=h;rfl
 ·obtain⟨a,b,dx,w,rfl,B,q⟩:=h;refine⟨_,(Xm (Γ (@iw _ _ _ _ _ (R7 (Β K) (Ic (Β K)))))),?_⟩;exact⟨_,rfl,a,bH,dx,_,_,rfl,B.ob,Bc.cl,Bc.year,M0 _ _ _,_,rfl,a,bH,dx,_,_,rfl,B.ob,Bc.cl,Bc.name,vp _ _ _,ay XD,fun k hk=>q _ k (av.upd hk) af⟩
theorem Fz:aP ["entry"] ["entry"] (aw sZ):=gL
include T Ec in
theorem FA{f:Addr}{fd:FuncData}(F:lu K "rank_of" "rank_of" sZ f fd):bE P w K mg base (de P w) true 1 f fd ["entry"] (Av aQ):=by
 refine F.gv Fz Ζ gM
 ·obtain⟨a,e,dx,wy,mO,pr,us1,us2,rfl,_⟩:=h;rfl
 ·obtain⟨a,e,dx,wy,mO,pr,us1,us2,rfl,E1,q⟩:=h;refine⟨_,(Xm (Γ (@iw _ _ _ _ _ (R7 (@oN _ _ _ _ _ _ kN (Β K)) (Ic (Β K)))))),?_⟩;exact⟨_,rfl,a,aQ,dx,_,_,rfl,E1.ob,Ec.cl,Ec.worth,K6 _ _ _ _ _ _ _ _,_,rfl,_,rfl,a,aQ,dx,_,_,rfl,E1.ob,Ec.cl,Ec.number,sO _ _ _ _ _ _ _ _,ay XD,fun k hk=>q _ k (av.upd hk) af⟩
variable(Lc:Up K aE)
theorem oF:aP ["self","terms"] ["self","terms"] (aw gz):=gL
include T Lc in
theorem oG{f:Addr}{fd:FuncData}(F:fT K "__init__" "Library.__init__" gz f fd):bE P w K mg base (de P w) true 1 f fd ["self","terms"] (wD aE):=by
 refine F.gv oF Ζ gM
 ·obtain⟨x,dx,t,rfl,_⟩:=h;rfl
 ·obtain⟨x,dx,t,rfl,hx,q⟩:=h;refine⟨_,(xX (Υ K (pv 0) (pv 1)) (xX (Υ K (pv 0) (@bV _ _ _ _ ai)) (Xm (Υ K (pv 0) (@bV _ _ _ _ ai))))),?_⟩;have a1:=aU "terms" (.ref t) [];simp only[List.length_nil]at a1;refine⟨_,rfl,_,rfl,x,aE,dx,_,rfl,hx,Lc.cl,Lc.Oa,QY,?_⟩;refine⟨ay XD,fun s hs=>?_⟩;have Om:s≠x:=fun e=>by rw[e,af]at hs;cases hs
  have VV:H s=none:=by rw[aj Om]at hs;exact hs
  have a2:=aU "shelf" (.ref s) (bq "terms" (.ref t) []);refine⟨_,rfl,x,aE,dx,_,rfl,by rw[aj (Ne.symm Om)];exact af,Lc.cl,Lc.zl,by lia,?_⟩;refine⟨ay XD,fun e he=>?_⟩;have QE:e≠x:=fun z=>by rw[z,af]at he;cases he
  have Yw:e≠s:=fun z=>by rw[z,aj Om,af]at he;cases he
  have K_:H e=none:=by rw[aj QE,aj Yw,aj QE]at he;exact he
  refine⟨_,rfl,x,aE,dx,_,rfl,by rw[aj (Ne.symm QE)];exact af,Lc.cl,Lc.entries,by lia,?_⟩;rw[QB];refine q _ s e (fun b o hb h=>?_) VV K_ (Ne.symm Yw) Om QE af ?_ ?_
  ·rw[aj hb,aj (fun z=>by rw[z,K_]at h;cases h),aj hb,aj (fun z=>by rw[z,VV]at h;cases h),aj hb];exact h
  ·rw[aj Om,aj (Ne.symm Yw),aj Om];exact af
  ·rw[aj QE];exact af
theorem tD:aP ["self"] ["self"] (aw gj):=gL
include T Bc Lc in
theorem tE{f:Addr}{fd:FuncData}(F:fT K "books" "Library.books" gj f fd):bE P w K mg base (de P w) true 1 f fd ["self"] (wF aE bH):=by
 refine F.gv tD Ζ gM
 ·obtain⟨P0,x,dx,t,s,e,us,bs,rfl,_⟩:=h;rfl
 ·obtain⟨P0,x,dx,t,s',e,us,bs,rfl,hx,hs,SH,hl,q⟩:=h;refine⟨_,(Xm (Γ (@gi _ _ _ _ _ _ _ _ _ _ _ _ _ _ (by exact rfl) (show bK ["self"] (aw gj) _ ["book"] [] []from DY) (@cx _ K _ _ _ (Β K) (OB)) (fun _ _ _ _ _=>(Μ (0) (show(["book"]:List Str).Nodup by decide+kernel))) (fun _ _ _ _ _=>fS) (fun _ _ _ _ _=>(Β K)) (by intro _;rfl)))),?_⟩;have ul:=SH.1;refine⟨_,rfl,x,aE,dx,_,_,rfl,hx,Lc.cl,Lc.zl,qw _ _ _,s',rfl,⟨_, .of hs⟩,fun D hD=>?_⟩;refine d8 (xs:=us) (fun i ys bG H'=>(∃u,bG=[u])∧H' D=some (.lst ys)∧av H H'∧ys=((bs.take i).map Bk.name).map V.str) ⟨⟨_,rfl⟩,af,av.upd hD,rfl⟩ ?_ ?_ ?_
  ·rintro i ys bG H' _ ⟨_,_,s1,_⟩;exact .of (s1 _ _ hs)
  ·rintro i v ys bG H' hv ⟨⟨u,rfl⟩,qM,s1,rfl⟩;have hi:i<bs.length:=by rw[←ul];exact(Η hv).1
   have ei:bs[i]?=some bs[i]:=by simp[hi]
   generalize bs[i]=b at ei;obtain⟨a,d,w,e1,B,_,_⟩:=SH.2 i b ei;rw[hv]at e1;cases e1;have B:=B.keep s1;have et:bs.take (i+1)=bs.take i++[b]:=by rw[List.take_succ,ei];rfl
   refine kR ?_;refine⟨_,rfl,a,bH,d,_,_,rfl,B.ob,Bc.cl,Bc.name,vp _ _ _,qM,bR (by rw[List.length_map,List.length_map,List.length_take];lia),⟨_,rfl⟩,af,s1.eP hD,?_⟩;rw[et,List.map_append,List.map_append];rfl
  ·rintro ys bG H' ⟨_,qM,s1,rfl⟩;rw[ul,List.take_length]at qM;exact q H' D s1 hD qM
theorem tF:aP ["self"] ["self"] (aw ja):=gL
include T Lc in
theorem tG{f:Addr}{fd:FuncData}(F:fT K "found" "Library.found" ja f fd):bE P w K mg base (de P w) true 1 f fd ["self"] (wG aE):=by
 refine F.gv tF Ζ gM
 ·obtain⟨x,dx,t,s,e,us,rfl,_⟩:=h;rfl
 ·obtain⟨x,dx,t,s',e,us,rfl,hx,he,q⟩:=h;refine⟨_,(Xm (Γ (γ (aV K) T.dA (Ic (Β K))))),?_⟩;exact⟨_,rfl,x,aE,dx,_,_,rfl,hx,Lc.cl,Lc.entries,lX _ _ _,e,_,rfl, .inl (.of he),q⟩
theorem oH:aP ["self"] ["self"] (aw eU):=gL
include T Tc Ec Bc Lc in
theorem oI{f:Addr}{fd:FuncData}(F:fT K "standing" "Library.standing" eU f fd):bE P w K mg base (de P w) true 1 f fd ["self"] (wJ aE bH aQ aW):=by
 refine F.gv oH Ζ gM
 ·obtain⟨P0,x,dx,t,s,e,us,vs,bs,es,c,rfl,_⟩:=h;rfl
 ·obtain⟨P0,x,dx,t,s',e,us,Cf,bs,es,c,rfl,L,hl,q⟩:=h;refine⟨_,(Xm (Γ (@gi _ _ _ _ _ _ _ _ _ _ _ _ _ _ (by exact rfl) (show bK ["self"] (aw eU) _ ["entry"] [] []from DY) (@cx _ K _ _ _ (Β K) (OB)) (fun _ _ _ _ _=>(Μ (0) (show(["entry"]:List Str).Nodup by decide+kernel))) (fun _ _ _ _ _=>(@zR _ _ _ (@eO _ _ _ _ (@cZ _ _ _ (Β K) (by intro _;rfl))))) (fun _ _ _ _ _=>(pv 0)) (by intro _;rfl)))),?_⟩;have ul:=L.en.1;refine⟨_,rfl,x,aE,dx,_,_,rfl,L.ob,Lc.cl,Lc.entries,lX _ _ _,e,rfl,⟨_, .of L.he⟩,fun D hD=>?_⟩;refine d8 (xs:=Cf) (fun i ys bG H'=>(∃u,bG=[u])∧H' D=some (.lst ys)∧av H H'∧iC P0 H aQ ys ((es.take i).filter fun e=>!e.left)) ⟨⟨_,rfl⟩,af,av.upd hD, .nil⟩ ?_ ?_ ?_
  ·rintro i ys bG H' _ ⟨_,_,s1,_⟩;exact .of (s1 _ _ L.he)
  ·rintro i v ys bG H' hv ⟨⟨u,rfl⟩,qM,s1,EN⟩;have hi:i<es.length:=by rw[←ul];exact(Η hv).1
   have ei:es[i]?=some es[i]:=by simp[hi]
   generalize es[i]=b at ei;obtain⟨a,d,wy,mO,pr,us1,us2,e1,B0,p1,p2,p3,p4⟩:=L.en.2 i b ei;rw[hv]at e1;cases e1;have B:=B0.keep s1;have et:es.take (i+1)=es.take i++[b]:=by rw[List.take_succ,ei];rfl
   have hyl:=EN.1;have Md:=List.length_filter_le (fun e:En=>!e.left) (es.take i);rw[List.length_take]at Md;refine⟨_,rfl,a,aQ,d,_,_,rfl,B.ob,Ec.cl,Ec.left,M4 _ _ _ _ _ _ _ _,?_⟩;refine⟨b.left,rfl,?_⟩;refine bQ (fun hh=>?_) (fun hh=>?_)
   ·have hh:b.left=false:=by simpa using hh
    refine⟨_,rfl,qM,bR Nz,⟨_,rfl⟩,af,s1.eP hD,?_⟩;rw[et,List.filter_append,List.filter_cons_of_pos (by simp[hh]),List.filter_nil];exact EN.append (.one B0 p1 p2 p3 p4)
   ·have hh:b.left=true:=by simpa using hh
    refine⟨⟨_,rfl⟩,qM,s1,?_⟩;rw[et,List.filter_append,List.filter_cons_of_neg (by simp[hh]),List.filter_nil,List.append_nil];exact EN
  ·rintro ys bG H' ⟨_,qM,s1,EN⟩;rw[ul,List.take_length]at EN;exact q H' D ys s1 hD qM (EN.same s1)
variable(oq:cG P w K mg base true 1 "rank_of" ["entry"] (Av aQ))
variable(eZ:c6 P w K mg base true 1 aE "standing" ["self"] (wJ aE bH aQ aW))
theorem qO:aP ["self"] ["self"] (aw fX):=gL
include T cX Ec Lc oq eZ in
theorem qQ{f:Addr}{fd:FuncData}(F:fT K "listed" "Library.listed" fX f fd):bE P w K mg base (de P w) true 3 f fd ["self"] (sU aE bH aQ aW):=by
 refine F.gv qO Ζ gM
 ·obtain⟨P0,x,dx,t,s,e,us,vs,bs,es,c,rfl,_⟩:=h;rfl
 ·obtain⟨P0,x,dx,t,s',e,us,Cf,bs,es,c,rfl,L,hl,nd,hS,q⟩:=h;refine⟨_,(Xm (Γ (@gi _ _ _ _ _ _ _ _ _ _ _ _ _ _ (by exact rfl) (show bK ["self"] (aw fX) _ ["entry"] [] []from DY) (@cx _ K _ _ _ (qu ph K oq (hr.mono Ε) (@e_ _ _ _ _ _ _ _ _ _ _ _ _ _ (pv 0) eZ (hr.mono Ε) a9 (OB)) rfl cX) (OB)) (fun _ _ _ _ _=>(Μ (0) (show(["entry"]:List Str).Nodup by decide+kernel))) (fun _ _ _ _ _=>fS) (fun _ _ _ _ _=>(Β K)) (by intro _;rfl)))),?_⟩;have hle:=List.length_filter_le (fun e:En=>!e.left) es;refine⟨_,rfl,x,dx,_,rfl,L.ob,rfl,P0,x,dx,t,s',e,us,Cf,bs,es,c,rfl,L,by lia,fun H1 r M6 s1 hr Jj EN=>?_⟩;have el:=EN.1;generalize hf:(es.filter fun e=>!e.left)=Nm at EN el hle nd hS q;refine⟨r,M6,Nm.map uF,rfl, .of Jj,by simp[el],nd,by lia,by rw[el];exact hS,?_,?_⟩
  ·intro i v H2 hv s2;have hi:i<Nm.length:=by rw[←el];exact(Η hv).1
   have ei:Nm[i]?=some Nm[i]:=by simp[hi]
   generalize Nm[i]=b at ei;obtain⟨a,d,wy,mO,pr,us1,us2,e1,B,_⟩:=EN.2 i b ei;rw[hv]at e1;cases e1;have eg:(Nm.map uF).getD i ph.d=uF b:=by rw[List.getD_eq_getElem?_getD,List.getElem?_map,ei];rfl
   rw[eg];exact⟨a,b,d,wy,mO,pr,us1,us2,rfl,B.keep s2,fun H3 k s3 hk=>⟨s3,k,rfl,hk⟩⟩
  ·intro pp H2 D Le U2 s2 Cg mP;rw[el]at Le U2;have df:En:=⟨0,"","",⟨0,[],[],[]⟩,false⟩
   have EG:=EN.pick df (vq Le);have Dv:=zm df Nm Le;have Nn:=uv (T:=ph) uF df Nm Le U2;generalize (pp.toList.map fun i=>Nm.getD i df)=gs at EG Dv Nn;generalize (pp.toList.map fun i=>M6.getD i V.cF)=ug at EG⊢;have gl:=EG.1;have hgl:=Dv.length_eq;have s3:av H1 (upd H2 D (.lst ug)):=s2.trans (av.upd mP);refine⟨D,rfl,⟨_, .of af⟩,fun r2 xM=>?_⟩;refine d8 (xs:=ug) (fun i ys bG H'=>(∃u,bG=[u])∧H' r2=some (.lst ys)∧av (upd H2 D (.lst ug)) H'∧ys=((gs.take i).map fun e=>V.int e.number)) ⟨⟨_,rfl⟩,af,av.upd xM,rfl⟩ ?_ ?_ ?_
   ·rintro i ys bG H' _ ⟨_,_,s4,_⟩;exact .of (s4 _ _ af)
   ·rintro i v ys bG H' hv ⟨⟨u,rfl⟩,qM,s4,rfl⟩;have hi:i<gs.length:=by rw[←gl];exact(Η hv).1
    have ei:gs[i]?=some gs[i]:=by simp[hi]
    generalize gs[i]=b at ei;obtain⟨a,d,wy,mO,pr,us1,us2,e1,B,_⟩:=EG.2 i b ei;rw[hv]at e1;cases e1;have et:gs.take (i+1)=gs.take i++[b]:=by rw[List.take_succ,ei];rfl
    refine kR ?_;refine⟨_,rfl,a,aQ,d,_,_,rfl,s4 _ _ (s3 _ _ B.ob),Ec.cl,Ec.number,sO _ _ _ _ _ _ _ _,qM,bR (by rw[List.length_map,List.length_take];lia),⟨_,rfl⟩,af,s4.eP xM,?_⟩;rw[et,List.map_append];rfl
   ·rintro ys bG H' ⟨_,qM,s4,rfl⟩;rw[gl,List.take_length]at qM;exact q gs Dv Nn H' r2 (s1.trans (s3.trans s4)) (s1.free (s3.free xM)) qM
variable(jM:cG P w K mg base true 1 "age_of" ["book"] (Fg bH))
variable(ot:cG P w K mg base true 8 "compare" ["first","second","terms"] (wI aW aT aJ))
variable(mh:cG P w K mg base true 3 "entry_of" ["number","older","newer","finding"] (Fh aQ aT))
theorem bC:aP ["self","book","made","other","by_age","older","newer","finding","number"] ["self","book"] (aw eV):=gL
include T cX Bc Lc jM ot mh in
theorem lH{f:Addr}{fd:FuncData}(F:fT K "entries_with" "Library.entries_with" eV f fd):bE P w K mg base (de P w) true 9 f fd ["self","book"] (wK aE bH aQ aW aJ):=by
 refine F.gv bC Ζ gM
 ·obtain⟨P0,x,dx,t,s,e,a,db,w,us,vs,b,bs,es,c,rfl,_⟩:=h;rfl
 ·obtain⟨P0,x,dx,t,s',e,a,db,wb,us,vs,b,bs,es,c,rfl,L,B,Oo,U3,hl,DZ,hF,q0,q1⟩:=h;refine⟨_,(Zq (Zr (2) bC.nd (@bV _ _ _ _ ai)) (Zq (@dU _ _ _ _ _ _ _ _ hX.own Α (@cx _ K _ _ _ (Β K) (OB)) (Μ (3) bC.nd) (Zq (Zr (4) bC.nd (qu G6 K jM (hr.mono Ε) (@bV _ _ _ _ (R7 (pv 1) (Ic (pv 3)))) rfl cX)) (Zq (Zr (5) bC.nd (zU (aH K) (pv 4) ar)) (Zq (Zr (6) bC.nd (zU (aH K) (pv 4) ar)) (Xm (@dU _ _ _ _ _ _ _ _ hX.own Α (@cx _ K _ _ _ (Κ ot hX.pass (R7 (μ K (pv 5)) (R7 (μ K (pv 6)) (Ic (Β K))))) (OB)) (Μ (7) bC.nd) (Zq (Zr (8) bC.nd (yt dW (yt dW (γ (aV K) T.dA (Ic (Β K))) (γ (aV K) T.dA (Ic (pv 2)))) ar)) (Xm (Χ (ν K PySem.F.plainAttrs_list PySem.F.slot_list_append PySem.F.type_list_append dF (pv 2) (Ic (Κ mh a9 (R7 (pv 8) (R7 (μ K (pv 5)) (R7 (μ K (pv 6)) (Ic (pv 7))))))))))) (by intro _;rfl)))))) (by intro _;rfl)) (Xm (Γ (pv 2))))),?_⟩;have ul:=L.sh.1;have vl:=L.en.1;refine⟨fun σ H1=>∃M,σ=[sR x,sR a,sR M,none,none,none,none,none,none]∧av H H1∧H M=none∧H1 M=some (.lst []),⟨ay XD,fun M h=>⟨M,rfl,av.upd h,h,af⟩⟩,?_⟩;rintro σ H1 ⟨M,rfl,s1,RH,hM1⟩;refine⟨fun σ H2=>(∃u1 u2 u3 u4 u5 u6,σ=[sR x,sR a,sR M,u1,u2,u3,u4,u5,u6])∧av H H2∧∃fs ys,Made c b es.length bs fs∧H2 M=some (.lst ys)∧iC (fun z=>H z=none) H2 aQ ys fs,?_,?_⟩
  ·refine⟨_,rfl,x,aE,dx,_,_,rfl,s1 _ _ L.ob,Lc.cl,Lc.zl,qw _ _ _,s',rfl,⟨_, .of (s1 _ _ L.hs)⟩,?_⟩;refine gQ (xs:=us) (fun i σ H2=>(∃u1 u2 u3 u4 u5 u6,σ=[sR x,sR a,sR M,u1,u2,u3,u4,u5,u6])∧av H H2∧∃fs ys,Made c b es.length (bs.take i) fs∧H2 M=some (.lst ys)∧iC (fun z=>H z=none∧z≠M) H2 aQ ys fs∧fs.length≤20*i) ⟨⟨_,_,_,_,_,_,rfl⟩,s1,[],[], .nil,hM1, .nil,Xx⟩ ?_ ?_ ?_
   ·rintro i σ H2 _ ⟨_,s2,_⟩;exact .of (s2 _ _ L.hs)
   ·rintro i v σ H2 hv ⟨⟨u1,u2,u3,u4,u5,u6,rfl⟩,s2,fs,ys,MD,U4,EN,Md⟩;have hi:i<bs.length:=by rw[←ul];exact(Η hv).1
    have ei:bs[i]?=some bs[i]:=by simp[hi]
    have jK:bs[i]∈bs:=List.getElem_mem hi;generalize bs[i]=o at ei jK;obtain⟨ao,d,w,e1,BO,_,_⟩:=L.sh.2 i o ei;rw[hv]at e1;cases e1;obtain⟨how,hon⟩:=U3 o jK;have et:bs.take (i+1)=bs.take i++[o]:=by rw[List.take_succ,ei];rfl
    refine⟨fun σ H3=>∃D,σ=[sR x,sR a,sR M,sR ao,sR D,u3,u4,u5,u6]∧av H2 H3∧H3 D=some (.lst [.ref (if oQ (dP b) (dP o)=true then a else ao), .ref (if oQ (dP b) (dP o)=true then ao else a)]),?_,?_⟩
    ·refine⟨_,rfl,_,rfl,ay XD,fun p hp=>?_⟩;refine⟨p,_,[dP b,dP o],rfl, .of af,rfl,?_,Xx,fun L=>Aq XD L,?_,?_⟩
     ·have:dP b≠dP o:=fun z=>hon (Prod.mk.inj z).2.symm
      simpa using this
     ·intro j v H3 hv s3;have s3:av H H3:=(s2.trans (av.upd hp)).trans s3
      match j,hv with
      |0,hv=>cases hv;exact⟨a,b,db,wb,rfl,B.keep s3,fun H4 k s4 hk=>⟨s4,k,rfl,hk⟩⟩
      |1,hv=>cases hv;exact⟨ao,o,d,w,rfl,BO.keep s3,fun H4 k s4 hk=>⟨s4,k,rfl,hk⟩⟩
      |j+2,hv=>simp at hv
     ·intro pp H3 D Le hs s3 _ hD;have s3:av H2 H3:=(av.upd hp).trans s3;refine⟨D,rfl,s3.trans (av.upd hD),?_⟩;rw[af];rcases Fi Le hs with⟨e1,h1⟩|⟨e1,h1⟩
      ·have h1:oQ (dP b) (dP o)=true:=h1;rw[e1,VH h1,VH h1];rfl
      ·have h1:oQ (dP o) (dP b)=true:=h1;have h2:=Ff h1;rw[e1,M9 (by rw[h2];simp),M9 (by rw[h2];simp)];rfl
    rintro σ H3 ⟨D,rfl,s3,hD⟩;have Ir:=s2.trans s3;have hd:∃ol nw d1 w1 d2 w2,(if oQ (dP b) (dP o)=true then a else ao)=ol∧(if oQ (dP b) (dP o)=true then ao else a)=nw∧nB H bH ol (Lv b o) d1 w1∧nB H bH nw (Lw b o) d2 w2:=by
     unfold Lv Lw;by_cases hy:oQ (dP b) (dP o)=true
     ·rw[VH hy,VH hy,VH hy,VH hy];exact⟨_,_,_,_,_,_,rfl,rfl,B,BO⟩
     ·rw[M9 hy,M9 hy,M9 hy,M9 hy];exact⟨_,_,_,_,_,_,rfl,rfl,BO,B⟩
    obtain⟨ol,nw,d1,w1,d2,w2,eo,en,B1,B2⟩:=hd;rw[eo,en]at hD;have qC:(Lv b o).words.length≤50:=by unfold Lv;split<;>lia
    have Jm:(Lw b o).words.length≤50:=by unfold Lw;split<;>lia
    refine⟨fun σ H4=>σ=[sR x,sR a,sR M,sR ao,sR D,sR ol,u4,u5,u6]∧H4=H3,⟨_,rfl,D,_,_,_,rfl,rfl, .of hD,rfl,rfl,rfl⟩,?_⟩;rintro σ H3 ⟨rfl,rfl⟩;refine⟨fun σ H4=>σ=[sR x,sR a,sR M,sR ao,sR D,sR ol,sR nw,u5,u6]∧H4=H3,⟨_,rfl,D,_,_,_,rfl,rfl, .of hD,rfl,rfl,rfl⟩,?_⟩;rintro σ H3 ⟨rfl,rfl⟩;have B1':=B1.keep Ir;have B2':=B2.keep Ir;refine⟨_,rfl,ol,bH,d1,_,_,rfl,B1'.ob,Bc.cl,Bc.words,Df _ _ _,_,rfl,nw,bH,d2,_,_,rfl,B2'.ob,Bc.cl,Bc.words,Df _ _ _,_,rfl,x,aE,dx,_,_,rfl,Ir _ _ L.ob,Lc.cl,Lc.Oa,K7 _ _ _,?_⟩;refine⟨w1,w2,t,lY c b o,rfl,B1'.ws,B2'.ws,L.tf.keep Ir,qC,Jm,hF o jK,fun ds TD H4 r vs4 s4 hr V6 FL=>?_,fun ds f RC QO H4 s4=>q1 i o fs ds f ei MD RC QO H4 (Ir.trans s4)⟩;refine⟨r,rfl,⟨_, .of V6⟩,?_⟩;have RD:ds.length≤20:=TD.Ca;have fl:=FL.1;have UT:=s3 _ _ U4;have RI:=s4 _ _ UT;have nrM:r≠M:=fun z=>by rw[z,UT]at hr;cases hr
    have sH4:=Ir.trans s4;refine gQ (xs:=vs4) (fun j σ H5=>(∃v5 v6,σ=[sR x,sR a,sR M,sR ao,sR D,sR ol,sR nw,v5,v6])∧av H H5∧(∀b o,b≠M→H4 b=some o→H5 b=some o)∧fD H4 H5∧∃Cc,H5 M=some (.lst Cc)∧iC (fun z=>H z=none∧z≠M) H5 aQ Cc (fs++kZ (es.length+fs.length) (Lv b o).name (Lw b o).name (ds.take j))) ⟨⟨_,_,rfl⟩,sH4,fun _ _ _ h=>h,fun _ _ h=>h,ys,RI,?_⟩ ?_ ?_ ?_
    ·have:kZ (es.length+fs.length) (Lv b o).name (Lw b o).name (ds.take 0)=[]:=rfl;rw[this,List.append_nil];exact EN.same (s3.trans s4)
    ·rintro j σ H5 _ ⟨_,_,k5,_⟩;exact .of (k5 _ _ nrM V6)
    ·rintro j v σ H5 Lz ⟨⟨v5,v6,rfl⟩,s5,k5,t5,Cc,RJ,U5⟩;have hj:j<ds.length:=by rw[←fl];exact(Η Lz).1
     have ej:ds[j]?=some ds[j]:=by simp[hj]
     generalize ds[j]=g at ej;obtain⟨ax,dy,wy,mO,pr,us1,us2,e1,F⟩:=FL.2 j g ej;rw[Lz]at e1;cases e1;have yl:=U5.1;rw[List.length_append,lZ,List.length_take]at yl;have nM:∀{z},H3 z=none→z≠M:=fun{z} h e=>by rw[e,UT]at h;cases h
     have F5:zj (fun z=>H3 z=none) H5 aT ax g dy wy mO pr us1 us2:=F.keep (fun b o hb e=>k5 b o (nM hb) e) t5 fun _ h=>h
     have B15:=B1.keep s5;have B25:=B2.keep s5;have Wn:ds.take (j+1)=ds.take j++[g]:=by rw[List.take_succ,ej];rfl
     refine⟨fun σ H6=>σ=[sR x,sR a,sR M,sR ao,sR D,sR ol,sR nw,sR ax,sI (((es.length+fs.length+j+1:Nat):Int))]∧H6=H5,?_,?_⟩
     ·have en:((vs.length:Nat):Int)+((Cc.length:Nat):Int)+1=((es.length+fs.length+j+1:Nat):Int):=by lia
      refine⟨_,rfl,x,aE,dx,_,_,rfl,s5 _ _ L.ob,Lc.cl,Lc.entries,lX _ _ _,e,_,rfl, .inl (.of (s5 _ _ L.he)),_,rfl,M,_,rfl, .inl (.of RJ),_,_,rfl,rfl,_,_,rfl,rfl,?_,rfl⟩;rw[en];rfl
     rintro σ H5 ⟨rfl,rfl⟩;refine⟨_,rfl, .inl ⟨rfl,_, .of RJ⟩,_,rfl,_,rfl,ol,bH,d1,_,_,rfl,B15.ob,Bc.cl,Bc.name,vp _ _ _,_,rfl,nw,bH,d2,_,_,rfl,B25.ob,Bc.cl,Bc.name,vp _ _ _,_,rfl,ax,_,⟨((es.length+fs.length+j+1:Nat):Int),(Lv b o).name,(Lw b o).name,g,false⟩,dy,wy,mO,pr,us1,us2,rfl,F5,rfl,fun H6 x' dx' wy' Yx pr' s6 n1 n2 n3 n4 EP=>?_⟩;have hM6:=s6 _ _ RJ;have Oq:∀{z},H5 z=none→z≠M:=fun{z} h e=>by rw[e,RJ]at h;cases h
     have k7:∀z o,z≠M→H6 z=some o→upd H6 M (.lst (Cc++[.ref x'])) z=some o:=fun z o hz h=>by rw[aj hz];exact h
     have t7:fD H6 (upd H6 M (.lst (Cc++[.ref x']))):=fD.lst hM6;refine⟨M,Cc,_,rfl,rfl,hM6,bR Nz,⟨_,_,rfl⟩,(s5.trans s6).eP RH,fun z o hz h=>k7 z o hz (s6 _ _ (k5 z o hz h)),fun z v h=>t7 _ _ (fD.same s6 _ _ (t5 _ _ h)),_,af,?_⟩;rw[Wn,Dh,←List.append_assoc,List.length_take,Nat.min_eq_left Nz];refine iC.append (U5.keep (fun z o hz h=>k7 z o hz.2 (s6 _ _ h)) (fun z v h=>t7 _ _ (fD.same s6 _ _ h)) fun _ h=>h) (.one (dx:=dx') (wy:=wy') (rw:=Yx) (pr:=pr') (us1:=us1) (us2:=us2) ⟨k7 _ _ (Oq n1) EP.ob,k7 _ _ (Oq n2) EP.hw,EP.pw.cO t7,k7 _ _ (Oq n3) EP.hr,k7 _ _ (Oq n4) EP.hp,EP.pp.cO t7⟩ ⟨s5.free n1,Oq n1⟩ ⟨s5.free n2,Oq n2⟩ ⟨s5.free n3,Oq n3⟩ ⟨s5.free n4,Oq n4⟩)
    ·rintro σ H5 ⟨⟨v5,v6,rfl⟩,s5,k5,t5,Cc,RJ,U5⟩;rw[fl,List.take_length]at U5;refine⟨⟨_,_,_,_,_,_,rfl⟩,s5,_,Cc,?_,RJ,U5,?_⟩
     ·rw[et];exact MD.snoc TD
     ·rw[List.length_append,lZ];lia
   ·rintro σ H2 ⟨hσ,s2,fs,ys,MD,U4,EN,Md⟩;rw[ul,List.take_length]at MD;exact⟨hσ,s2,fs,ys,MD,U4,EN.keep (fun _ _ _ h=>h) (fun _ _ h=>h) fun _ h=>h.1⟩
  rintro σ H2 ⟨⟨u1,u2,u3,u4,u5,u6,rfl⟩,s2,fs,ys,MD,U4,EN⟩;exact⟨_,rfl,q0 fs MD H2 M ys s2 RH U4 EN⟩
variable(c7:Cs mg "BOOKS_MOST" (.int 12))
variable(vt:j5 P w K mg base true 1 "Book" bH ["self","name","year","words"] [] (wC bH))
variable(jt:cG P w K mg base true 4 "check_book" ["name","year","words"] (sQ aM aN aL aI))
variable(cD:c6 P w K mg base true 1 aE "books" ["self"] (wF aE bH))
variable(c8:c6 P w K mg base true 9 aE "entries_with" ["self","book"] (wK aE bH aQ aW aJ))
variable(cT:Er K mg "NameTaken" aD)
variable(jN:Er K mg "Full" bx)
theorem jb:aP ["self","name","year","words","book","made"] ["self","name","year","words"] (aw g0):=gL
include T cX Ec Bc Lc jM c7 vt jt cD c8 cT jN in
theorem uL{f:Addr}{fd:FuncData}(F:fT K "come" "Library.come" g0 f fd):bE P w K mg base (de P w) true 10 f fd ["self","name","year","words"] (Ax aE bH aQ aW aM aN aL aI aD bx aJ):=by
 refine F.gv jb Ζ gM
 ·obtain⟨G,x,dx,t,s,e,w,us,vs,n,y,ws,bs,es,c,rfl,_⟩:=h;rfl
 ·obtain⟨G,x,dx,t,s',e,wb,us,vs,n,y,ws,bs,es,c,rfl,L,sG,gx,ge,TG,hw,hn,Gj,hz,U3,Ik,DZ,hF,xK,q0,q1,q2,q3,qN,qF,qX,q⟩:=h;refine⟨_,(Zq (Χ (Κ jt hX.pass (R7 (pv 1) (R7 (pv 2) (Ic (pv 3)))))) (Zq (Ι (Ν (vQ K) (pv 1) (@e_ _ _ _ _ _ _ _ _ _ _ _ _ _ (pv 0) cD (hr.mono Ε) a9 (OB)) (by with_unfolding_all rfl)) (Xm (ο hX Α (by exact rfl) cT.m cT.e (Ic bh))) ba) (Zq (Ι (Ν Gd (γ (aV K) T.dA (Ic (Β K))) (ε c7) (br _)) (Xm (ο hX Α (by exact rfl) jN.m jN.e (Ic (@gI _ _ _ _ _ _ (@cy _ _ _ _ _ bh (@cy _ _ _ _ _ (@kQ _ _ _ _ (ε c7)) (@cy _ _ _ _ _ bh nc))))))) ba) (Zq (Zr (4) jb.nd (@lQ _ _ _ _ _ _ _ _ _ _ _ _ _ _ vt (hr.mono Ε) hX.pass (R7 (pv 1) (R7 (pv 2) (Ic (pv 3)))) (OB) (QY) (OB) (OB))) (Zq (Zr (5) jb.nd (η (pv 0) c8 hX.pass (Ic (pv 4)))) (Zq (Χ (ν K PySem.F.plainAttrs_list PySem.F.slot_list_extend PySem.F.type_list_extend se (Β K) (Ic (pv 5)))) (Zq (Υ K (pv 0) (qu G6 K jM (hr.mono Ε) (yt sf (Β K) (@bV _ _ _ _ (Ic (pv 4)))) rfl cX)) (Xm (Γ (@gi _ _ _ _ _ _ _ _ _ _ _ _ _ _ (by exact rfl) (show bK ["self","name","year","words","book","made"] (aw g0) _ ["entry"] [] []from DY) (@cx _ K _ _ _ (pv 5) (OB)) (fun _ _ _ _ _=>(Μ (0) (show(["entry"]:List Str).Nodup by decide+kernel))) (fun _ _ _ _ _=>fS) (fun _ _ _ _ _=>(Β K)) (by intro _;rfl))))))))))),?_⟩;have ul:=L.sh.1;have vl:=L.en.1;have w3:=iz;refine⟨fun σ H1=>σ=[sR x,sS n,sI y,sR wb,none,none]∧av H H1∧dX n y ws=4,?_,?_⟩
  ·exact⟨_,rfl,_,rfl,_,rfl,wb,n,y,ws,rfl,hw,hn,Gj,hz,q0,q1,q2,q3,fun h4 H1 s1=>⟨rfl,s1,h4⟩⟩
  rintro σ H1 ⟨rfl,s1,h4⟩;refine⟨fun σ H2=>σ=[sR x,sS n,sI y,sR wb,none,none]∧av H H2∧n∉bs.map Bk.name,?_,?_⟩
  ·refine⟨_,rfl,_,rfl,x,dx,_,rfl,s1 _ _ L.ob,rfl,_,x,dx,t,s',e,us,bs,rfl,s1 _ _ L.ob,s1 _ _ L.hs,L.sh.same s1,by lia,fun H2 r s2 hr xM=>?_⟩;refine⟨r,_,rfl, .inl (.of xM),rfl,by simp[f_],_,rfl,?_⟩;refine bQ (fun hh=>?_) (fun hh=>?_)
   ·have hh:n∈bs.map Bk.name:=by
     rw[if_neg XD,vm]at hh;simpa using hh
    exact⟨dq,qN h4 hh H2 (s1.trans s2)⟩
   ·have hh:n∉bs.map Bk.name:=by
     rw[if_neg XD,vm]at hh;simpa using hh
    exact⟨rfl,s1.trans s2,hh⟩
  rintro σ H2 ⟨rfl,s2,Np⟩;have O3:=s2 _ _ L.hs;refine⟨fun σ H3=>σ=[sR x,sS n,sI y,sR wb,none,none]∧H3=H2∧bs.length<12,?_,?_⟩
  ·refine⟨_,rfl,x,aE,dx,_,_,rfl,s2 _ _ L.ob,Lc.cl,Lc.zl,qw _ _ _,s',_,rfl, .inl (.of O3),_,_,rfl,rfl,_,rfl,?_⟩;refine bQ (fun hh=>?_) (fun hh=>?_)
   ·have hh:12≤bs.length:=by
     have:(12:Int)≤((us.length:Nat):Int):=by simpa using hh
     lia
    have z1:=jE (i:=12) (by lia);have w1:(Str.ofString "a library has at most ").length=22:=by decide+kernel
    have w2:(Str.ofString " books").length=6:=by decide+kernel
    refine⟨_,rfl,ay ?_, .inr ⟨12,rfl,z1.1,_,rfl,ay ?_,_,rfl,ay ?_,ay ?_,dq,qF h4 Np hh H2 s2⟩⟩;all_goals (simp only[len_app];lia)
   ·have hh:bs.length<12:=by
     have:¬(12:Int)≤((us.length:Nat):Int):=by simpa using hh
     lia
    exact⟨rfl,rfl,hh⟩
  rintro σ H2 ⟨rfl,rfl,To⟩;have Yy:ws.length≤40:=by
   unfold dX at h4;split at h4
   ·cases h4
   split at h4
   ·cases h4
   split at h4
   ·cases h4
   lia
  refine⟨fun σ H3=>∃a da w,σ=[sR x,sS n,sI y,sR wb,sR a,none]∧av H2 H3∧nB H3 bH a ⟨n,y,ws⟩ da w∧H2 a=none∧H2 w=none,?_,?_⟩
  ·refine⟨_,rfl,_,rfl,_,rfl,fun a da ha hda gO=>?_⟩;have s0:av H2 (upd H2 da (.own a)):=av.upd hda;have s5:av H2 (upd (upd H2 da (.own a)) a (.ins bH da [])):=s0.eP ha;exact⟨a,da,wb,n,y,ws,rfl,af,s5 _ _ (s2 _ _ hw),fun H3 w sb Ci BP=>⟨rfl,a,da,w,rfl,SameBut.sq ha hda sb,BP,ha,s5.free Ci⟩⟩
  rintro σ H3 ⟨a,da,w,rfl,s3,BP,Fv,Ci⟩;have Ir:=s2.trans s3;refine⟨fun σ H4=>∃M Ck fs,σ=[sR x,sS n,sI y,sR wb,sR a,sR M]∧av H3 H4∧H3 M=none∧H4 M=some (.lst Ck)∧iC (fun z=>H3 z=none) H4 aQ Ck fs∧Made c ⟨n,y,ws⟩ es.length bs fs,?_,?_⟩
  ·refine⟨_,rfl,x,dx,_,rfl,Ir _ _ L.ob,rfl,_,rfl,_,x,dx,t,s',e,a,da,w,us,vs,⟨n,y,ws⟩,bs,es,c,rfl,L.same Ir,BP,by show ws.length≤50;lia,fun o ho=>⟨by have:=U3 o ho;lia,fun z=>Np (List.mem_map.mpr ⟨o,ho,z⟩)⟩,by lia,DZ,fun o ho=>hF o ho Yy,fun fs MD H4 M Ck s4 RH RI EN=>⟨M,Ck,fs,rfl,s4,RH,RI,EN,MD⟩,fun k o fs ds f ek MD RC QO H4 s4=>qX h4 Np To k o fs ds f ek MD RC QO H4 (Ir.trans s4)⟩
  rintro σ H4 ⟨M,Ck,fs,rfl,s4,RH,RI,EN,MD⟩;have QP:=Ir.trans s4;refine⟨fun σ H5=>σ=[sR x,sS n,sI y,sR wb,sR a,sR M]∧H5=upd H4 e (.lst (vs++Ck)),?_,?_⟩
  ·have Ld:=QP _ _ L.he;refine⟨_,rfl,x,aE,dx,_,_,rfl,QP _ _ L.ob,Lc.cl,Lc.entries,lX _ _ _, .inl ⟨rfl,_, .of Ld⟩,_,rfl,e,M,vs,Ck,rfl,rfl,Ld,RI,ay ?_,rfl,rfl⟩;have z1:=EN.1;have z2:=MD.Ca fun o ds h=>h.Ca
   lia
  rintro σ H5 ⟨rfl,rfl⟩;have Od:x≠e:=fun z=>by have:=L.ob;rw[z,L.he]at this;cases this
  have ne:∀{z},H2 z=none→z≠e:=fun{z} h q=>by rw[q,s2 _ _ L.he]at h;cases h
  have ox:=QP _ _ L.ob;have os:=QP _ _ L.hs;have ae:=ne Fv;have B4:=BP.keep s4;have SH4:=L.sh.same QP;have nd:=Fj (b:=⟨n,y,ws⟩) xK Np;have h5:∀z o,z≠e→H4 z=some o→upd H4 e (.lst (vs++Ck)) z=some o:=fun z o hz h=>by rw[aj hz];exact h
  refine⟨fun σ H6=>∃s6 G_ FC H7,σ=[sR x,sS n,sI y,sR wb,sR a,sR M]∧av (upd H4 e (.lst (vs++Ck))) H7∧(upd H4 e (.lst (vs++Ck))) s6=none∧H6=upd (upd H7 s6 (.lst G_)) x (.ins aE dx (eh t s6 e))∧FC.Perm (bs++[⟨n,y,ws⟩])∧(FC.Pairwise fun a b=>oQ (dP a) (dP b)=true)∧fF (fun z=>z≠x∧z≠e) (upd H4 e (.lst (vs++Ck))) bH G_ FC,?_,?_⟩
  ·refine⟨_,rfl,x,aE,dx,_,_,rfl,h5 _ _ Od ox,Lc.cl,Lc.zl,qw _ _ _,_,rfl,ay XD,fun p hp=>?_⟩;refine⟨s',p,us,[.ref a],rfl,rfl,by rw[aj (fun z=>by rw[←z,h5 _ _ L.ne os]at hp;cases hp)];exact h5 _ _ L.ne os,af,ay (by simp;lia),fun p2 JH=>?_⟩;refine⟨p2,_,(bs++[(⟨n,y,ws⟩:Bk)]).map dP,rfl, .of af,by simp[ul],nd,by simp;lia,fun L=>Aq (by simp;lia) L,?_,?_⟩
   ·intro i v H6 hv s6;have SB:fF (fun z=>z≠e) H4 bH (us++[.ref a]) (bs++[(⟨n,y,ws⟩:Bk)]):=(SH4.keep (fun _ _ _ h=>h) fun _ h=>h.2).append (.one B4 ae (ne Ci));have hi:i<(bs++[(⟨n,y,ws⟩:Bk)]).length:=by rw[←SB.1];exact(Η hv).1
    have ei:(bs++[(⟨n,y,ws⟩:Bk)])[i]?=some (bs++[(⟨n,y,ws⟩:Bk)])[i]:=by simp[hi]
    generalize (bs++[(⟨n,y,ws⟩:Bk)])[i]=o at ei;obtain⟨ao,d,wo,e1,BO,p1,p2'⟩:=SB.2 i o ei;rw[hv]at e1;cases e1;have eg:((bs++[(⟨n,y,ws⟩:Bk)]).map dP).getD i G6.d=dP o:=by rw[List.getD_eq_getElem?_getD,List.getElem?_map,ei];rfl
    rw[eg];have k6:∀z o,z≠e→H4 z=some o→H6 z=some o:=fun z o hz h=>s6 _ _ ((av.upd JH) _ _ ((av.upd hp) _ _ (h5 z o hz h)))
    exact⟨ao,o,d,wo,rfl,⟨k6 _ _ p1 BO.ob,k6 _ _ p2' BO.ws⟩,fun H' k s' hk=>⟨s',k,rfl,hk⟩⟩
   ·intro pp H6 D Le U2 s6 UU hD;have SB:fF (fun z=>z≠x∧z≠e) (upd H4 e (.lst (vs++Ck))) bH (us++[.ref a]) (bs++[(⟨n,y,ws⟩:Bk)]):=(SH4.keep (fun z o hz h=>h5 z o hz.2 h) fun _ h=>h).append (.one ⟨h5 _ _ ae B4.ob,h5 _ _ (ne Ci) B4.ws⟩ ⟨(fun z=>by have:=s2 _ _ L.ob;rw[←z,Fv]at this;cases this),ae⟩ ⟨(fun z=>by have:=s2 _ _ L.ob;rw[←z,Ci]at this;cases this),ne Ci⟩);have hlen:=SB.1;rw[hlen]at Le U2;have s7:av (upd H4 e (.lst (vs++Ck))) H6:=((av.upd hp).trans (av.upd JH)).trans s6;have df:Bk:=⟨n,y,ws⟩
    refine⟨_,rfl,x,aE,dx,eh t s' e,rfl,?_,Lc.cl,Lc.zl,by simp[eh],D,_,_,H6,rfl,s7,s7.free hD,?_,zm df _ Le,uv (T:=G6) dP df _ Le U2,SB.pick df (vq Le)⟩
    ·rw[aj (fun z=>by have:=s7 _ _ (h5 _ _ Od ox);rw[z,hD]at this;cases this)];exact s7 _ _ (h5 _ _ Od ox)
    ·rw[M5]
  rintro σ H6 ⟨s6,G_,FC,H7,rfl,s7,U6,rfl,Dv,Nn,SH6⟩;have ox5:=h5 _ _ Od ox;have s7e:H7 e=some (.lst (vs++Ck)):=s7 _ _ af;have nD:∀{z o},(upd H4 e (.lst (vs++Ck))) z=some o→z≠s6:=fun h q=>by rw[q,U6]at h;cases h
  have kf:∀z o,z≠x→(upd H4 e (.lst (vs++Ck))) z=some o→upd (upd H7 s6 (.lst G_)) x (.ins aE dx (eh t s6 e)) z=some o:=fun z o hz h=>by rw[aj hz,aj (nD h)];exact s7 _ _ h
  have Om:s6≠x:=fun z=>by rw[z,ox5]at U6;cases U6
  have Yz:s6≠e:=fun z=>by rw[z,af]at U6;cases U6
  have n3:∀{z},H3 z=none→z≠x∧z≠e:=fun{z} h=>⟨(fun q=>by rw[q,Ir _ _ L.ob]at h;cases h),(fun q=>by rw[q,Ir _ _ L.he]at h;cases h)⟩
  have nM:=n3 RH;have YA:=kf M _ nM.1 (h5 _ _ nM.2 RI);have Ld:=QP _ _ L.he;have kH:∀z o,z≠x→z≠e→H z=some o→upd (upd H7 s6 (.lst G_)) x (.ins aE dx (eh t s6 e)) z=some o:=fun z o h1 h2 h=>kf z o h1 (h5 _ _ h2 (QP _ _ h))
  have k4:∀z o,z≠x→z≠e→H4 z=some o→upd (upd H7 s6 (.lst G_)) x (.ins aE dx (eh t s6 e)) z=some o:=fun z o h1 h2 h=>kf z o h1 (h5 _ _ h2 h)
  have kE:=kf e _ (Ne.symm Od) af;have kS:upd (upd H7 s6 (.lst G_)) x (.ins aE dx (eh t s6 e)) s6=some (.lst G_):=by rw[aj Om];exact af
  have kX:upd (upd H7 s6 (.lst G_)) x (.ins aE dx (eh t s6 e)) x=some (.ins aE dx (eh t s6 e)):=af;generalize upd (upd H7 s6 (.lst G_)) x (.ins aE dx (eh t s6 e))=HF at YA kH k4 kE kS kX kf⊢;have fl:=EN.1;have SH7:fF (fun z=>z≠x∧z≠e) HF bH G_ FC:=SH6.keep (fun z o hz h=>kf z o hz.1 h) fun _ h=>h
  refine⟨_,rfl,M,rfl,⟨_, .of YA⟩,fun D hD=>?_⟩;refine d8 (xs:=Ck) (fun i ys bG H'=>(∃u,bG=[u])∧H' D=some (.lst ys)∧av HF H'∧ys=((fs.take i).map fun e=>V.int e.number)) ⟨⟨_,rfl⟩,af,av.upd hD,rfl⟩ ?_ ?_ ?_
  ·rintro i ys bG H' _ ⟨_,_,s1,_⟩;exact .of (s1 _ _ YA)
  ·rintro i v ys bG H' hv ⟨⟨u,rfl⟩,qM,Iu,rfl⟩;have hi:i<fs.length:=by rw[←fl];exact(Η hv).1
   have ei:fs[i]?=some fs[i]:=by simp[hi]
   generalize fs[i]=b at ei;obtain⟨ab,d,wy,mO,pr,us1,us2,e1,B,p1,_⟩:=EN.2 i b ei;rw[hv]at e1;cases e1;have et:fs.take (i+1)=fs.take i++[b]:=by rw[List.take_succ,ei];rfl
   have Md:=MD.Ca fun o ds h=>h.Ca
   refine kR ?_;refine⟨_,rfl,ab,aQ,d,_,_,rfl,Iu _ _ (k4 _ _ (n3 p1).1 (n3 p1).2 B.ob),Ec.cl,Ec.number,sO _ _ _ _ _ _ _ _,qM,bR (by rw[List.length_map,List.length_take];lia),⟨_,rfl⟩,af,Iu.eP hD,?_⟩;rw[et,List.map_append];rfl
  ·rintro ys bG H' ⟨_,qM,Iu,rfl⟩;rw[fl,List.take_length]at qM;have hDH:H D=none:=by
    cases z:H D with
    |none=>rfl
    |some o=>
     have h1:D≠x:=fun q=>by rw[q,kX]at hD;cases hD
     have h2:D≠e:=fun q=>by rw[q,kE]at hD;cases hD
     rw[kH D o h1 h2 z]at hD;cases hD
   refine q h4 Np To fs MD FC Dv Nn H' D s6 G_ (vs++Ck) ⟨Iu _ _ kX,Iu _ _ kS,SH7.same Iu,Iu _ _ kE,iC.append (L.en.keep (fun z o hz h=>Iu _ _ (kH z o hz.1 hz.2 h)) (fun z v h=>Iu _ _ (kH z _ (fun q=>by rw[q,L.ob]at h;cases h) (fun q=>by rw[q,L.he]at h;cases h) h)) fun _ h=>h) (EN.keep (fun z o hz h=>Iu _ _ (k4 z o (n3 hz).1 (n3 hz).2 h)) (fun z v h=>Iu _ _ (k4 z _ (fun q=>by rw[q,ox]at h;cases h) (fun q=>by rw[q,Ld]at h;cases h) h)) fun _ h=>n3 h),TG.keep fun z o h=>Iu _ _ (kH z o (fun q=>by rw[q,gx]at h;cases h) (fun q=>by rw[q,ge]at h;cases h) (sG _ _ h)),Yz⟩ (fun z o h1 h2 h=>Iu _ _ (kH z o h1 h2 h)) hDH qM
theorem FF:aP ["_law_script","_law_k"] ["_law_script","_law_k"] (aw s_):=gL
include T in
theorem FG{f:Addr}{fd:FuncData}(F:lu K "_law_at" "_law_at" s_ f fd):bE P w K mg base (de P w) true 1 f fd ["_law_script","_law_k"] (Kd K):=by
 refine F.gv FF Ζ gM
 ·obtain⟨a,ns,k,rfl,_⟩:=h;rfl
 ·obtain⟨a,ns,k,rfl,hS,h0,q⟩:=h;refine⟨_,(xX (Ι (Ν vE (pv 1) (γ (aV K) T.dA (Ic (pv 0))) (br _)) (Xm (Γ (zU (aH K) (pv 0) (pv 1)))) ba) (Xm (Γ ar))),?_⟩;refine⟨_,rfl,_,rfl,a,_,rfl, .inl hS,_,_,rfl,rfl,_,rfl,?_⟩;refine bQ (fun h=>?_) (fun h=>?_)
  ·have h:k<((ns.map V.int).length:Int):=by simpa using h
   rw[List.length_map]at h;exact⟨_,rfl,_,rfl,a,_,k,_,rfl,rfl,hS,Mn h0 h,q⟩
  ·have h:¬k<((ns.map V.int).length:Int):=by simpa using h
   rw[List.length_map]at h;rw[cell_out h0 h]at q;exact q
theorem yb:aP ["_law_found"] ["_law_found"] (aw l8):=gL
include T in
theorem yc{f:Addr}{fd:FuncData}(F:lu K "_law_whole" "_law_whole" l8 f fd):bE P w K mg base (de P w) true 1 f fd ["_law_found"] vS:=by
 refine F.gv yb Ζ gM
 ·obtain⟨i,rfl,_⟩:=h;rfl
 ·obtain⟨i,rfl,q⟩:=h;refine⟨_,(Xm (Γ (@lN _ _ _ _ _ _ _ (ι (lA K) T.bw (R7 (pv 0) (Ic (@nV _ _ (.ty "int") _ _ (by exact rfl) T.Kb PyProof.Rows.Boot.«int» Α (QY) (QY))))) (@mZ _ _ _ _ _ (@OT _ _ _ _ (ι (lA K) T.bw (R7 (pv 0) (Ic (@nV _ _ (.ty "bool") _ _ (by exact rfl) T.PL PyProof.Rows.Boot.«bool» Α (QY) (QY)))))))))),?_⟩;refine⟨_,rfl,_,_,_,true,_,rfl,rfl, .int i,rfl,_,rfl,?_⟩;refine jD ?_;exact⟨_,rfl,_,_,_,false,_,rfl,rfl, .int i,by kernel_rfl,_,rfl,q⟩
theorem ck:aP ["_law_cell","_law_other","_law_many","_law_letters","_law_stem","_law_rest","_law_k","_law_size","_law_found","_law_spot","_law_sign"] ["_law_cell","_law_other","_law_many"] (aw nC):=gL
include T in
theorem AD{f:Addr}{fd:FuncData}(F:lu K "_law_bank" "_law_bank" nC f fd):bE P w K mg base (de P w) true 1 f fd ["_law_cell","_law_other","_law_many"] Ab:=by
 refine F.gv ck Ζ gM
 ·obtain⟨cell,other,many,rfl,_⟩:=h;rfl
 ·obtain⟨cell,other,many,rfl,U7,hm,q⟩:=h;have l26:=Gy;have U8:(0:Int)<26:=QY;have c12:(0:Int)<12:=QY;refine⟨_,(xX (Zr (3) ck.nd bh) (xX (Zr (4) ck.nd bh) (xX (Zr (5) ck.nd (yt iI (pv 0) ar)) (xX (@dU _ _ _ _ _ _ _ _ hX.own Α (@gF _ _ _ _ _ _ (by exact rfl) T.iJ (Ic ar) (OB)) (Μ (6) ck.nd) (xX (Zr (4) ck.nd (yt gq (pv 4) (zU zG (pv 3) (yt cI (pv 5) ar)))) (Xm (Zr (5) ck.nd (yt iI (pv 5) ar)))) (by intro _;rfl)) (xX (Zr (7) ck.nd (yt dW ar (yt cI (yt iI (pv 0) ar) ar))) (xX (Zr (8) ck.nd (@bV _ _ _ _ ai)) (xX (@dU _ _ _ _ _ _ _ _ hX.own Α (@gF _ _ _ _ _ _ (by exact rfl) T.iJ (Ic (pv 2)) (OB)) (Μ (6) ck.nd) (Xm (Ι (Ν ij (yt cI (pv 0) ar) ar (br _)) (Xm (Χ (ν K PySem.F.plainAttrs_list PySem.F.slot_list_append PySem.F.type_list_append dF (pv 8) (Ic (@lr _ _ _ _ _ _ _ _ _ _ vN (pv 4) p8 (@lP _ _ _ (yt dW ar (yt cI (yt dW (pv 7) (pv 6)) ar)))))))) (xX (Zr (9) ck.nd (yt cI (pv 1) (pv 7))) (xX (Zr (10) ck.nd (zU zG (pv 3) (yt cI (yt dW (yt iI (pv 1) ar) (pv 6)) ar))) (Xm (Χ (ν K PySem.F.plainAttrs_list PySem.F.slot_list_append PySem.F.type_list_append dF (pv 8) (Ic (yt gq (yt gq (@lr _ _ _ _ _ _ _ _ _ _ vN (pv 4) p8 (@lP _ _ _ (pv 9))) (pv 10)) (@lr _ _ _ _ _ _ _ _ _ _ vN (pv 4) (@lP _ _ _ (yt dW (pv 9) ar)) (@lP _ _ _ (pv 7)))))))))))) (by intro _;rfl)) (Xm (Γ (pv 8)))))))))),?_⟩;refine⟨_,rfl,_,_,rfl,rfl,⟨QY,QY⟩,?_⟩;refine⟨12,rfl,QY,QY,?_⟩;refine ir (fun i σ H'=>H'=H∧∃(bI:Str)(rest:Int)(kv:Option V),bI.length=i∧lows bI∧σ=[sI cell,sI other,sI many,sS Lr,sS bI,sI rest,kv,none,none,none,none]) ⟨rfl,_,_,_,(by decide+kernel),(show(Str.ofString "").cps.toList.all low=true by decide+kernel),rfl⟩ ?_ ?_
  ·rintro i σ H' hi ⟨rfl,bI,rest,kv,hl,uM,rfl⟩;have hi:i<12:=hi;refine⟨_,rfl,_,rfl,_,rfl,_,_,rfl,rfl,U8,_,_,_,rfl,rfl,ay Nz,z_,_,_,rfl,rfl,ay (show bI.length+1≤100000 by lia),?_⟩;refine⟨_,rfl,_,_,rfl,rfl,⟨QY,QY⟩,rfl,_,_,_,?_,?_,rfl⟩
   ·rw[len_app,hl];rfl
   ·have h1:bI.cps.toList.all low=true:=uM;have h2:=vk rest;unfold lows;rw[j7,List.all_append,h1];simp[h2]
  ·rintro σ H' ⟨rfl,bI,rest,kv,hl,uM,rfl⟩;have hl:bI.length=12:=hl;refine⟨_,rfl,_,_,rfl,rfl,⟨QY,QY⟩,_,_,rfl,rfl,c12,_,_,rfl,rfl,?_⟩;have z0:1≤1+cell/2%12∧1+cell/2%12≤12:=by lia
   refine⟨ay XD,fun D hD=>?_⟩;refine⟨_,rfl,many,rfl,by lia,by lia,?_⟩;refine ir (fun i σ H2=>(∃u v w,σ=[sI cell,sI other,sI many,sS Lr,sS bI,sI rest,u,sI (1+cell/2%12),sR D,v,w])∧H2 D=some (.lst (((List.range i).map (lB bI cell other)).map V.str))∧av H' H2) ⟨⟨_,_,_,rfl⟩,af,av.upd hD⟩ ?_ ?_
   ·rintro i σ H2 hi ⟨⟨u,v,w,rfl⟩,mP,s2⟩;have hi:i<12:=by lia
    have nx:∀z,z=lB bI cell other i→(List.range i).map (fun k=>V.str (lB bI cell other k))++[V.str z]=((List.range (i+1)).map (lB bI cell other)).map V.str:=fun z e=>by
     rw[List.range_succ,e];simp
    have jv:(((List.range i).map (lB bI cell other)).map V.str).length<sizeLine:=bR (by simp;lia);refine⟨_,rfl,_,_,rfl,rfl,(show(0:Int)<2 by decide),rfl,_,rfl,?_⟩;refine bQ (fun h=>?_) (fun h=>?_)
    ·have h:cell%2=1:=by simpa using h
     refine⟨_,rfl, .inl ⟨rfl,_, .of mP⟩,_,rfl,_,rfl,_,rfl,_,_,rfl,rfl,_,_,rfl,rfl,c12,_,_,rfl,rfl,_,rfl,bI,rfl,ay Nz,D,_,_,rfl,rfl,mP,jv,⟨_,_,_,rfl⟩,?_,s2.eP hD⟩;rw[af];have:=nx (Txt.slice bI none (some (1+(1+cell/2%12+(0+(i:Int)))%12))) (by simp[lB,h]);rw[←this];simp
    ·have h:¬cell%2=1:=by simpa using h
     have z1:0≤other%(1+cell/2%12)∧other%(1+cell/2%12)<1+cell/2%12:=⟨Int.emod_nonneg _ (by lia),Int.emod_lt_of_pos _ (by lia)⟩
     have b1:=si bI none (some (other%(1+cell/2%12)));have b2:=si bI (some (other%(1+cell/2%12)+1)) (some (1+cell/2%12));refine⟨_,rfl,_,rfl,_,_,rfl,rfl,(show(0:Int)<1+cell/2%12 by lia),?_⟩;refine⟨_,rfl,_,rfl,_,_,rfl,rfl,⟨QY,QY⟩,_,rfl,_,_,rfl,rfl,_,_,rfl,rfl,U8,_,_,_,rfl,rfl,ay Nz,z_,?_⟩;refine⟨_,rfl, .inl ⟨rfl,_, .of mP⟩,_,rfl,_,rfl,_,rfl,bI,rfl,ay Nz,_,rfl,_,_,rfl,rfl,ay (show(Txt.slice bI none (some (other%(1+cell/2%12)))).length+1≤100000 by lia),_,rfl,_,rfl,_,_,rfl,rfl,_,rfl,_,rfl,_,rfl,bI,rfl,ay Nz,_,_,rfl,rfl,?_,D,_,_,rfl,rfl,mP,jv,⟨_,_,_,rfl⟩,?_,s2.eP hD⟩
     ·rw[len_app];exact ay (show(Txt.slice bI none (some (other%(1+cell/2%12)))).length+1+_≤100000 by lia)
     rw[af];have:=nx (Txt.slice bI none (some (other%(1+cell/2%12)))++⟨#[97+((other/12+(0+(i:Int)))%26).toNat]⟩++Txt.slice bI (some (other%(1+cell/2%12)+1)) (some (1+cell/2%12))) (by simp[lB,h]);rw[←this];simp
   ·rintro σ H2 ⟨⟨u,v,w,rfl⟩,mP,s2⟩;refine⟨_,rfl,q H2 D _ s2 hD mP XD ?_ (EF hl cell other (by lia))⟩;intro z hz;obtain⟨k,_,rfl⟩:=List.mem_map.mp hz;exact Ko hl uM cell other k
variable(c_:cG P w K mg base true 1 "_law_whole" ["_law_found"] vS)
theorem uw:aP ["_law_found","_law_due_here","_law_k"] ["_law_found","_law_due_here"] (aw pz):=gL
include T c_ in
theorem Dw{f:Addr}{fd:FuncData}(F:lu K "_law_row" "_law_row" pz f fd):bE P w K mg base (de P w) true 2 f fd ["_law_found","_law_due_here"] EH:=by
 refine F.gv uw Ζ gM
 ·obtain⟨a,b,is,rfl,_⟩:=h;rfl
 ·obtain⟨a,b,is,rfl,ha,hb,hlen,q⟩:=h;have el:(is.map V.int).length=is.length:=List.length_map ..;refine⟨_,(xX (ω (Xm (Γ j1)) ba) (xX (@dU _ _ _ _ _ _ _ _ hX.own Α (@gF _ _ _ _ _ _ (by exact rfl) T.iJ (Ic (γ (aV K) T.dA (Ic (pv 1)))) (OB)) (Μ (2) uw.nd) (Xm (Ι (@PW.pt _ _ _ (@pw_or _ _ _ _ _ _ _ (@eO _ _ _ _ (@cZ _ _ _ (Κ c_ a9 (Ic (zU (aH K) (pv 0) (pv 2)))) (by intro _;rfl))) (@pw_or1 _ _ _ _ (Ν vD (zU (aH K) (pv 0) (pv 2)) (zU (aH K) (pv 1) (pv 2)) (br _))))) (Xm (Γ j1)) ba)) (by intro _;rfl)) (Xm (Γ j1)))),?_⟩;refine⟨_,rfl,_,_,_,true,_,rfl,rfl, .lst ha,rfl,_,rfl,?_⟩;refine m_ ?_;refine⟨_,rfl,a,_,rfl, .inl (.of ha),_,rfl,b,_,rfl, .inl (.of hb),rfl,_,rfl,?_⟩;refine bQ (fun hh=>absurd hh XD) (fun _=>?_);refine⟨_,rfl,b,_,rfl, .inl (.of hb),((is.map V.int).length:Int),rfl,by lia,by lia,?_⟩;refine ir (fun i σ H'=>(∃u,σ=[sR a,sR b,u])∧H'=H) ⟨⟨_,rfl⟩,rfl⟩ ?_ ?_
  ·rintro i σ H' hi ⟨⟨u,rfl⟩,rfl⟩;have hi:i<is.length:=by lia
   have hx:(is.map V.int)[i]?=some (.int is[i]):=by simp[hi]
   generalize is[i]=v at hx;refine⟨_,rfl,_,rfl,a,_,_,_,rfl,rfl, .of ha,PR hx,v,rfl,_,rfl,?_⟩;refine m_ ?_;refine⟨_,rfl,_,rfl,a,_,_,_,rfl,rfl, .of ha,PR hx,_,rfl,_,rfl,b,_,_,_,rfl,rfl, .of hb,PR hx,rfl,_,rfl,?_⟩;refine bQ (fun hh=>absurd hh XD) (fun _=>?_);exact⟨⟨_,rfl⟩,rfl⟩
  ·rintro σ H' ⟨⟨u,rfl⟩,rfl⟩;exact q
theorem oR:aP ["_law_found","_law_due_here","_law_k"] ["_law_found","_law_due_here"] (aw l_):=gL
include T in
theorem yd{f:Addr}{fd:FuncData}(F:lu K "_law_texts" "_law_texts" l_ f fd):bE P w K mg base (de P w) true 1 f fd ["_law_found","_law_due_here"] vT:=by
 refine F.gv oR Ζ gM
 ·obtain⟨a,b,ws,rfl,_⟩:=h;rfl
 ·obtain⟨a,b,ws,rfl,ha,hb,hlen,q⟩:=h;have el:(ws.map V.str).length=ws.length:=List.length_map ..;refine⟨_,(xX (ω (Xm (Γ j1)) ba) (xX (@dU _ _ _ _ _ _ _ _ hX.own Α (@gF _ _ _ _ _ _ (by exact rfl) T.iJ (Ic (γ (aV K) T.dA (Ic (pv 1)))) (OB)) (Μ (2) oR.nd) (Xm (Ι (@PW.pt _ _ _ (@pw_or _ _ _ _ _ _ _ (@eO _ _ _ _ (@cZ _ _ _ (ι (lA K) T.bw (R7 (zU (aH K) (pv 0) (pv 2)) (Ic (@nV _ _ (.ty "str") _ _ (by exact rfl) T.Td PyProof.Rows.Boot.«str» Α (QY) (QY))))) (by intro _;rfl))) (@pw_or1 _ _ _ _ (Ν vD (zU (aH K) (pv 0) (pv 2)) (zU (aH K) (pv 1) (pv 2)) (br _))))) (Xm (Γ j1)) ba)) (by intro _;rfl)) (Xm (Γ j1)))),?_⟩;refine⟨_,rfl,_,_,_,true,_,rfl,rfl, .lst ha,rfl,_,rfl,?_⟩;refine m_ ?_;refine⟨_,rfl,a,_,rfl, .inl (.of ha),_,rfl,b,_,rfl, .inl (.of hb),rfl,_,rfl,?_⟩;refine bQ (fun hh=>absurd hh XD) (fun _=>?_);refine⟨_,rfl,b,_,rfl, .inl (.of hb),((ws.map V.str).length:Int),rfl,by lia,by lia,?_⟩;refine ir (fun i σ H'=>(∃u,σ=[sR a,sR b,u])∧H'=H) ⟨⟨_,rfl⟩,rfl⟩ ?_ ?_
  ·rintro i σ H' hi ⟨⟨u,rfl⟩,rfl⟩;have hi:i<ws.length:=by lia
   have hx:(ws.map V.str)[i]?=some (.str ws[i]):=by simp[hi]
   generalize ws[i]=v at hx;refine⟨_,rfl,_,rfl,a,_,_,_,rfl,rfl, .of ha,PR hx,_,_,_,true,_,rfl,rfl, .str v,rfl,_,rfl,?_⟩;refine m_ ?_;refine⟨_,rfl,_,rfl,a,_,_,_,rfl,rfl, .of ha,PR hx,_,rfl,_,rfl,b,_,_,_,rfl,rfl, .of hb,PR hx,rfl,_,rfl,?_⟩;refine bQ (fun hh=>absurd hh XD) (fun _=>?_);exact⟨⟨_,rfl⟩,rfl⟩
  ·rintro σ H' ⟨⟨u,rfl⟩,rfl⟩;exact q
variable(qR:Er K mg "BadWay" bL)
variable(qS:Er K mg "NoBook" bM)
variable(kc:Er K mg "NoFinding" bb)
variable(ou:Er K mg "HasLeft" bA)
variable(ke:Er K mg "BadSearch" bg)
theorem dS:aP ["_law_e","_law_fits","_law_told","_law_alone"] ["_law_e"] (aw nE):=gL
include T fL cf eF dj eG eI eJ cT jN qR qS kc ou ke in
theorem AE{f:Addr}{fd:FuncData}(F:lu K "_law_kind" "_law_kind" nE f fd):bE P w K mg base (de P w) false 1 f fd ["_law_e"] (zY K [aI,aL,aZ,a_,bL,aM,aN,aD,bx,aJ,bM,bb,bA,bg]):=by
 refine F.gv dS Ζ gM
 ·obtain⟨x,C,j,rfl,_⟩:=h;rfl
 ·obtain⟨x,C,j,rfl,hx,hE,hj,⟨fit,YB⟩,q⟩:=h;refine⟨_,(Zq (Zr (1) dS.nd (@bV _ _ _ _ (R7 (ι (cw K) T.bw (R7 (pv 0) (Ic (@d3 _ _ (.ref _) _ _ (by exact rfl) dj.m Α (QY))))) (R7 (ι (cw K) T.bw (R7 (pv 0) (Ic (@d3 _ _ (.ref _) _ _ (by exact rfl) eJ.m Α (QY))))) (R7 (ι (cw K) T.bw (R7 (pv 0) (Ic (@d3 _ _ (.ref _) _ _ (by exact rfl) fL.m Α (QY))))) (Ic (ι (cw K) T.bw (R7 (pv 0) (Ic (@d3 _ _ (.ref _) _ _ (by exact rfl) cf.m Α (QY))))))))))) (Zq (Zr (1) dS.nd (yt sf (pv 1) (@bV _ _ _ _ (R7 (ι (cw K) T.bw (R7 (pv 0) (Ic (@d3 _ _ (.ref _) _ _ (by exact rfl) qR.m Α (QY))))) (R7 (ι (cw K) T.bw (R7 (pv 0) (Ic (@d3 _ _ (.ref _) _ _ (by exact rfl) eG.m Α (QY))))) (R7 (ι (cw K) T.bw (R7 (pv 0) (Ic (@d3 _ _ (.ref _) _ _ (by exact rfl) eI.m Α (QY))))) (Ic (ι (cw K) T.bw (R7 (pv 0) (Ic (@d3 _ _ (.ref _) _ _ (by exact rfl) cT.m Α (QY)))))))))))) (Zq (Zr (1) dS.nd (yt sf (pv 1) (@bV _ _ _ _ (R7 (ι (cw K) T.bw (R7 (pv 0) (Ic (@d3 _ _ (.ref _) _ _ (by exact rfl) jN.m Α (QY))))) (R7 (ι (cw K) T.bw (R7 (pv 0) (Ic (@d3 _ _ (.ref _) _ _ (by exact rfl) eF.m Α (QY))))) (R7 (ι (cw K) T.bw (R7 (pv 0) (Ic (@d3 _ _ (.ref _) _ _ (by exact rfl) qS.m Α (QY))))) (Ic (ι (cw K) T.bw (R7 (pv 0) (Ic (@d3 _ _ (.ref _) _ _ (by exact rfl) kc.m Α (QY)))))))))))) (Zq (Zr (1) dS.nd (yt sf (pv 1) (@bV _ _ _ _ (R7 (ι (cw K) T.bw (R7 (pv 0) (Ic (@d3 _ _ (.ref _) _ _ (by exact rfl) ou.m Α (QY))))) (Ic (ι (cw K) T.bw (R7 (pv 0) (Ic (@d3 _ _ (.ref _) _ _ (by exact rfl) ke.m Α (QY)))))))))) (Zq (Zr (2) dS.nd (@bV _ _ _ _ (R7 bh (R7 bh (R7 bh (R7 bh (R7 bh (R7 bh (R7 bh (R7 bh (R7 bh (R7 bh (Ic bh))))))))))))) (Zq (Zr (2) dS.nd (yt sf (pv 2) (@bV _ _ _ _ (R7 bh (R7 bh (Ic bh)))))) (Zq (Zr (3) dS.nd (@lN _ _ _ _ _ _ _ (@fm _ _ _ _ _ _ _ _ ij (ν K PySem.F.plainAttrs_list PySem.F.slot_list_count PySem.F.type_list_count J' (pv 1) (Ic j1)) ar (br _)) (@mZ _ _ _ _ _ (ι (cw K) T.bw (R7 (pv 0) (Ic (@nV _ _ (.ty "ValueError") _ _ (by exact rfl) T.aaF PyProof.Rows.Boot.«ValueError» Α (QY) (QY)))))))) (Xm (Γ (zU (aH K) (yt sf (pv 2) (@bV _ _ _ _ (Ic bh))) (@m3 _ _ _ _ _ _ _ _ (@cZ _ _ _ (pv 3) (by intro _;rfl)) (ν K PySem.F.plainAttrs_list PySem.F.slot_list_index PySem.F.type_list_index Ka (pv 1) (Ic j1)) ar))))))))))),?_⟩;refine⟨fun σ H1=>∃pf,σ=[sR x,sR pf,none,none]∧H1 pf=some (.lst [.bl (decide (0=j)), .bl (decide (1=j)), .bl (decide (2=j)), .bl (decide (3=j))])∧av H H1,?_,?_⟩
  ·exact⟨_,rfl,x,C,_,_,_,rfl,hx,hE,rfl,fit 0 _ rfl,_,rfl,x,C,_,_,_,rfl,hx,hE,rfl,fit 1 _ rfl,_,rfl,x,C,_,_,_,rfl,hx,hE,rfl,fit 2 _ rfl,_,rfl,x,C,_,_,_,rfl,hx,hE,rfl,fit 3 _ rfl,ay XD,fun p1 Oc=>⟨p1,rfl,af,av.upd Oc⟩⟩
  rintro σ H1 ⟨p1,rfl,hf1,s1⟩;have mT:=s1 _ _ hx;refine⟨fun σ H2=>∃pf,σ=[sR x,sR pf,none,none]∧H2 pf=some (.lst [.bl (decide (0=j)), .bl (decide (1=j)), .bl (decide (2=j)), .bl (decide (3=j)), .bl (decide (4=j)), .bl (decide (5=j)), .bl (decide (6=j)), .bl (decide (7=j))])∧av H H2,?_,?_⟩
  ·refine⟨_,rfl,_,rfl,x,C,_,_,_,rfl,mT,hE,rfl,fit 4 _ rfl,_,rfl,x,C,_,_,_,rfl,mT,hE,rfl,fit 5 _ rfl,_,rfl,x,C,_,_,_,rfl,mT,hE,rfl,fit 6 _ rfl,_,rfl,x,C,_,_,_,rfl,mT,hE,rfl,fit 7 _ rfl,ay XD,fun pn Jn=>⟨p1,pn,_,_,rfl,rfl,av.upd Jn _ _ hf1,af,ay XD,fun p3 Ot=>⟨p3,rfl,af,?_⟩⟩⟩;exact s1.trans ((av.upd Jn).trans (av.upd Ot))
  rintro σ H2 ⟨p2,rfl,hf2,s2⟩;have Cb:=s2 _ _ hx;refine⟨fun σ H3=>∃pf,σ=[sR x,sR pf,none,none]∧H3 pf=some (.lst [.bl (decide (0=j)), .bl (decide (1=j)), .bl (decide (2=j)), .bl (decide (3=j)), .bl (decide (4=j)), .bl (decide (5=j)), .bl (decide (6=j)), .bl (decide (7=j)), .bl (decide (8=j)), .bl (decide (9=j)), .bl (decide (10=j)), .bl (decide (11=j))])∧av H H3,?_,?_⟩
  ·refine⟨_,rfl,_,rfl,x,C,_,_,_,rfl,Cb,hE,rfl,fit 8 _ rfl,_,rfl,x,C,_,_,_,rfl,Cb,hE,rfl,fit 9 _ rfl,_,rfl,x,C,_,_,_,rfl,Cb,hE,rfl,fit 10 _ rfl,_,rfl,x,C,_,_,_,rfl,Cb,hE,rfl,fit 11 _ rfl,ay XD,fun pn Jn=>⟨p2,pn,_,_,rfl,rfl,av.upd Jn _ _ hf2,af,ay XD,fun p3 Ot=>⟨p3,rfl,af,?_⟩⟩⟩;exact s2.trans ((av.upd Jn).trans (av.upd Ot))
  rintro σ H3 ⟨p3,rfl,hf3,s3⟩;have Nd:=s3 _ _ hx;refine⟨fun σ H4=>∃pf,σ=[sR x,sR pf,none,none]∧H4 pf=some (.lst [.bl (decide (0=j)), .bl (decide (1=j)), .bl (decide (2=j)), .bl (decide (3=j)), .bl (decide (4=j)), .bl (decide (5=j)), .bl (decide (6=j)), .bl (decide (7=j)), .bl (decide (8=j)), .bl (decide (9=j)), .bl (decide (10=j)), .bl (decide (11=j)), .bl (decide (12=j)), .bl (decide (13=j))])∧av H H4,?_,?_⟩
  ·refine⟨_,rfl,_,rfl,x,C,_,_,_,rfl,Nd,hE,rfl,fit 12 _ rfl,_,rfl,x,C,_,_,_,rfl,Nd,hE,rfl,fit 13 _ rfl,ay XD,fun pn Jn=>⟨p3,pn,_,_,rfl,rfl,av.upd Jn _ _ hf3,af,ay XD,fun p3 Ot=>⟨p3,rfl,af,?_⟩⟩⟩;exact s3.trans ((av.upd Jn).trans (av.upd Ot))
  rintro σ H4 ⟨p4,rfl,hf4,s4⟩;have hx4:=s4 _ _ hx;refine⟨fun σ H5=>∃pt,σ=[sR x,sR p4,sR pt,none]∧H5 p4=some (.lst (fl j))∧H5 pt=some (.lst [.str "word", .str "book", .str "terms", .str "near", .str "way", .str "name", .str "year", .str "taken", .str "full", .str "many", .str "no book"])∧av H H5,?_,?_⟩
  ·exact⟨ay XD,fun p hp=>⟨p,rfl,by rw[aj (aG hf4 hp)];exact hf4,af,s4.trans (av.upd hp)⟩⟩
  rintro σ H5 ⟨p5,rfl,hf5,ht5,s5⟩;refine⟨fun σ H6=>∃pt,σ=[sR x,sR p4,sR pt,none]∧H6 p4=some (.lst (fl j))∧H6 pt=some (.lst [.str "word", .str "book", .str "terms", .str "near", .str "way", .str "name", .str "year", .str "taken", .str "full", .str "many", .str "no book", .str "no finding", .str "left", .str "search"])∧av H H6,?_,?_⟩
  ·refine⟨_,rfl,ay XD,fun pn Jn=>⟨p5,pn,_,_,rfl,rfl,av.upd Jn _ _ ht5,af,ay XD,fun p3 Ot=>⟨p3,rfl,?_,af,s5.trans ((av.upd Jn).trans (av.upd Ot))⟩⟩⟩;exact av.upd Ot _ _ (av.upd Jn _ _ hf5)
  rintro σ H6 ⟨p6,rfl,Wq,ht6,s6⟩;have Wm:=s6 _ _ hx;refine⟨fun σ H7=>σ=[sR x,sR p4,sR p6,some (.bl true)]∧H7=H6,?_,?_⟩
  ·refine⟨_,rfl, .inl ⟨rfl,_, .of Wq⟩,p4,fl j,_,rfl,rfl,Wq,rfl,Gv j,rfl,_,rfl,?_⟩;rw[Kh hj];refine jD ?_;exact⟨_,rfl,x,C,_,_,_,rfl,Wm,hE,rfl,YB,rfl,rfl⟩
  rintro σ H7 ⟨rfl,rfl⟩;refine⟨_,rfl,ay XD,fun p hp=>⟨p6,p,_,_,rfl,rfl,av.upd hp _ _ ht6,af,ay XD,fun p7 YC=>⟨_,rfl,_,rfl,?_⟩⟩⟩;refine jD ?_;refine⟨_,rfl, .inl ⟨rfl,_, .of (av.upd YC _ _ (av.upd hp _ _ Wq))⟩,p4,fl j,_,j,rfl,rfl,av.upd YC _ _ (av.upd hp _ _ Wq),rfl,Gv j,Tj hj,Tn hj,?_⟩;exact⟨p7,_,_,_,rfl,rfl, .of af,Mp hj,q _ (s6.trans ((av.upd hp).trans (av.upd YC)))⟩
theorem cj:aP ["_law_cell","_law_many","_law_letters","_law_stem","_law_rest","_law_k","_law_found","_law_sign"] ["_law_cell","_law_many"] (aw k_):=gL
include T in
theorem w6{f:Addr}{fd:FuncData}(F:lu K "_law_titles" "_law_titles" k_ f fd):bE P w K mg base (de P w) true 1 f fd ["_law_cell","_law_many"] sV:=by
 refine F.gv cj Ζ gM
 ·obtain⟨cell,many,rfl,_⟩:=h;rfl
 ·obtain⟨cell,many,rfl,U7,hm,q⟩:=h;have l26:=Gy;have U8:(0:Int)<26:=QY;have z0:0≤cell%10∧cell%10<10:=⟨Int.emod_nonneg _ (QY),Int.emod_lt_of_pos _ (QY)⟩
  refine⟨_,(xX (Zr (2) cj.nd bh) (xX (Zr (3) cj.nd bh) (xX (Zr (4) cj.nd (yt iI (pv 0) ar)) (xX (@dU _ _ _ _ _ _ _ _ hX.own Α (@gF _ _ _ _ _ _ (by exact rfl) T.iJ (Ic (yt cI (pv 0) ar)) (OB)) (Μ (5) cj.nd) (xX (Zr (3) cj.nd (yt gq (pv 3) (zU zG (pv 2) (yt cI (pv 4) ar)))) (Xm (Zr (4) cj.nd (yt iI (pv 4) ar)))) (by intro _;rfl)) (xX (Zr (6) cj.nd (@bV _ _ _ _ ai)) (xX (@dU _ _ _ _ _ _ _ _ hX.own Α (@gF _ _ _ _ _ _ (by exact rfl) T.iJ (Ic (pv 1)) (OB)) (Μ (5) cj.nd) (xX (Zr (7) cj.nd (zU zG (pv 2) (yt cI (yt dW (pv 4) (yt vC ar (pv 5))) ar))) (Xm (Χ (ν K PySem.F.plainAttrs_list PySem.F.slot_list_append PySem.F.type_list_append dF (pv 6) (Ic (yt gq (pv 3) (yt um (pv 7) (yt dW ar (yt cI (yt dW (pv 4) (yt vC (pv 5) (pv 5))) ar))))))))) (by intro _;rfl)) (Xm (Γ (pv 6))))))))),?_⟩;refine⟨_,rfl,_,_,rfl,rfl,⟨QY,QY⟩,?_⟩;refine⟨_,rfl,_,_,rfl,rfl,(show(0:Int)<10 by decide),cell%10,rfl,by lia,by lia,?_⟩;refine ir (fun i σ H'=>H'=H∧∃(bI:Str)(rest:Int)(kv:Option V),bI.length=i∧lows bI∧σ=[sI cell,sI many,sS Lr,sS bI,sI rest,kv,none,none]) ⟨rfl,_,_,_,(by decide+kernel),(show(Str.ofString "").cps.toList.all low=true by decide+kernel),rfl⟩ ?_ ?_
  ·rintro i σ H' hi ⟨rfl,bI,rest,kv,hl,uM,rfl⟩;have hi:i<(cell%10).toNat:=hi;refine⟨_,rfl,_,rfl,_,rfl,_,_,rfl,rfl,U8,_,_,_,rfl,rfl,ay Nz,z_,_,_,rfl,rfl,ay (show bI.length+1≤100000 by lia),?_⟩;refine⟨_,rfl,_,_,rfl,rfl,⟨QY,QY⟩,rfl,_,_,_,?_,?_,rfl⟩
   ·rw[len_app,hl];rfl
   ·have h1:bI.cps.toList.all low=true:=uM;have h2:=vk rest;unfold lows;rw[j7,List.all_append,h1];simp[h2]
  ·rintro σ H' ⟨rfl,bI,rest,kv,hl,uM,rfl⟩;have hl:bI.length=(cell%10).toNat:=hl;refine⟨ay XD,fun D hD=>?_⟩;refine⟨_,rfl,many,rfl,by lia,by lia,?_⟩;refine ir (fun i σ H2=>(∃u v,σ=[sI cell,sI many,sS Lr,sS bI,sI rest,u,sR D,v])∧H2 D=some (.lst (((List.range i).map (wM bI rest)).map V.str))∧av H' H2) ⟨⟨_,_,rfl⟩,af,av.upd hD⟩ ?_ ?_
   ·rintro i σ H2 hi ⟨⟨u,v,rfl⟩,mP,s2⟩;have hi:i<26:=by lia
    have jv:(((List.range i).map (wM bI rest)).map V.str).length<sizeLine:=bR (by simp;lia);have z3:0≤(rest+(0+(i:Int))*(0+(i:Int)))%3∧(rest+(0+(i:Int))*(0+(i:Int)))%3<3:=⟨Int.emod_nonneg _ (QY),Int.emod_lt_of_pos _ (QY)⟩
    refine⟨_,rfl,_,rfl,_,rfl,_,_,rfl,rfl, .inl ⟨QY,QY⟩,_,_,rfl,rfl,_,_,rfl,rfl,U8,_,_,_,rfl,rfl,ay Nz,z_,?_⟩;refine⟨_,rfl, .inl ⟨rfl,_, .of mP⟩,_,rfl,_,rfl,_,rfl,_,rfl,_,rfl,_,_,rfl,rfl, .inl ⟨by lia,by lia⟩,_,_,rfl,rfl,_,_,rfl,rfl,(show(0:Int)<3 by decide),_,_,rfl,rfl,_,_,rfl,rfl,by lia,by lia,_,_,rfl,rfl,ay ?_,D,_,_,rfl,rfl,mP,jv,⟨_,_,rfl⟩,?_,s2.eP hD⟩
    ·have:(o_ (97+((rest+7*(0+(i:Int)))%26).toNat) (1+(rest+(0+(i:Int))*(0+(i:Int)))%3).toNat).length=(1+(rest+(0+(i:Int))*(0+(i:Int)))%3).toNat:=by simp[o_,Str.length]
     lia
    ·rw[af,List.range_succ,List.map_append,List.map_append];simp[wM]
   ·rintro σ H2 ⟨⟨u,v,rfl⟩,mP,s2⟩;refine⟨_,rfl,q H2 D _ s2 hD mP XD ?_ (Ig bI rest (by lia))⟩;intro z hz;obtain⟨k,_,rfl⟩:=List.mem_map.mp hz;exact M7 Nz uM rest k
theorem jO:aP ["_law_text","_law_letters","_law_sign"] ["_law_text"] (aw la):=gL
include T in
theorem w8{f:Addr}{fd:FuncData}(F:lu K "_law_wordly" "_law_wordly" la f fd):bE P w K mg base (de P w) true 1 f fd ["_law_text"] sW:=by
 refine F.gv jO Ζ gM
 ·obtain⟨z,rfl,_⟩:=h;rfl
 ·obtain⟨z,rfl,hz,q⟩:=h;refine⟨_,(xX (Zr (1) jO.nd bh) (xX (@dU _ _ _ _ _ _ _ _ hX.own Α (@J3 _ _ _ _ (pv 0)) (Μ (2) jO.nd) (Xm (Ι (Ν zK (pv 2) (pv 1) (by with_unfolding_all rfl)) (Xm (Γ j1)) ba)) (by intro _;rfl)) (Xm (Γ (@lN _ _ _ _ _ _ _ (@fm _ _ _ _ _ _ _ _ Gd (γ jk T.dA (Ic (pv 0))) ar (br _)) (@mZ _ _ _ _ _ (@fm _ _ _ _ _ _ _ _ JA (γ jk T.dA (Ic (pv 0))) ar (br _)))))))),?_⟩;have Uw:z.length≤sizeLine:=Nat.le_trans hz Ε;refine⟨_,rfl,z,rfl,?_⟩;refine Mj (fun j σ H2=>(∃u,σ=[sS z,sS Lr,u])∧H2=H∧(z.cps.toList.take j).all low=true) ⟨⟨_,rfl⟩,rfl,rfl⟩ ?_ ?_
  ·rintro j c σ H2 hc ⟨⟨u,rfl⟩,rfl,uM⟩;have ec:(!(!(Builtin.Str.occurrences Lr ⟨#[c]⟩ 0 Lr.length 1).isEmpty))=!low c:=by
    rw[PySem.StrLaws.found_one,Mo]
   refine⟨_,rfl,_,rfl,_,_,rfl,rfl,_,rfl,?_⟩;rw[ec];refine bQ (fun h=>?_) (fun hh=>?_)
   ·have h:low c=false:=by simpa using h
    rw[Km (Ψ hc) h]at q;exact q
   ·have hh:low c=true:=by simpa using hh
    refine⟨⟨_,rfl⟩,rfl,?_⟩;rw[List.take_succ,hc,List.all_append,uM];simp[hh]
  ·rintro σ H2 ⟨⟨u,rfl⟩,rfl,uM⟩;rw[List.take_of_length_le (by simp[Str.length])]at uM;unfold gP at q;rw[uM,Bool.and_true]at q;refine⟨_,rfl,z,rfl,Uw,_,_,rfl,rfl,_,rfl,?_⟩;have e1:decide ((1:Int)≤((z.length:Nat):Int))=decide (1≤z.length):=decide_eq_decide.mpr Nz;have e2:decide (((z.length:Nat):Int)≤12)=decide (z.length≤12):=decide_eq_decide.mpr Nz;rw[e1];refine bQ (fun h=>?_) (fun h=>?_)
   ·rw[h,Bool.true_and]at q;refine⟨_,rfl,z,rfl,Uw,_,_,rfl,rfl,?_⟩;rw[e2];exact q
   ·have h:decide (1≤z.length)=false:=by simpa using h
    rw[h,Bool.false_and]at q;exact q
variable(gg:cG P w K mg base true 1 "_law_wordly" ["_law_text"] sW)
theorem Dx:aP ["_law_name","_law_year","_law_row_here","_law_titles_here","_law_many","_law_alike"] ["_law_name","_law_year","_law_row_here","_law_titles_here","_law_many","_law_alike"] (aw l'):=gL
include T gg in
theorem Dy{f:Addr}{fd:FuncData}(F:lu K "_law_due" "_law_due" l' f fd):bE P w K mg base (de P w) true 3 f fd ["_law_name","_law_year","_law_row_here","_law_titles_here","_law_many","_law_alike"] Fn:=by
 refine F.gv Dx Ζ gM
 ·obtain⟨n,y,w,t,ws,ts,m,al,rfl,_⟩:=h;rfl
 ·obtain⟨n,y,w,t,ws,ts,m,al,rfl,hn,hw,ht,Gj,zi,hz,hm,q⟩:=h;refine⟨_,(xX (Ι (@eO _ _ _ _ (@cZ _ _ _ (Κ gg a9 (Ic (pv 0))) (by intro _;rfl))) (Xm (Γ bh)) ba) (xX (Ι (@PW.pt _ _ _ (@pw_or _ _ _ _ _ _ _ (Ν vE (pv 1) ar (br _)) (@pw_or1 _ _ _ _ (Ν m6 (pv 1) ar (br _))))) (Xm (Γ bh)) ba) (xX (Ι (Ν m6 (γ (aV K) T.dA (Ic (pv 2))) ar (br _)) (Xm (Γ bh)) ba) (xX (Ι (@eO _ _ _ _ (@cZ _ _ _ (@aR _ _ _ _ _ _ _ _ _ (sj K rfl) (by exact rfl) T.Kc PyProof.Rows.Boot.«all» (Ic (@gi _ _ _ _ _ _ _ _ _ _ _ _ _ _ (by exact rfl) (show bK ["_law_name","_law_year","_law_row_here","_law_titles_here","_law_many","_law_alike"] (aw l') _ ["_law_word"] [] []from DY) (@cx _ K _ _ _ (pv 2) (OB)) (fun _ _ _ _ _=>(Μ (0) (show(["_law_word"]:List Str).Nodup by decide+kernel))) (fun _ _ _ _ _=>fS) (fun _ _ _ _ _=>(Κ gg a9 (Ic (pv 0)))) (by intro _;rfl))) (QY) (QY) (OB) (OB)) (by intro _;rfl))) (Xm (Γ bh)) ba) (xX (Ι (Ν (vQ K) (pv 0) (@lr _ _ _ _ _ _ _ _ _ _ (J_ K) (pv 3) p8 (@lP _ _ _ (pv 4))) (by with_unfolding_all rfl)) (Xm (Γ bh)) ba) (xX (Ι (Ν Gd (pv 4) ar (br _)) (Xm (Γ bh)) ba) (Xm (Γ (zU (aH K) (@bV _ _ _ _ (R7 bh (Ic bh))) (@gG _ _ _ _ _ _ _ _ _ yR Α T.Kb PyProof.Rows.Boot.«int» (Ic (@lN _ _ _ _ _ _ _ (@fm _ _ _ _ _ _ _ _ m6 (γ (aV K) T.dA (Ic (pv 2))) ar (br _)) (@mZ _ _ _ _ _ (@fm _ _ _ _ _ _ _ _ m6 (pv 5) ar (br _))))) (QY) (QY) (OB) (OB))))))))))),?_⟩;refine⟨_,rfl,n,rfl,hn,_,rfl,?_⟩;refine bQ (fun h=>?_) (fun h=>?_)
  ·have h:gP n=false:=by simpa using h
   have e:gN n y ws ts m al=kindOf 5:=by simp[gN,dX,h]
   rw[e]at q;exact q H (.refl H)
  have h0:¬gP n=false:=by simpa using h
  refine⟨_,rfl,_,_,rfl,rfl,_,rfl,?_⟩;have U9:(y<0∨9999<y)→Q (.str (kindOf 6)) H:=fun h=>by
   have e:gN n y ws ts m al=kindOf 6:=by unfold gN dX;rw[M9 h0,VH h];rfl
   rw[e]at q;exact q H (.refl H)
  refine bQ (fun h=>?_) (fun h=>?_)
  ·exact jD (U9 (.inl (by simpa using h)))
  have h1:¬y<0:=by simpa using h
  refine⟨_,rfl,_,_,rfl,rfl,_,rfl,?_⟩;refine bQ (fun h=>U9 (.inr (by simpa using h))) (fun h=>?_);have h2:¬(y<0∨9999<y):=by
   have:¬9999<y:=by simpa using h
   lia
  refine⟨_,rfl,w,_,rfl, .inl (.of hw),_,_,rfl,rfl,_,rfl,?_⟩;have el:(ws.map V.str).length=ws.length:=List.length_map ..;refine bQ (fun h=>?_) (fun h=>?_)
  ·have h:40<ws.length:=by
    have:(40:Int)<((ws.map V.str).length:Int):=by simpa using h
    lia
   have e:gN n y ws ts m al=kindOf 1:=by unfold gN dX;rw[M9 h0,M9 h2,VH h];rfl
   rw[e]at q;exact q H (.refl H)
  have h3:¬40<ws.length:=by
   have:¬(40:Int)<((ws.map V.str).length:Int):=by simpa using h
   lia
  refine⟨_,rfl,w,rfl,⟨_, .of hw⟩,fun D hD=>?_⟩;refine d8 (xs:=ws.map V.str) (fun i ys bG H'=>(∃u,bG=[u])∧H' D=some (.lst ys)∧av H H'∧ys=((ws.take i).map gP).map V.bl) ⟨⟨_,rfl⟩,af,av.upd hD,rfl⟩ ?_ ?_ ?_
  ·rintro i ys bG H' _ ⟨_,_,s1,_⟩;exact .of (s1 _ _ hw)
  ·rintro i v ys bG H' hv ⟨⟨u,rfl⟩,qM,s1,rfl⟩;have hi:i<ws.length:=by rw[←el];exact(Η hv).1
   have ei:ws[i]?=some ws[i]:=by simp[hi]
   have hzm:=hz _ (List.getElem_mem hi);generalize ws[i]=b at ei hzm;rw[List.getElem?_map,ei]at hv;cases hv;have et:ws.take (i+1)=ws.take i++[b]:=by rw[List.take_succ,ei];rfl
   refine kR ?_;refine⟨_,rfl,b,rfl,hzm,qM,bR (by rw[List.length_map,List.length_map,List.length_take];lia),⟨_,rfl⟩,af,s1.eP hD,?_⟩;rw[et,List.map_append,List.map_append];rfl
  rintro ys bG H' ⟨_,qM,s1,rfl⟩;rw[el,List.take_length]at qM;refine⟨D,ws.map gP,rfl, .of qM,_,rfl,?_⟩;have ea:(ws.map gP).all id=ws.all gP:=by rw[List.all_map];rfl
  refine bQ (fun h=>?_) (fun h=>?_)
  ·have h:ws.all gP=false:=by rw[←ea];exact(Bool.not_eq_true' _).mp h
   have e:gN n y ws ts m al=kindOf 0:=by unfold gN dX;rw[M9 h0,M9 h2,M9 h3,VH h];rfl
   rw[e]at q;exact q H' s1
  have h4:dX n y ws=4:=by
   have h:¬ws.all gP=false:=fun z=>h (by rw[←ea]at z;exact(Bool.not_eq_true' _).mpr z)
   unfold dX;rw[M9 h0,M9 h2,M9 h3,M9 h]
  have cm:Ep (ts.map V.str) none (some ((m:Nat):Int))=(ts.take m).map V.str:=by
   have:=Kl (xs:=ts.map V.str) (i:=m) (by simpa using hm);rw[Int.zero_add]at this;rw[this,List.map_take]
  refine⟨_,rfl,_,rfl,_,rfl,_,rfl,t,_,rfl, .of (s1 _ _ ht),fun p hp=>?_⟩;rw[cm];refine⟨p,_,rfl, .inl (.of af),rfl,List.all_eq_true.mpr (fun v hv=>by obtain⟨z,_,rfl⟩:=List.mem_map.mp hv;rfl),_,rfl,?_⟩;have s2:=s1.trans (av.upd (o:= .lst ((ts.take m).map V.str)) hp);generalize upd H' p (.lst ((ts.take m).map V.str))=H2 at s2⊢;refine bQ (fun hh=>?_) (fun hh=>?_)
  ·have hh:n∈ts.take m:=by
    rw[if_neg XD,vm]at hh;exact of_decide_eq_true hh
   have e:gN n y ws ts m al=kindOf 7:=by unfold gN;rw[h4,if_neg Ε,if_neg Ε,if_neg Ε,if_neg Ε,VH hh]
   rw[e]at q;exact q H2 s2
  have h5:n∉ts.take m:=by
   rw[if_neg XD,vm]at hh;exact fun z=>hh (decide_eq_true z)
  have dk:gN n y ws ts m al=if 12≤m then kindOf 8 else if 20<ws.length∧0<al then kindOf 9 else "":=by unfold gN;rw[h4,if_neg Ε,if_neg Ε,if_neg Ε,if_neg Ε,M9 h5]
  rw[dk]at q;refine⟨_,rfl,_,_,rfl,rfl,_,rfl,?_⟩;refine bQ (fun h=>?_) (fun h=>?_)
  ·have h:12≤m:=by
    have:(12:Int)≤((m:Nat):Int):=by simpa using h
    lia
   rw[VH h]at q;exact q H2 s2
  have h6:¬12≤m:=by
   have:¬(12:Int)≤((m:Nat):Int):=by simpa using h
   lia
  rw[M9 h6]at q;refine⟨ay XD,fun p2 JH=>?_⟩;have s3:=s2.trans (av.upd (o:= .lst [.str "", .str "many"]) JH);have Nq:upd H2 p2 (.lst [.str "", .str "many"]) p2=some (.lst [.str "", .str "many"]):=af;generalize upd H2 p2 (.lst [.str "", .str "many"])=H3 at s3 Nq⊢;refine⟨_,rfl,w,_,rfl, .inl (.of (s3 _ _ hw)),_,_,rfl,rfl,_,rfl,?_⟩;refine bQ (fun h=>?_) (fun h=>?_)
  ·have h:20<ws.length:=by
    have:(20:Int)<((ws.map V.str).length:Int):=by simpa using h
    lia
   refine⟨_,rfl,_,_,rfl,rfl, .inr ⟨_,rfl,?_⟩⟩;by_cases uE:0<al
   ·rw[VH ⟨h,uE⟩]at q;rw[decide_eq_true uE];exact⟨p2,_,_,_,rfl,rfl, .of Nq,aS (j:=1) rfl,q H3 s3⟩
   ·rw[M9 (fun z=>uE z.2)]at q;rw[decide_eq_false uE];exact⟨p2,_,_,_,rfl,rfl, .of Nq,aS (j:=0) rfl,q H3 s3⟩
  ·have h:¬20<ws.length:=by
    have:¬(20:Int)<((ws.map V.str).length:Int):=by simpa using h
    lia
   rw[M9 (fun z=>h z.1)]at q;exact .inr ⟨_,rfl,p2,_,_,_,rfl,rfl, .of Nq,aS (j:=0) rfl,q H3 s3⟩
variable(bN:cG P w K mg base true 1 "_law_at" ["_law_script","_law_k"] (Kd K))
theorem cn:aP ["_law_script","_law_name","_law_word","_law_bad","_law_year","_law_size","_law_row_here"] ["_law_script","_law_name","_law_word"] (aw g6):=gL
include T bN in
theorem uN{f:Addr}{fd:FuncData}(F:lu K "_law_book_of" "_law_book_of" g6 f fd):bE P w K mg base (de P w) true 2 f fd ["_law_script","_law_name","_law_word"] (sX K):=by
 refine F.gv cn Ζ gM
 ·obtain⟨a,ns,n,W,rfl,_⟩:=h;rfl
 ·obtain⟨a,ns,n,W,rfl,hS,hn,hW,q⟩:=h;have hu:=hr.units;have hu:(A.deeper (PyProof.Rows.envOfC "_law_book_of" (aw g6) s.heap.objs.size f iy)).units+1<cLine:=by lia
  have X5:=Nat.lt_of_succ_lt hu;have md:∀(i j:Int),0<j→0≤i%j∧i%j<j:=fun i j h=>⟨Int.emod_nonneg _ (by lia),Int.emod_lt_of_pos _ h⟩
  refine⟨_,(Zq (Zr (3) cn.nd (υ (aH K) (@bV _ _ _ _ (R7 bh (R7 (yt um bh ar) (R7 (yt gq (@lr _ _ _ _ _ _ _ _ _ _ vN (pv 1) p8 (@lP _ _ _ ar)) bh) (Ic (yt gq bh (@lr _ _ _ _ _ _ _ _ _ _ vN (pv 1) p8 (@lP _ _ _ ar)))))))))) (Zq (Ι (Ν ij (yt cI (ς iI ar) ar) ar (br _)) (Xm (Zr (1) cn.nd (pv 3))) ba) (Zq (Zr (4) cn.nd (ς cI ar)) (Zq (Ι (Ν ij (ς cI ar) ar (br _)) (Xm (Zr (4) cn.nd (υ (aH K) (@bV _ _ _ _ (R7 (@oN _ _ _ _ _ _ kN ar) (R7 ar (τ ar))))))) ba) (Zq (Ι (Ν ij (ς cI ar) ar (br _)) (Xm (Zr (4) cn.nd (yt iu (ς cI (yt dW (yt vC ar (yt Jy ar ar)) ar)) (yt Jy ar ar)))) ba) (Zq (Zr (5) cn.nd (ς cI ar)) (Zq (Ι (Ν ij (ς cI ar) ar (br _)) (Xm (Zr (5) cn.nd (υ (aH K) (@bV _ _ _ _ (R7 ar (R7 ar (R7 ar (R7 ar (R7 ar (R7 ar (τ ar))))))))))) ba) (Zq (Zr (6) cn.nd (yt JR (@bV _ _ _ _ (Ic (pv 2))) (pv 5))) (Zq (Ι (@PW.pt _ _ _ (@pw_and _ _ _ _ _ _ _ (Ν ij (yt cI (ς iI ar) ar) ar (br _)) (@pw_and1 _ _ _ _ (Ν (EC K X5) (pv 6) (@bV _ _ _ _ ai) (br _))))) (Xm (@Eb _ _ _ _ _ _ (pv 3) (@Ju _ _ _ _ _ _ _ (pv 6) (ς cI (γ (aV K) T.dA (Ic (pv 6)))) set_list (by intro _;rfl)) (OB) (OB) (OB))) ba) (Xm (Γ (@bV _ _ _ _ (R7 (pv 1) (R7 (pv 4) (Ic (pv 6)))))))))))))))),?_⟩;have b1:=si n none (some 11);have nb:∀(x y:Str)(c:Nat),low c=false→c∈x.cps.toList++y.cps.toList→gP (x++y)=false:=fun x y c h1 h2=>Km (by rw[j7];exact h2) h1
  refine⟨fun σ H1=>∃bad:Str,σ=[sR a,sS n,sS W,sS bad,none,none,none]∧av H H1∧gP bad=false∧bad.length≤200,?_,?_⟩
  ·obtain⟨bad,hb,E8⟩:=Kk ["",o_ 97 13,Txt.slice n none (some 11)++"B"," "++Txt.slice n none (some 11)] (i:=cell ns 5%4) (md _ 4 Ε).1 (md _ 4 Ε).2;have YD:gP bad=false∧bad.length≤200:=by
    have l1:(Str.ofString "B").length=1:=by decide+kernel
    have l2:(Str.ofString " ").length=1:=by decide+kernel
    simp only[List.mem_cons,List.not_mem_nil,or_false]at hb;rcases hb with rfl|rfl|rfl|rfl
    ·exact⟨by decide+kernel,by decide+kernel⟩
    ·exact⟨by decide+kernel,by decide+kernel⟩
    ·exact⟨nb _ _ 66 (by decide+kernel) (δ (by decide+kernel)),by rw[len_app,l1];lia⟩
    ·exact⟨nb _ _ 32 (by decide+kernel) (List.mem_append_left _ (by decide+kernel)),by rw[len_app,l2];lia⟩
   have l1:(Str.ofString "B").length=1:=by decide+kernel
   have l2:(Str.ofString " ").length=1:=by decide+kernel
   refine⟨97,13,rfl,rfl,QY,QY,_,rfl,_,rfl,n,rfl,ay Nz,_,_,rfl,rfl,ay (by rw[l1];lia),_,rfl,_,rfl,n,rfl,ay Nz,_,_,rfl,rfl,ay (by rw[l2];lia),ay XD,fun p hp=>?_⟩;exact⟨_,rfl,a,ns,5,rfl,(av.upd hp).seq hS,QY,_,_,rfl,rfl,(show(0:Int)<4 by decide),p,_,_,_,rfl,rfl, .of af,E8,bad,rfl,av.upd hp,YD⟩
  rintro σ H1 ⟨bad,rfl,s1,rZ,E4⟩;have Ou:=s1.seq hS;refine⟨fun σ H2=>∃n':Str,σ=[sR a,sS n',sS W,sS bad,none,none,none]∧H2=H1∧n'.length≤200,?_,?_⟩
  ·refine⟨_,rfl,a,ns,4,rfl,Ou,QY,_,_,rfl,rfl,⟨QY,QY⟩,_,_,rfl,rfl,(show(0:Int)<5 by decide),rfl,_,rfl,?_⟩;exact bQ (fun _=>⟨_,rfl,bad,rfl,rfl,E4⟩) (fun _=>⟨n,rfl,rfl,by lia⟩)
  rintro σ H1 ⟨n',rfl,rfl,D_⟩;refine⟨fun σ H2=>∃y:Int,σ=[sR a,sS n',sS W,sS bad,sI y,none,none]∧H2=H1,?_,?_⟩
  ·exact⟨_,rfl,a,ns,6,rfl,Ou,QY,_,_,rfl,rfl,(show(0:Int)<10000 by decide),_,rfl,rfl⟩
  rintro σ H1 ⟨y,rfl,rfl⟩;refine⟨fun σ H2=>∃y:Int,σ=[sR a,sS n',sS W,sS bad,sI y,none,none]∧av H1 H2,?_,?_⟩
  ·refine⟨_,rfl,a,ns,7,rfl,Ou,QY,_,_,rfl,rfl,(show(0:Int)<6 by decide),rfl,_,rfl,?_⟩;refine bQ (fun _=>?_) (fun _=>⟨y,rfl, .refl _⟩);obtain⟨m,_,hm⟩:=int_at [-1,0,9999,10000] (i:=cell ns 6%4) (md _ 4 Ε).1 (md _ 4 Ε).2;refine⟨_,rfl,ay XD,fun p hp=>?_⟩;exact⟨_,rfl,a,ns,6,rfl,(av.upd hp).seq Ou,QY,_,_,rfl,rfl,(show(0:Int)<4 by decide),p,_,_,_,rfl,rfl, .of af,hm,m,rfl,av.upd hp⟩
  clear y;rintro σ H2 ⟨y,rfl,s2⟩;have Nr:=s2.seq Ou;refine⟨fun σ H3=>∃y:Int,σ=[sR a,sS n',sS W,sS bad,sI y,none,none]∧H3=H2,?_,?_⟩
  ·have cp:Sg 10 40:=⟨QY,QY,QY⟩
   refine⟨_,rfl,a,ns,7,rfl,Nr,QY,_,_,rfl,rfl,(show(0:Int)<6 by decide),rfl,_,rfl,?_⟩;refine bQ (fun _=>?_) (fun _=>⟨y,rfl,rfl⟩);exact⟨_,rfl,a,ns,6,rfl,Nr,QY,_,_,rfl,rfl,cp,_,_,rfl,rfl, .inl Ε,_,_,rfl,rfl,_,_,rfl,rfl,(show(0:Int)<2*10^Int.toNat 40+1 by decide),_,_,rfl,rfl,cp,_,_,rfl,rfl,_,rfl,rfl⟩
  clear y;rintro σ H2 ⟨y,rfl,rfl⟩;refine⟨fun σ H3=>∃m:Int,σ=[sR a,sS n',sS W,sS bad,sI y,sI m,none]∧H3=H2∧0≤m∧m≤45,?_,?_⟩
  ·have:=md (cell ns 8) 46 Ε;exact⟨_,rfl,a,ns,8,rfl,Nr,QY,_,_,rfl,rfl,(show(0:Int)<46 by decide),_,rfl,rfl,by lia,by lia⟩
  rintro σ H2 ⟨m,rfl,rfl,U7,Jk⟩;refine⟨fun σ H3=>∃m:Int,σ=[sR a,sS n',sS W,sS bad,sI y,sI m,none]∧av H2 H3∧0≤m∧m≤45,?_,?_⟩
  ·refine⟨_,rfl,a,ns,9,rfl,Nr,QY,_,_,rfl,rfl,(show(0:Int)<2 by decide),rfl,_,rfl,?_⟩;refine bQ (fun _=>?_) (fun _=>⟨m,rfl, .refl _,U7,Jk⟩);obtain⟨k,hk1,hk⟩:=int_at [0,1,19,20,21,22,40,41] (i:=cell ns 8%8) (md _ 8 Ε).1 (md _ 8 Ε).2;have hk2:0≤k∧k≤45:=by
    simp only[List.mem_cons,List.not_mem_nil,or_false]at hk1
    lia
   refine⟨ay XD,fun p hp=>?_⟩;exact⟨_,rfl,a,ns,8,rfl,(av.upd hp).seq Nr,QY,_,_,rfl,rfl,(show(0:Int)<8 by decide),p,_,_,_,rfl,rfl, .of af,hk,k,rfl,av.upd hp,hk2.1,hk2.2⟩
  clear U7 Jk m;rintro σ H3 ⟨m,rfl,s3,U7,Jk⟩;have YE:=s3.seq Nr;refine⟨fun σ H4=>∃w,σ=[sR a,sS n',sS W,sS bad,sI y,sI m,sR w]∧av H3 H4∧H3 w=none∧H4 w=some (.lst ((List.replicate m.toNat W).map V.str)),?_,?_⟩
  ·refine⟨_,rfl,ay XD,fun p1 Oc=>⟨_,rfl,p1,_,_,rfl,rfl,af,by lia,by lia,ay (by show 1*_≤_;lia),fun y1 VY=>?_⟩⟩;rw[MT];exact⟨y1,rfl,(av.upd Oc).trans (av.upd VY),(av.upd Oc).free VY,af⟩
  rintro σ H4 ⟨w,rfl,s4,Ci,RK⟩;have hS4:=s4.seq YE;have el:((List.replicate m.toNat W).map V.str).length=m.toNat:=Xx;refine⟨fun σ H5=>∃ws:List Str,σ=[sR a,sS n',sS W,sS bad,sI y,sI m,sR w]∧av H3 H5∧H5 w=some (.lst (ws.map V.str))∧ws.length≤45∧(∀z∈ws,z.length≤200)∧((∀z∈ws,z=W)∨∃z∈ws,gP z=false),?_,?_⟩
  ·have rW:∀z∈List.replicate m.toNat W,z=W:=fun z hz=>(List.mem_replicate.mp hz).2
   have pY:∀H5,av H4 H5→∃ws:List Str,av H3 H5∧H5 w=some (.lst (ws.map V.str))∧ws.length≤45∧(∀z∈ws,z.length≤200)∧((∀z∈ws,z=W)∨∃z∈ws,gP z=false):=fun H5 s5=>⟨_,s4.trans s5,s5 _ _ RK,by simp;lia,fun z hz=>by rw[rW z hz];lia, .inl rW⟩
   refine⟨_,rfl,a,ns,9,rfl,hS4,QY,_,_,rfl,rfl,⟨QY,QY⟩,_,_,rfl,rfl,(show(0:Int)<3 by decide),rfl,_,rfl,?_⟩;refine bQ (fun _=>?_) (fun _=>?_)
   ·refine⟨_,rfl,ay XD,fun p hp=>?_⟩;have sp:av H4 (upd H4 p (.lst [])):=av.upd hp;refine⟨w,p,_,rfl,rfl, .of (sp _ _ RK), .of af,_,rfl,?_⟩;refine bQ (fun hh=>?_) (fun _=>?_)
    ·have aaO:0<m.toNat:=by
      rcases Nat.eq_zero_or_pos m.toNat with z|z
      ·rw[z]at hh;simp at hh
      ·exact z
     have mi:=md (cell ns 10) (m.toNat:Int) (by lia);obtain⟨j,hj⟩:=Int.eq_ofNat_of_zero_le mi.1;have hjl:j<m.toNat:=by lia
     refine⟨_,rfl,_,rfl,_,rfl,a,ns,10,rfl,sp.seq hS4,QY,_,rfl,w,_,rfl, .inl (.of (sp _ _ RK)),_,_,rfl,rfl,(by rw[el];lia),?_⟩;refine⟨w,_,_,j,rfl,rfl,sp _ _ RK,?_,(List.replicate m.toNat W).set j bad,rfl,?_,?_,?_,?_,?_⟩
     ·rw[el,hj];exact Gz hjl
     ·have nw:w≠p:=fun z=>by rw[z,hp]at RK;cases RK
      exact(s4.trans sp).eP Ci
     ·rw[af,List.map_set]
     ·simp;lia
     ·intro z hz;rcases List.mem_or_eq_of_mem_set hz with hz|rfl
      ·rw[rW z hz];lia
      ·exact E4
     ·exact .inr ⟨bad,List.mem_of_getElem? (i:=j) (List.getElem?_set_self (by rw[List.length_replicate];exact hjl)),rZ⟩
    ·obtain⟨ws,h⟩:=pY _ sp;exact⟨ws,rfl,h⟩
   ·obtain⟨ws,h⟩:=pY _ (.refl _);exact⟨ws,rfl,h⟩
  rintro σ H5 ⟨ws,rfl,s5,hw5,Gj,hwz,YF⟩;exact⟨_,rfl,_,rfl,_,rfl,ay XD,fun p hp=>q _ p w n' y ws (s1.trans (s2.trans (s3.trans (s5.trans (av.upd hp))))) (s1.free (s2.free (s3.free (s5.free hp)))) (s1.free (s2.free (s3.free Ci))) af (av.upd hp _ _ hw5) D_ Gj hwz YF⟩
variable(dz:c6 P w K mg base true 10 aE "come" ["self","name","year","words"] (Ax aE bH aQ aW aM aN aL aI aD bx aJ))
variable(kg:cG P w K mg base false 1 "_law_kind" ["_law_e"] (zY K [aI,aL,aZ,a_,bL,aM,aN,aD,bx,aJ,bM,bb,bA,bg]))
variable(g_:Er K mg "QuoteError" bB)
variable(mj:W.mroIn K aI (.ref bB)=some true)
variable(kh:Fits K aI [aI,aL,aZ,a_,bL,aM,aN,aD,bx,aJ,bM,bb,bA,bg] 0)
variable(mn:W.mroIn K aL (.ref bB)=some true)
variable(ki:Fits K aL [aI,aL,aZ,a_,bL,aM,aN,aD,bx,aJ,bM,bb,bA,bg] 1)
variable(mw:W.mroIn K aM (.ref bB)=some true)
variable(kj:Fits K aM [aI,aL,aZ,a_,bL,aM,aN,aD,bx,aJ,bM,bb,bA,bg] 5)
variable(mx:W.mroIn K aN (.ref bB)=some true)
variable(kn:Fits K aN [aI,aL,aZ,a_,bL,aM,aN,aD,bx,aJ,bM,bb,bA,bg] 6)
variable(ju:W.mroIn K aD (.ref bB)=some true)
variable(iU:Fits K aD [aI,aL,aZ,a_,bL,aM,aN,aD,bx,aJ,bM,bb,bA,bg] 7)
variable(vw:W.mroIn K bx (.ref bB)=some true)
variable(qT:Fits K bx [aI,aL,aZ,a_,bL,aM,aN,aD,bx,aJ,bM,bb,bA,bg] 8)
variable(my:W.mroIn K aJ (.ref bB)=some true)
variable(ko:Fits K aJ [aI,aL,aZ,a_,bL,aM,aN,aD,bx,aJ,bM,bb,bA,bg] 9)
theorem fY:aP ["_law_library","_law_book","_law_handed","_law_refused","_law_told","_law_e"] ["_law_library","_law_book","_law_handed"] (aw nF):=gL
include T eF dj eG eI eJ Lc cT jN dz kg g_ mj kh mn ki mw kj mx kn ju iU vw qT my ko in
theorem AF{f:Addr}{fd:FuncData}(F:lu K "_law_come" "_law_come" nF f fd):bE P w K mg base (de P w) true 12 f fd ["_law_library","_law_book","_law_handed"] (wN aE bH aQ aW):=by
 refine F.gv fY Ζ gM
 ·obtain⟨G,x,dx,t,s,e,w,b,w0,us,vs,n,y,ws,bs,es,c,rfl,_⟩:=h;rfl
 ·obtain⟨G,x,dx,t,s',e,w,b,w0,us,vs,n,y,ws,bs,es,c,rfl,L,sG,gx,ge,TG,hb,hw,hn,Gj,hz,U3,Ik,DZ,hF,xK,qr,qo⟩:=h;refine⟨_,(Zq (Zr (3) fY.nd bh) (Zq (Zr (4) fY.nd lM) (Zq (@Px _ _ _ _ _ _ _ (by exact rfl) (by exact rfl) (fun EE _ _ hp ho=>(Xm (Zr (4) fY.nd (η (pv 0) dz hp (R7 (zU (aH K) (pv 1) ar) (R7 (zU (aH K) (pv 1) ar) (Ic (pv 2)))))))) (@SU _ _ _ _ _ _ _ _ _ _ _ (5) (by exact rfl) g_.m g_.e fY.nd Α (by exact rfl) (fun _=>(Xm (Zr (3) fY.nd (@aY _ _ _ _ _ _ _ _ _ _ _ _ kg ((hr.mark _).loose.mono Ε) a9 (Ic (pv 5)) (OB) (QY) (OB) (OB))))) JY Ε)) (Xm (Γ (@bV _ _ _ _ (R7 (pv 3) (Ic (pv 4))))))))),?_⟩;refine⟨fun σ H1=>σ=[sR x,sR b,sR w,sS "",none,none]∧H1=H,⟨rfl,rfl⟩,?_⟩;rintro σ H ⟨rfl,rfl⟩;refine⟨fun σ H1=>σ=[sR x,sR b,sR w,sS "",some .cF,none]∧H1=H,⟨rfl,rfl⟩,?_⟩;rintro σ H ⟨rfl,rfl⟩;refine⟨fun σ H1=>∃(rf:Str)(tv:V),σ=[sR x,sR b,sR w,sS rf,some tv,none]∧((∃j,Ih c n y ws bs j∧rf=kindOf j∧tv= .cF∧av H H1)∨(rf=""∧∃fs l,tv= .ref l∧dX n y ws=4∧n∉bs.map Bk.name∧bs.length<12∧Made c ⟨n,y,ws⟩ es.length bs fs∧H1 l=some (.lst (fs.map fun e=> .int e.number))∧∀b o,b≠x→b≠e→H b=some o→H1 b=some o)),?_,?_⟩
  ·refine⟨fun σ cls od H1=>∃C j,cls= .ref C∧σ=[sR x,sR b,sR w,sS "",some .cF,none]∧av H H1∧Ih c n y ws bs j∧sg K C∧W.mroIn K C (.ref bB)=some true∧Fits K C [aI,aL,aZ,a_,bL,aM,aN,aD,bx,aJ,bM,bb,bA,bg] j,?_,?_⟩
   ·refine⟨_,rfl,x,dx,_,rfl,L.ob,rfl,_,rfl,b,_,0,_,rfl,rfl, .of hb,aS (j:=0) rfl,_,rfl,b,_,1,_,rfl,rfl, .of hb,aS (j:=1) rfl,_,rfl,G,x,dx,t,s',e,w,us,vs,n,y,ws,bs,es,c,rfl,L,sG,gx,ge,TG,hw,hn,Gj,hz,U3,Ik,DZ,hF,xK,?_,?_,?_,?_,?_,?_,?_,?_⟩
    ·exact fun h H1 s1=>⟨_,5,rfl,rfl,s1, .inl ⟨h,rfl⟩,eG.e,mw,kj⟩
    ·exact fun h H1 s1=>⟨_,6,rfl,rfl,s1, .inr (.inl ⟨h,rfl⟩),eI.e,mx,kn⟩
    ·exact fun h H1 s1=>⟨_,1,rfl,rfl,s1, .inr (.inr (.inl ⟨h,rfl⟩)),eJ.e,mn,ki⟩
    ·exact fun h H1 s1=>⟨_,0,rfl,rfl,s1, .inr (.inr (.inr (.inl ⟨h,rfl⟩))),dj.e,mj,kh⟩
    ·exact fun h h2 H1 s1=>⟨_,7,rfl,rfl,s1, .inr (.inr (.inr (.inr ⟨h, .inl ⟨h2,rfl⟩⟩))),cT.e,ju,iU⟩
    ·exact fun h h2 h3 H1 s1=>⟨_,8,rfl,rfl,s1, .inr (.inr (.inr (.inr ⟨h, .inr ⟨h2, .inl ⟨h3,rfl⟩⟩⟩))),jN.e,vw,qT⟩
    ·exact fun h h2 h3 k o fs ds f ek _ RC QO H1 s1=>⟨_,9,rfl,rfl,s1, .inr (.inr (.inr (.inr ⟨h, .inr ⟨h2, .inr ⟨h3,rfl,o,Ψ ek,ds,f,RC,QO⟩⟩⟩))),eF.e,my,ko⟩
    ·exact fun h h2 h3 fs MD Jh _ _ H1 r s2 us2 HY _ k1 _ hr=>⟨"", .ref r,rfl, .inr ⟨rfl,fs,r,rfl,h,h2,h3,MD,hr,k1⟩⟩
   ·rintro bG cls od H1 ⟨C,j,rfl,rfl,s1,RB,eC,mq,ft⟩;refine⟨C,rfl,true,mq,?_⟩;refine jD ?_;intro ea hea;have sE:av H1 (upd H1 ea (.exc ea C)):=av.upd hea;exact⟨_,rfl,ea,C,j,rfl,af,eC,RB.lt,ft,fun H2 s2=>⟨kindOf j, .cF,rfl, .inl ⟨j,RB,rfl,rfl,(s1.trans sE).trans s2⟩⟩⟩
  rintro σ H1 ⟨rf,tv,rfl,hc⟩;refine⟨_,rfl,_,rfl,ay XD,fun p hp=>?_⟩;rcases hc with⟨j,RB,rfl,rfl,s1⟩|⟨rfl,fs,l,rfl,h1,h2,h3,MD,hl,k1⟩
  ·exact qr j RB _ p (s1.trans (av.upd hp)) af
  ·exact qo h1 h2 h3 fs MD _ p l af (av.upd hp _ _ hl) fun b o n1 n2 h=>av.upd hp _ _ (k1 b o n1 n2 h)
variable(kq:cG P w K mg base true 1 "_law_bank" ["_law_cell","_law_other","_law_many"] Ab)
variable(iV:cG P w K mg base true 1 "_law_titles" ["_law_cell","_law_many"] sV)
variable(mz:j5 P w K mg base true 1 "Library" aE ["self","terms"] [] (wD aE))
variable(qU:j5 P w K mg base true 5 "Terms" aW ["self","same","out","into","least","part","near"] [.int 50, .cF] (vj aW aZ a_))
variable(hG:cG P w K mg base true 2 "_law_book_of" ["_law_script","_law_name","_law_word"] (sX K))
variable(mB:cG P w K mg base true 3 "_law_due" ["_law_name","_law_year","_law_row_here","_law_titles_here","_law_many","_law_alike"] Fn)
variable(dG:c6 P w K mg base true 1 aE "found" ["self"] (wG aE))
variable(eK:c6 P w K mg base true 3 aE "listed" ["self"] (sU aE bH aQ aW))
variable(kr:cG P w K mg base true 12 "_law_come" ["_law_library","_law_book","_law_handed"] (wN aE bH aQ aW))
variable(hJ:cG P w K mg base true 1 "_law_texts" ["_law_found","_law_due_here"] vT)
variable(jP:cG P w K mg base true 2 "_law_row" ["_law_found","_law_due_here"] EH)
theorem fj:aP ["_law_script","_law_bank_here","_law_titles_here","_law_many","_law_library","_law_rest","_law_alike","_law_made","_law_k","_law_book","_law_wanted","_law_before","_law_handed","_law_refused","_law_told"] ["_law_script"] (aw qz):=gL
include T Tc dR Lc c7 cD c_ bN dz kq iV mz qU hG mB dG eK kr hJ jP in
theorem QR{f:Addr}{fd:FuncData}(F:lu K "law" "law" qz f fd):bE P w K mg base (de P w) true 14 f fd ["_law_script"] (Gs K):=by
 refine F.gv fj Ζ gM
 ·obtain⟨a,ns,rfl,_⟩:=h;rfl
 ·obtain⟨a,ns,rfl,hS,hlen,q⟩:=h;have hu:=hr.units;have hu:(A.deeper (PyProof.Rows.envOfC "law" (aw qz) s.heap.objs.size f iy)).units+1<cLine:=by lia
  have md:∀(i j:Int),0<j→0≤i%j∧i%j<j:=fun i j h=>⟨Int.emod_nonneg _ (by lia),Int.emod_lt_of_pos _ h⟩
  have wl:∀{z:Str},gP z=true→z.length≤12:=fun{z} h=>by
   unfold gP at h;simp only[Bool.and_eq_true,decide_eq_true_eq]at h
   lia
  refine⟨_,(Zq (Zr (1) fj.nd (Κ kq a9 (R7 (χ bN a9) (τ (χ bN a9))))) (Zq (Zr (2) fj.nd (Κ iV a9 (τ (χ bN a9)))) (Zq (Zr (3) fj.nd (υ (aH K) (@bV _ _ _ _ (R7 ar (R7 ar (R7 ar (R7 ar (τ ar)))))))) (Zq (Zr (4) fj.nd (@lQ _ _ _ _ _ _ _ _ _ _ _ _ _ _ mz (hr.mono Ε) hX.pass (Ic (@lQ _ _ _ _ _ _ _ _ _ _ _ _ _ _ qU (hr.mono Ε) hX.pass (R7 ar (R7 ar (τ ar))) (OB) (QY) (OB) (OB))) (OB) (QY) (OB) (OB))) (Zq (Zr (5) fj.nd (ς iI ar)) (Zq (Zr (6) fj.nd ar) (Zq (@aK _ _ (7) _ _ _ _ fj.nd Α (Or.inr rfl) ar (OB) (by exact .inl rfl)) (Zq (@dU _ _ _ _ _ _ _ _ hX.own Α (@gF _ _ _ _ _ _ (by exact rfl) T.iJ (Ic (pv 3)) (OB)) (Μ (8) fj.nd) (Zq (@aK _ _ (7) _ _ _ _ fj.nd Α (Or.inr rfl) (yt dW (pv 7) (γ (aV K) T.dA (Ic (η (pv 4) dz hX.pass (R7 (zU (aH K) (pv 2) (pv 8)) (R7 (yt cI (yt dW (pv 5) (yt vC (pv 8) (pv 8))) ar) (Ic (@bV _ _ _ _ (Ic (zU (aH K) (pv 1) (yt cI (pv 5) ar))))))))))) (OB) (by exact .inl rfl)) (Zq (Zr (6) fj.nd (yt dW (pv 6) (@gG _ _ _ _ _ _ _ _ _ yR Α T.Kb PyProof.Rows.Boot.«int» (Ic (@fm _ _ _ _ _ _ _ _ ij (yt cI (pv 5) ar) ar (br _))) (QY) (QY) (OB) (OB)))) (Xm (Zr (5) fj.nd (yt iI (pv 5) ar))))) (by intro _;rfl)) (Zq (Zr (9) fj.nd (Κ hG a9 (R7 (pv 0) (R7 (υ (aH K) (pv 2)) (Ic (zU (aH K) (pv 1) ar)))))) (Zq (Zr (10) fj.nd (Κ mB a9 (R7 (zU (aH K) (pv 9) ar) (R7 (zU (aH K) (pv 9) ar) (R7 (zU (aH K) (pv 9) ar) (R7 (pv 2) (R7 (pv 3) (Ic (pv 6))))))))) (Zq (Ι (@PW.pt _ _ _ (@pw_or _ _ _ _ _ _ _ (@eO _ _ _ _ (@cZ _ _ _ (Κ c_ a9 (Ic (ε c7))) (by intro _;rfl))) (@pw_or _ _ _ _ _ _ _ (Ν vD (ε c7) ar (br _)) (@pw_or _ _ _ _ _ _ _ (@eO _ _ _ _ (@cZ _ _ _ (Κ c_ a9 (Ic (ε dR))) (by intro _;rfl))) (@pw_or1 _ _ _ _ (Ν vD (ε dR) ar (br _))))))) (Xm (Γ j1)) ba) (Zq (Zr (11) fj.nd (@bV _ _ _ _ (R7 (@e_ _ _ _ _ _ _ _ _ _ _ _ _ _ (pv 4) cD (hr.mono Ε) a9 (OB)) (R7 (@e_ _ _ _ _ _ _ _ _ _ _ _ _ _ (pv 4) dG (hr.mono Ε) a9 (OB)) (Ic (@e_ _ _ _ _ _ _ _ _ _ _ _ _ _ (pv 4) eK (hr.mono Ε) a9 (OB))))))) (Zq (Zr (12) fj.nd (@gG _ _ _ _ _ _ _ _ _ (fb K) (by exact rfl) T.ni PyProof.Rows.Boot.«list» (Ic (zU (aH K) (pv 9) ar)) (QY) (QY) (OB) (OB))) (Zq (@Eb _ _ _ _ _ _ (Κ kr a9 (R7 (pv 4) (R7 (pv 9) (Ic (pv 12))))) (@aaE _ K _ _ _ (2) _ (by exact rfl) (@cQ _ _ _ _ _ (Μ (13) fj.nd) (@cQ _ _ _ _ _ (Μ (14) fj.nd) j4 (OB)) (OB)) (OB) (OB) (OB)) (OB) (OB) (OB)) (Zq (Ι (@PW.pt _ _ _ (@pw_or _ _ _ _ _ _ _ (@eO _ _ _ _ (@cZ _ _ _ (Κ hJ a9 (R7 (pv 12) (Ic (zU (aH K) (pv 9) ar)))) (by intro _;rfl))) (@pw_or1 _ _ _ _ (Ν vD (pv 13) (pv 10) (br _))))) (Xm (Γ j1)) ba) (Zq (Ι (Ν ij (pv 10) bh (br _)) (Xm (Γ (Κ jP a9 (R7 (pv 14) (Ic (@gi _ _ _ _ _ _ _ _ _ _ _ _ _ _ (by exact rfl) (show bK ["_law_script","_law_bank_here","_law_titles_here","_law_many","_law_library","_law_rest","_law_alike","_law_made","_law_k","_law_book","_law_wanted","_law_before","_law_handed","_law_refused","_law_told"] (aw qz) _ ["_law_k"] [7] ["_law_made"]from DY) (@gF _ _ _ _ _ _ (by exact rfl) T.iJ (Ic (yt vC (pv 6) (γ (aV K) T.dA (Ic (zU (aH K) (pv 9) ar))))) (OB)) (fun _ _ _ _ _=>(Μ (0) (show(["_law_k","_law_made"]:List Str).Nodup by decide+kernel))) (fun _ _ _ _ _=>fS) (fun _ _ _ _ _=>(yt dW (yt dW (pv 1) ar) (pv 0))) (by intro _;rfl))))))) ba) (Zq (Ι (@PW.pt _ _ _ (@pw_or _ _ _ _ _ _ _ (@eO _ _ _ _ (@cZ _ _ _ (Κ hJ a9 (R7 (@e_ _ _ _ _ _ _ _ _ _ _ _ _ _ (pv 4) cD (hr.mono Ε) a9 (OB)) (Ic (zU (aH K) (pv 11) ar)))) (by intro _;rfl))) (@pw_or1 _ _ _ _ (@eO _ _ _ _ (@cZ _ _ _ (Κ jP a9 (R7 (@e_ _ _ _ _ _ _ _ _ _ _ _ _ _ (pv 4) eK (hr.mono Ε) a9 (OB)) (Ic (zU (aH K) (pv 11) ar)))) (by intro _;rfl)))))) (Xm (Γ j1)) ba) (Xm (Γ (@lN _ _ _ _ _ _ _ (Κ c_ a9 (Ic (@e_ _ _ _ _ _ _ _ _ _ _ _ _ _ (pv 4) dG (hr.mono Ε) a9 (OB)))) (@lN _ _ _ _ _ _ _ (@fm _ _ _ _ _ _ _ _ ij (@e_ _ _ _ _ _ _ _ _ _ _ _ _ _ (pv 4) dG (hr.mono Ε) a9 (OB)) (zU (aH K) (pv 11) ar) (br _)) (@mZ _ _ _ _ _ (@fm _ _ _ _ _ _ _ _ ij (pv 7) (zU (aH K) (pv 11) ar) (br _)))))))))))))))))))))))),?_⟩;refine⟨fun σ H1=>∃(zb:Addr)(z0 z1:Str),σ=[sR a,sR zb,none,none,none,none,none,none,none,none,none,none,none,none,none]∧av H H1∧H1 zb=some (.lst [.str z0, .str z1])∧gP z0=true∧gP z1=true∧z0≠z1,?_,?_⟩
  ·refine⟨_,rfl,a,ns,0,rfl,hS,QY,_,rfl,a,ns,1,rfl,hS,QY,_,_,2,rfl,QY,QY,fun H1 b zs s1 hb rZ hz hw hn=>?_⟩
   match zs,hz with
   |[z0,z1],_=>exact⟨b,z0,z1,rfl,s1,rZ,hw _ (Xx),hw _ (Xx),by simpa using hn⟩
  rintro σ H1 ⟨zb,z0,z1,rfl,s1,hzb,Ci,qC,gO⟩;have Ou:=s1.seq hS;refine⟨fun σ H2=>∃(tt:Addr)(ts:List Str),σ=[sR a,sR zb,sR tt,none,none,none,none,none,none,none,none,none,none,none,none]∧av H1 H2∧H2 tt=some (.lst (ts.map V.str))∧ts.length=13∧(∀z∈ts,gP z=true)∧ts.Nodup,?_,?_⟩
  ·exact⟨_,rfl,a,ns,2,rfl,Ou,QY,_,13,rfl,QY,QY,fun H2 b ts s2 hb E4 hz hw hn=>⟨b,ts,rfl,s2,E4,hz,hw,hn⟩⟩
  rintro σ H2 ⟨tt,ts,rfl,s2,htt,zi,htw,htn⟩;have Nr:=s2.seq Ou;have YG:=s2 _ _ hzb;refine⟨fun σ H3=>∃M:Nat,σ=[sR a,sR zb,sR tt,sI M,none,none,none,none,none,none,none,none,none,none,none]∧av H2 H3∧M≤12,?_,?_⟩
  ·obtain⟨m,Jk,hm⟩:=int_at [0,1,2,5,11,12] (i:=cell ns 3%6) (md _ 6 Ε).1 (md _ 6 Ε).2;have Ng:0≤m∧m≤12:=by
    simp only[List.mem_cons,List.not_mem_nil,or_false]at Jk
    lia
   refine⟨ay XD,fun p hp=>?_⟩;exact⟨_,rfl,a,ns,3,rfl,(av.upd hp).seq Nr,QY,_,_,rfl,rfl,(show(0:Int)<6 by decide),p,_,_,_,rfl,rfl, .of af,hm,m.toNat,by rw[show((m.toNat:Nat):Int)=m by lia];rfl,av.upd hp,by lia⟩
  rintro σ H3 ⟨M,rfl,s3,hM⟩;have YE:=s3.seq Nr;refine⟨fun σ H4=>∃(x dx t s' e:Addr)(G:Hp),σ=[sR a,sR zb,sR tt,sI M,sR x,none,none,none,none,none,none,none,none,none,none]∧av H3 G∧av G H4∧G x=none∧G e=none∧uC G aW t c0∧sT (fun z=>z≠x∧z≠e) H4 aE bH aQ aW x dx t s' e [] [] [] [] c0,?_,?_⟩
  ·refine fun x dx hx GA gO=>?_
   have ok1:kT ⟨5,3,3,5,50⟩=true:=QY;refine⟨x,dx,⟨5,3,3,5,50⟩, .cF,[],[],rfl,af,by rw[aj gO];exact af, .inl ⟨rfl,rfl,rfl⟩,⟨Xx,fun f hf=>by cases hf⟩,?_⟩;rw[VH ok1,if_pos (OB)];intro G l2 d2 sb T6 hl6 hd6;have t3:=SameBut.sq hx GA sb;refine⟨rfl,fun y dy hy Ly U_=>?_⟩;refine⟨y,dy,x,rfl,af,fun H4 s' e UC hs he Yz nsy ney ob hs4 Ld=>?_⟩;have t4:=SameBut.sq hy Ly UC;have u1:∀{z},upd (upd G dy (.own y)) y (.ins aE dy []) z=none→G z=none:=fun{z} h=>((av.upd (o:= .own y) Ly).eP (o:= .ins aE dy []) hy).free h
   have TF:uC G aW x c0:=⟨_,dx,l2,d2,[],T6,rfl,rfl,rfl,rfl⟩
   exact⟨rfl,y,dy,x,s',e,G,rfl,t3,t4,hy,u1 he,TF,ob,hs4, .nil,Ld, .nil,TF.keep t4,Yz⟩
  rintro σ H4 ⟨x,dx,t,s4',e,G,rfl,YH,sG4,gx,ge,TG,L4⟩;have hzG:=YH _ _ (s3 _ _ YG);have YI:=YH _ _ (s3 _ _ htt);have YJ:=YH.seq YE;refine⟨fun σ H5=>∃r:Int,σ=[sR a,sR zb,sR tt,sI M,sR x,sI r,none,none,none,none,none,none,none,none,none]∧H5=H4,?_,?_⟩
  ·exact⟨_,rfl,a,ns,3,rfl,sG4.seq YJ,QY,_,_,rfl,rfl,⟨QY,QY⟩,_,rfl,rfl⟩
  rintro σ H4 ⟨r0,rfl,rfl⟩;refine⟨fun σ H5=>σ=[sR a,sR zb,sR tt,sI M,sR x,sI r0,sI 0,none,none,none,none,none,none,none,none]∧H5=H4,⟨rfl,rfl⟩,?_⟩;rintro σ H4 ⟨rfl,rfl⟩;refine⟨fun σ H5=>σ=[sR a,sR zb,sR tt,sI M,sR x,sI r0,sI 0,sI 0,none,none,none,none,none,none,none]∧H5=H4,⟨rfl,rfl⟩,?_⟩;rintro σ H4 ⟨rfl,rfl⟩;refine⟨fun σ H5=>∃(al:Nat)(u v:Option V)(s':Addr)(us vs:List V)(bs:List Bk)(es:List En),σ=[sR a,sR zb,sR tt,sI M,sR x,u,sI al,sI es.length,v,none,none,none,none,none,none]∧av G H5∧sT (fun z=>z≠x∧z≠e) H5 aE bH aQ aW x dx t s' e us vs bs es c0∧bs.length=M∧(bs.Pairwise fun a b=>oQ (dP a) (dP b)=true)∧(∀nm,nm∈bs.map Bk.name↔nm∈ts.take M)∧(∀o∈bs,o.words=[z0]∨o.words=[z1])∧(bs.map fun o=>if o.words=[z0]then 1 else 0).sum=al∧(∀(j:Nat) e,es[j]?=some e→e.number=((j+1:Nat):Int)∧e.left=false∧e.fd.worth=5)∧es.length≤12*M,?_,?_⟩
  ·refine⟨_,rfl,(M:Int),rfl,by lia,by lia,?_⟩;refine ir (fun i σ H5=>∃(r:Int)(al:Nat)(v:Option V)(s':Addr)(us vs:List V)(bs:List Bk)(es:List En),σ=[sR a,sR zb,sR tt,sI M,sR x,sI r,sI al,sI es.length,v,none,none,none,none,none,none]∧av G H5∧sT (fun z=>z≠x∧z≠e) H5 aE bH aQ aW x dx t s' e us vs bs es c0∧bs.length=i∧(bs.Pairwise fun a b=>oQ (dP a) (dP b)=true)∧(∀nm,nm∈bs.map Bk.name↔nm∈ts.take i)∧(∀o∈bs,o.words=[z0]∨o.words=[z1])∧(bs.map fun o=>if o.words=[z0]then 1 else 0).sum=al∧(∀(j:Nat) e,es[j]?=some e→e.number=((j+1:Nat):Int)∧e.left=false∧e.fd.worth=5)∧es.length≤12*i) ⟨r0,0,none,s4',[],[],[],[],rfl,sG4,L4,rfl, .nil,Xx,fun o h=>by(cases h),rfl,fun j e h=>by(simp at h),Xx⟩ ?_ ?_
   ·rintro i σ H5 hi ⟨r,al,v,s',us,vs,bs,es,rfl,s5,L,Ik,xK,LA,Oo,uE,YK,DZ⟩;have hi:i<M:=by have:i<(M:Int).toNat:=hi;lia
    have YL:ts[i]?=some ts[i]:=by simp[show i<ts.length by lia]
    have YM:=htw _ (List.getElem_mem (show i<ts.length by lia));have U':ts[i]∉ts.take i:=fun h=>by
     obtain⟨j,hj,e⟩:=List.mem_take_iff_getElem.mp h;have:=(List.getElem_inj htn).mp e
     lia
    have etk:ts.take (i+1)=ts.take i++[ts[i]]:=by rw[List.take_succ,YL];rfl
    generalize ts[i]=n at YL YM U' etk;obtain⟨W,hWw,Va,E8⟩:∃W,gP W=true∧((r%2=0∧W=z0)∨(¬r%2=0∧W=z1))∧xI [V.str z0, .str z1] (r%2)=some (.str W):=by
     have:=md r 2 (QY);by_cases h:r%2=0
     ·rw[h];exact⟨z0,Ci, .inl ⟨rfl,rfl⟩,aS (j:=0) rfl⟩
     ·rw[show r%2=1 by lia];exact⟨z1,qC, .inr ⟨QY,rfl⟩,aS (j:=1) rfl⟩
    have hWl:=wl hWw;refine⟨fun σ H6=>∃(s':Addr)(us vs:List V)(FC:List Bk)(QS:List En),σ=[sR a,sR zb,sR tt,sI M,sR x,sI r,sI al,sI QS.length,sI ((0+(i:Int))),none,none,none,none,none,none]∧av G H6∧sT (fun z=>z≠x∧z≠e) H6 aE bH aQ aW x dx t s' e us vs FC QS c0∧FC.length=i+1∧(FC.Pairwise fun a b=>oQ (dP a) (dP b)=true)∧(∀nm,nm∈FC.map Bk.name↔nm∈ts.take (i+1))∧(∀o∈FC,o.words=[z0]∨o.words=[z1])∧(FC.map fun o=>if o.words=[z0]then 1 else 0).sum=al+(if r%2=0 then 1 else 0)∧(∀(j:Nat) e,QS[j]?=some e→e.number=((j+1:Nat):Int)∧e.left=false∧e.fd.worth=5)∧QS.length≤12*(i+1),?_,?_⟩
    ·refine⟨_,rfl,_,rfl,x,dx,_,rfl,L.ob,rfl,_,rfl,_,rfl,tt,_,_,_,rfl,rfl, .of (s5 _ _ YI),PR (show(ts.map V.str)[i]?=some (.str n) by rw[List.getElem?_map,YL];rfl),_,rfl,_,rfl,_,rfl,_,_,rfl,rfl, .inl ⟨by lia,by lia⟩,_,_,rfl,rfl,_,_,rfl,rfl,(show(0:Int)<10000 by decide),_,rfl,_,rfl,_,_,rfl,rfl,(show(0:Int)<2 by decide),zb,_,_,_,rfl,rfl, .of (s5 _ _ hzG),E8,ay XD,fun w hw=>?_⟩;have s6:av H5 (upd H5 w (.lst [.str W])):=av.upd hw;have hw6:upd H5 w (.lst [.str W]) w=some (.lst ([W].map V.str)):=af;generalize upd H5 w (.lst [.str W])=H6 at s6 hw6;have hy:=md (r+(0+(i:Int))*(0+(i:Int))) 10000 Ε;generalize (r+(0+(i:Int))*(0+(i:Int)))%10000=y at hy;have Q_:dX n y [W]=4:=by
      unfold dX;rw[M9 (by rw[YM];simp),M9 Nz,if_neg XD,M9 (by simp[hWw])]
     have Np:n∉bs.map Bk.name:=fun h=>U' ((LA n).mp h)
     have ob:∀o∈bs,Az W ⟨n,y,[W]⟩ o:=fun o ho=>⟨fun x hx=>List.mem_singleton.mp hx,by rcases Oo o ho with h|h<;>exact⟨_,h⟩⟩
     refine⟨G,x,dx,t,s',e,w,us,vs,n,y,[W],bs,es,c0,rfl,L.same s6,s5.trans s6,gx,ge,TG,hw6,by have:=wl YM;lia,Xx,fun z hz=>by rw[List.mem_singleton.mp hz];lia,fun o ho=>by(rcases Oo o ho with h|h<;>rw[h]<;>simp),by lia,by lia,fun o ho _=>(ob o ho).Ca XD,xK,fun h=>by(rw[Q_]at h;cases h),fun h=>by(rw[Q_]at h;cases h),fun h=>by(rw[Q_]at h;cases h),fun h=>by(rw[Q_]at h;cases h),fun _ h=>absurd h Np,fun _ _ h=>by lia,fun _ _ _ k o fs ds f ek _ RC QO=>?_,fun _ _ _ fs MD Jh pm YN H7 l s7' M6 XR L7 k7 _ hl=>?_⟩
     ·have:=((ob o (Ψ ek)).reach RC).1;have:ds.length≤1:=this
      lia
     have cnt:=MD.count (k:=fun o=>(if o.words=[W]then 1 else 0)*1) fun o ho ds h=>((ob o ho).told h).1
     have wrt:=MD.all (S:=fun d=>d.worth=5) fun o ho ds h=>((ob o ho).told h).2
     have fle:fs.length≤12:=by
      rw[AA]at cnt;have:=Fp W bs
      lia
     refine⟨l,_,rfl, .inl (.of hl),_,_,rfl,rfl,s7',M6,XR,Jh,es++fs,?_,?_,L7,?_,YN,?_,?_,?_,?_,?_⟩
     ·rw[List.length_append,List.length_map,Int.natCast_add];rfl
     ·exact fun z o h=>k7 z o (fun q=>by rw[q,gx]at h;cases h) (fun q=>by rw[q,ge]at h;cases h) (s6 _ _ (s5 _ _ h))
     ·rw[pm.length_eq,List.length_append,Ik];rfl
     ·intro nm;rw[(pm.map Bk.name).mem_iff,List.map_append,List.mem_append,LA nm,etk,List.mem_append];exact Iff.rfl
     ·intro o ho;rcases List.mem_append.mp (pm.mem_iff.mp ho)with ho|ho
      ·exact Oo o ho
      ·rw[List.mem_singleton.mp ho];rcases Va with⟨_,rfl⟩|⟨_,rfl⟩
       ·exact .inl rfl
       ·exact .inr rfl
     ·rw[(pm.map _).sum_nat,List.map_append,List.sum_append,uE];rcases Va with⟨h,rfl⟩|⟨h,rfl⟩
      ·simp[h]
      ·simp[h,Ne.symm gO]
     ·intro j e' he;by_cases hj:j<es.length
      ·rw[ζ hj]at he;exact YK j e' he
      ·rw[θ Nz]at he;obtain⟨n1,n2⟩:=MD.num _ e' he;exact⟨by rw[n1];lia,n2,wrt e' (Ψ he)⟩
     ·rw[List.length_append];lia
    rintro σ H6 ⟨s6',G_,vs6,FC,QS,rfl,s6,L6,YO,YQ,YR,YS,YT,YU,YV⟩;refine⟨fun σ H7=>σ=[sR a,sR zb,sR tt,sI M,sR x,sI r,sI (((al+(if r%2=0 then 1 else 0):Nat):Int)),sI QS.length,sI ((0+(i:Int))),none,none,none,none,none,none]∧H7=H6,?_,?_⟩
    ·refine⟨_,rfl,_,rfl,_,_,rfl,rfl,(show(0:Int)<2 by decide),rfl, .inr ⟨_,rfl,_,_,rfl,rfl,?_,rfl⟩⟩;by_cases h:r%2=0
     ·simp[h]
     ·simp[h]
    rintro σ H6 ⟨rfl,rfl⟩;exact⟨_,rfl,_,_,rfl,rfl,⟨QY,QY⟩,_,_,_,s6',G_,vs6,FC,QS,rfl,s6,L6,YO,YQ,YR,YS,YT,YU,YV⟩
   ·rintro σ H5 ⟨r,al,v,s',us,vs,bs,es,rfl,h⟩;exact⟨al,_,v,s',us,vs,bs,es,rfl,h⟩
  rintro σ H5 ⟨al,u,v,Ov,us,vs,bs,es,rfl,s5,L,Ik,xK,LA,Oo,uE,YK,DZ⟩;refine⟨fun σ H6=>∃(b w:Addr)(n:Str)(y:Int)(ws:List Str),σ=[sR a,sR zb,sR tt,sI M,sR x,u,sI al,sI es.length,v,sR b,none,none,none,none,none]∧av H5 H6∧H5 b=none∧H5 w=none∧H6 b=some (.lst [.str n, .int y, .ref w])∧H6 w=some (.lst (ws.map V.str))∧n.length≤200∧ws.length≤45∧(∀z∈ws,z.length≤200)∧((∀z∈ws,z=z0)∨∃z∈ws,gP z=false),?_,?_⟩
  ·obtain⟨n,hn1,hn⟩:=Kk ts (i:=cell ns 4%13) (md _ 13 Ε).1 (by rw[zi];exact(md _ 13 Ε).2);have:=wl (htw n hn1);have:=wl Ci;exact⟨_,rfl,_,rfl,_,rfl,a,ns,4,rfl,s5.seq YJ,QY,_,_,rfl,rfl,(show(0:Int)<13 by decide),tt,_,_,_,rfl,rfl, .of (s5 _ _ YI),hn,_,rfl,zb,_,0,_,rfl,rfl, .of (s5 _ _ hzG),aS (j:=0) rfl,a,ns,n,z0,rfl,s5.seq YJ,by lia,by lia,fun H6 b w n' y ws s6 Rt Ci hb hw h1 h2 h3 h4=>⟨b,w,n',y,ws,rfl,s6,Rt,Ci,hb,hw,h1,h2,h3,h4⟩⟩
  rintro σ H6 ⟨b,w,n,y,ws,rfl,s6,Rt,YW,hb,hw,hnl,Gj,hzl,YF⟩;have L6:=L.same s6;have t6:=s5.trans s6;refine⟨fun σ H7=>σ=[sR a,sR zb,sR tt,sI M,sR x,u,sI al,sI es.length,v,sR b,sS (gN n y ws ts M al),none,none,none,none]∧av H6 H7,?_,?_⟩
  ·exact⟨_,rfl,b,_,0,_,rfl,rfl, .of hb,aS (j:=0) rfl,_,rfl,b,_,1,_,rfl,rfl, .of hb,aS (j:=1) rfl,_,rfl,b,_,2,_,rfl,rfl, .of hb,aS (j:=2) rfl,_,rfl,_,rfl,_,rfl,n,y,w,tt,ws,ts,M,al,rfl,by lia,hw,t6 _ _ YI,by lia,by lia,fun z hz=>by have:=hzl z hz;lia,by lia,fun H7 s7=>⟨rfl,s7⟩⟩
  rintro σ H7 ⟨rfl,s7⟩;have L7:=L6.same s7;have t7:=t6.trans s7;refine⟨fun σ H8=>σ=[sR a,sR zb,sR tt,sI M,sR x,u,sI al,sI es.length,v,sR b,sS (gN n y ws ts M al),none,none,none,none]∧H8=H7,?_,?_⟩
  ·refine⟨_,rfl,_,rfl,?_⟩;refine m_ ?_;refine⟨rfl,_,rfl,?_⟩;refine m_ ?_;refine⟨_,rfl,_,rfl,?_⟩;refine m_ ?_;refine⟨rfl,_,rfl,?_⟩;exact m_ ⟨rfl,rfl⟩
  rintro σ H7 ⟨rfl,rfl⟩;obtain⟨hf,Ii,hsr,Wl⟩:=M_ YK;refine⟨fun σ H8=>∃(bf b1 b2:Addr),σ=[sR a,sR zb,sR tt,sI M,sR x,u,sI al,sI es.length,v,sR b,sS (gN n y ws ts M al),sR bf,none,none,none]∧av H7 H8∧H8 bf=some (.lst [.ref b1, .int es.length, .ref b2])∧H8 b1=some (.lst ((bs.map Bk.name).map V.str))∧H8 b2=some (.lst ((es.map En.number).map V.int)),?_,?_⟩
  ·refine⟨_,rfl,x,dx,_,rfl,L7.ob,rfl,_,x,dx,t,Ov,e,us,bs,rfl,L7.ob,L7.hs,L7.sh,by lia,fun H8 b1 s8 rZ Wr=>?_⟩;refine⟨_,rfl,x,dx,_,rfl,s8 _ _ L7.ob,rfl,x,dx,t,Ov,e,vs,rfl,s8 _ _ L7.ob,s8 _ _ L7.he,?_⟩;refine⟨_,rfl,x,dx,_,rfl,s8 _ _ L7.ob,rfl,_,x,dx,t,Ov,e,us,vs,bs,es,c0,rfl,L7.same s8,by lia,Ii,hsr,fun fs pm sr H9 b2 s9 E4 Vc=>?_⟩;rw[hf]at pm;have RL:=Dk pm sr Wl;subst RL;rw[L7.en.1];exact⟨ay XD,fun p hp=>⟨p,b1,b2,rfl,(s8.trans s9).trans (av.upd hp),af,av.upd hp _ _ (s9 _ _ Wr),by rw[av.upd hp _ _ Vc,List.map_map];rfl⟩⟩
  rintro σ H8 ⟨bf,b1,b2,rfl,s8,U0,rZ,E4⟩;have L8:=L7.same s8;have t8:=t7.trans s8;have Wr:=s8 _ _ (s7 _ _ hb);have hw8:=s8 _ _ (s7 _ _ hw);refine⟨fun σ H9=>∃(hd:Addr),σ=[sR a,sR zb,sR tt,sI M,sR x,u,sI al,sI es.length,v,sR b,sS (gN n y ws ts M al),sR bf,sR hd,none,none]∧av H8 H9∧H8 hd=none∧H9 hd=some (.lst (ws.map V.str)),?_,?_⟩
  ·exact⟨_,rfl,b,_,2,_,rfl,rfl, .of Wr,aS (j:=2) rfl,w,_,rfl, .inl (.of hw8),fun hd RM=>⟨hd,rfl,av.upd RM,RM,af⟩⟩
  rintro σ H9 ⟨hd,rfl,s9,hd0,RM⟩;have L9:=L8.same s9;have t9:=t8.trans s9;have Vc:=s9 _ _ Wr;have XX:=s9 _ _ hw8;have Ve:dX n y ws=4→ws.length≤40∧∀z∈ws,z=z0:=fun h=>by
   unfold dX at h;split at h
   ·cases h
   split at h
   ·cases h
   split at h
   ·cases h
   split at h
   ·cases h
   rename_i h3 h4
   refine⟨by lia,YF.resolve_right fun⟨z,hz,hf⟩=>h4 (List.all_eq_false.mpr ⟨z,hz,by simp[hf]⟩)⟩
  have ob:(∀z∈ws,z=z0)→∀o∈bs,Az z0 ⟨n,y,ws⟩ o:=fun h o ho=>⟨h,by rcases Oo o ho with h|h<;>exact⟨_,h⟩⟩
  have YX:∀o∈bs,ws.length≤40→K8 c0 ⟨n,y,ws⟩ o:=fun o ho hl=>fun ds f W r T hW ms nd hm=>by
   have h1:o.words.length=1:=by rcases Oo o ho with h|h<;>rw[h]<;>rfl
   refine zo (c:=lY c0 ⟨n,y,ws⟩ o) ?_ r nd hm;rcases jz c0 ⟨n,y,ws⟩ o with⟨e1,e2⟩|⟨e1,e2⟩
   ·rw[e1,e2,h1];show ws.length*1<64;lia
   ·rw[e1,e2,h1];show 1*ws.length<64;lia
  have dk:dX n y ws=4→gN n y ws ts M al=if n∈ts.take M then kindOf 7 else if 12≤M then kindOf 8 else if 20<ws.length∧0<(al:Int)then kindOf 9 else "":=fun h=>by unfold gN;rw[h,if_neg Ε,if_neg Ε,if_neg Ε,if_neg Ε]
  have al0:(0<al)↔∃o∈bs,o.words=[z0]:=by
   rw[←uE];exact G7 z0 bs
  refine⟨fun σ DV=>∃(rf:Str)(tv:V),σ=[sR a,sR zb,sR tt,sI M,sR x,u,sI al,sI es.length,v,sR b,sS (gN n y ws ts M al),sR bf,sR hd,sS rf,some tv]∧rf=gN n y ws ts M al∧DV hd=some (.lst (ws.map V.str))∧DV b=some (.lst [.str n, .int y, .ref w])∧DV w=some (.lst (ws.map V.str))∧((rf≠""∧av H9 DV)∨(rf=""∧∃fs l,tv= .ref l∧DV l=some (.lst (fs.map V.int))∧fs=(List.range (al*ws.length)).map fun k:Nat=>((es.length:Nat):Int)+1+(k:Int))),?_,?_⟩
  ·refine⟨_,rfl,_,rfl,_,rfl,G,x,dx,t,Ov,e,hd,b,w,us,vs,n,y,ws,bs,es,c0,rfl,L9,t9,gx,ge,TG,Vc,RM,by lia,by lia,fun z hz=>by have:=hzl z hz;lia,fun o ho=>by(rcases Oo o ho with h|h<;>rw[h]<;>simp),by lia,by lia,YX,xK,fun j RB DV r J1 hr=>?_,fun h4 Np To fs MD DV r l hr hl YY=>?_⟩
   ·have ed:kindOf j=gN n y ws ts M al:=by
     rcases RB with⟨h,rfl⟩|⟨h,rfl⟩|⟨h,rfl⟩|⟨h,rfl⟩|⟨h,⟨h2,rfl⟩|⟨h2,⟨h3,rfl⟩|⟨h3,rfl,o,ho,ds,f,RC,QO⟩⟩⟩
     ·unfold gN;rw[VH h]
     ·unfold gN;rw[h];rfl
     ·unfold gN;rw[h];rfl
     ·unfold gN;rw[h];rfl
     ·rw[dk h,VH ((LA n).mp h2)]
     ·rw[dk h,M9 (fun z=>h2 ((LA n).mpr z)),VH Nz]
     ·have B:=ob (Ve h).2 o ho;obtain⟨r1,r2⟩:=B.reach RC;have r1:ds.length≤ws.length:=r1;have:0<al:=al0.mpr ⟨o,ho,r2 Nz⟩;rw[dk h,M9 (fun z=>h2 ((LA n).mpr z)),M9 Nz,VH ⟨by lia,by lia⟩]
    have hk:kindOf j≠"":=by
     have:∀j,j<14→kindOf j≠"":=QY;exact this j RB.lt
    exact⟨r,_,rfl, .of hr,rfl,_,_,rfl,_,_,rfl,rfl,_, .cF,rfl,ed,J1 _ _ RM,J1 _ _ Vc,J1 _ _ XX, .inl ⟨hk,J1⟩⟩
   ·obtain⟨w40,wz⟩:=Ve h4;have B:=ob wz;have cnt:=MD.count (k:=fun o=>(if o.words=[z0]then 1 else 0)*ws.length) fun o ho ds h=>((B o ho).told h).1
    rw[AA,uE]at cnt;have ed:""=gN n y ws ts M al:=by
     rw[dk h4,M9 (fun z=>Np ((LA n).mpr z)),M9 Nz,if_neg];rintro⟨a1,a2⟩;obtain⟨o,ho,hz⟩:=al0.mp Nz;have tl:∀{Jh:List Bk}{OO:List En},Made c0 ⟨n,y,ws⟩ es.length Jh OO→o∈Jh→ws.length≤20:=fun{Jh OO} m=>by
      induction m with
      |nil=>intro h;cases h
      |@snoc bs2 es2 o2 ds m t ih=>
       intro h;rcases List.mem_append.mp h with h|h
       ·exact ih h
       ·have e2:=List.mem_singleton.mp h;subst e2;have:=((B o ho).told t).1;rw[VH hz]at this;have:=t.Ca;have e3:(⟨n,y,ws⟩:Bk).words.length=ws.length:=rfl
        lia
     have:=tl MD ho
     lia
    have nz:∀{z},H5 z=none→z≠x∧z≠e:=fun{z} h=>⟨(fun q=>by rw[q,L.ob]at h;cases h),(fun q=>by rw[q,L.he]at h;cases h)⟩
    have nd':=nz (s6.free (s7.free (s8.free hd0)));have nb:=nz Rt;have nw:=nz YW;refine⟨r,_,rfl, .of hr,rfl,_,_,rfl,_,_,rfl,rfl,_, .ref l,rfl,ed,YY _ _ nd'.1 nd'.2 RM,YY _ _ nb.1 nb.2 Vc,YY _ _ nw.1 nw.2 XX, .inr ⟨rfl,_,l,rfl,by rw[hl];exact congrArg (fun z=>some (HO.lst z)) (List.map_map (g:=V.int) (f:=En.number) (l:=fs)).symm,?_⟩⟩;apply List.ext_getElem?;intro i;rw[List.getElem?_map,List.getElem?_map];by_cases hi:i<fs.length
    ·rw[Ω hi,List.getElem?_range Nz];have:=(MD.num i _ (Ω hi)).1;show some (fs[i].number)=some _;rw[this]
     congr 1
     lia
    ·rw[List.getElem?_eq_none Nz,List.getElem?_eq_none (by simp;lia)];rfl
  rintro σ DV ⟨rf,tv,rfl,YZ,Vf,Vg,Vh,hc⟩;refine⟨fun σ Hx=>σ=[sR a,sR zb,sR tt,sI M,sR x,u,sI al,sI es.length,v,sR b,sS (gN n y ws ts M al),sR bf,sR hd,sS rf,some tv]∧Hx=DV,?_,?_⟩
  ·refine⟨_,rfl,_,rfl,b,_,2,_,rfl,rfl, .of Vg,aS (j:=2) rfl,hd,w,ws,rfl,Vf,Vh,by lia,_,rfl,?_⟩;refine m_ ?_;refine⟨_,rfl,_,rfl,rfl,_,rfl,?_⟩;refine bQ (fun hh=>absurd hh (by simp[YZ])) (fun _=>⟨rfl,rfl⟩)
  rintro σ DV ⟨rfl,rfl⟩;refine⟨fun σ Hx=>rf≠""∧σ=[sR a,sR zb,sR tt,sI M,sR x,u,sI al,sI es.length,v,sR b,sS (gN n y ws ts M al),sR bf,sR hd,sS rf,some tv]∧Hx=DV,?_,?_⟩
  ·refine⟨_,rfl,rfl,_,rfl,?_⟩;refine bQ (fun hh=>?_) (fun hh=>?_)
   ·have hh:rf="":=by rw[YZ];simpa using hh
    obtain⟨-,fs,l,rfl,hl,RL⟩:=hc.resolve_left fun z=>z.1 hh
    have elw:(ws.map V.str).length=ws.length:=List.length_map ..;have rZ:(al:Int)*(ws.length:Int)=((al*ws.length:Nat):Int):=by rw[Int.natCast_mul]
    have Y0:al≤12:=by
     rw[←uE];have:=Fp z0 bs
     lia
    have E4:al*ws.length≤12*45:=Nat.mul_le_mul Y0 Gj;refine⟨_,rfl,_,rfl,_,rfl,b,_,2,_,rfl,rfl, .of Vg,aS (j:=2) rfl,w,_,rfl, .inl (.of Vh),_,_,rfl,rfl, .inl ⟨by lia,by lia⟩,_,rfl,by lia,by lia,fun R hR=>?_⟩;refine EA (fun i ys bG Hx=>(∃u,bG=[u,sI es.length])∧Hx R=some (.lst ys)∧av DV Hx∧ys=((List.range i).map fun k:Nat=>((es.length:Nat):Int)+1+(k:Int)).map V.int) ⟨⟨_,rfl⟩,af,av.upd hR,rfl⟩ ?_ ?_
    ·rintro i ys bG Hx hi ⟨⟨u,rfl⟩,Ws,Ez,rfl⟩;have hi:i<540:=by
      have:i<((al:Int)*((ws.map V.str).length:Int)).toNat:=hi;rw[elw,rZ]at this
      lia
     refine kR ?_;refine⟨_,rfl,_,_,rfl,rfl,_,rfl,_,_,rfl,rfl,Ws,bR (by rw[List.length_map,List.length_map,List.length_range];lia),⟨_,rfl⟩,af,Ez.eP hR,?_⟩;rw[List.range_succ,List.map_append,List.map_append,Int.zero_add];rfl
    ·rintro ys bG Hx ⟨_,Ws,Ez,rfl⟩;rw[elw,rZ,Int.toNat_natCast,←RL]at Ws;exact⟨l,R,fs,rfl,Ez _ _ hl,Ws,by rw[RL,List.length_map,List.length_range];lia,q _⟩
   ·exact⟨by rw[YZ];simpa using hh,rfl,rfl⟩
  rintro σ DV ⟨U_,rfl,rfl⟩;have J1:=(hc.resolve_right fun z=>U_ z.1).2;have QT:=L9.same J1;have Lf:=J1 _ _ (s9 _ _ U0);have Vi:=J1 _ _ (s9 _ _ rZ);have Vj:=J1 _ _ (s9 _ _ E4);refine⟨fun σ Hx=>σ=[sR a,sR zb,sR tt,sI M,sR x,u,sI al,sI es.length,v,sR b,sS (gN n y ws ts M al),sR bf,sR hd,sS rf,some tv]∧av DV Hx,?_,?_⟩
  ·refine⟨_,rfl,x,dx,_,rfl,QT.ob,rfl,_,x,dx,t,Ov,e,us,bs,rfl,QT.ob,QT.hs,QT.sh,by lia,fun Hx b3 Ez UD Y1=>?_⟩;refine⟨_,rfl,bf,_,0,_,rfl,rfl, .of (Ez _ _ Lf),aS (j:=0) rfl,b3,b1,_,rfl,Y1,Ez _ _ Vi,by rw[List.length_map];lia,_,rfl,?_⟩;refine m_ ?_;refine⟨_,rfl,x,dx,_,rfl,Ez _ _ QT.ob,rfl,_,x,dx,t,Ov,e,us,vs,bs,es,c0,rfl,QT.same Ez,by lia,Ii,hsr,fun fs pm sr H12 b4 Jl hb4 Y2=>?_⟩;rw[hf]at pm;have RL:=Dk pm sr Wl;subst RL;have e4:(fs.map fun e=>V.int e.number)=(fs.map En.number).map V.int:=by rw[List.map_map];rfl
   refine⟨_,rfl,bf,_,2,_,rfl,rfl, .of (Jl _ _ (Ez _ _ Lf)),aS (j:=2) rfl,b4,b2,fs.map En.number,rfl,by rw[Y2,e4],Jl _ _ (Ez _ _ Vj),by rw[List.length_map];lia,_,rfl,?_⟩;exact m_ ⟨rfl,Ez.trans Jl⟩
  rintro σ Hx ⟨rfl,Ez⟩;have QU:=QT.same Ez;have Ow:=Ez _ _ Lf;have vl:=QU.en.1;refine⟨_,rfl,x,dx,_,rfl,QU.ob,rfl,x,dx,t,Ov,e,vs,rfl,QU.ob,QU.he,_,rfl,_,rfl,?_⟩;refine jD ?_;refine⟨_,rfl,x,dx,_,rfl,QU.ob,rfl,x,dx,t,Ov,e,vs,rfl,QU.ob,QU.he,_,rfl,bf,_,1,_,rfl,rfl, .of Ow,aS (j:=1) rfl,rfl,_,rfl,?_⟩;rw[vl];refine bQ (fun _=>?_) (fun hh=>absurd XD hh);refine⟨_,rfl,_,rfl,bf,_,1,_,rfl,rfl, .of Ow,aS (j:=1) rfl,rfl,?_⟩;rw[show decide (V.int (es.length:Int)=V.int (es.length:Int))=true from decide_eq_true rfl];exact q _
end
theorem all_mk{l:W.OpenLaw}{w:World}{K:W.Frag}{h:Heap}{mg:Str→Option Value}{fa:Addr}(X:K.In h)(G:h.Ns mainGlobals mg)(hfa:mg "law"=some (.ref fa))
  {qV ku:Option Addr} {qW:Array (Option Value)} {qY kx ky kz hU kC:Value}
  {hV:Addr} {qZ:Value} {q_:Option Addr} {rg:Nat} {rh:Array (Option Value)} {kD:Tok}
  {rj kF:Option Addr} {rk:Array (Option Value)} {rl kG kI kJ hZ kK:Value}
  {h_:Addr} {rm:Value} {rn:Option Addr} {rp:Nat} {rq:Array (Option Value)}
  {aW:Addr} (AG:N6 K "Terms" aW)
  {aC:Addr} (w9:N6 K "Trails" aC)
  {aT:Addr} (tH:N6 K "Finding" aT)
  {aO:Addr} (w_:N6 K "Groups" aO)
  {aB:Addr} (nH:N6 K "Gathering" aB)
  {aQ:Addr} (AH:N6 K "Entry" aQ)
  {bH:Addr} (FH:N6 K "Book" bH)
  {aE:Addr} (tI:N6 K "Library" aE)
  {kL:Addr} (rz:W.nsIn K mainGlobals "is_small_letter"=some (some (.ref kL)))
  (rA:fU K "is_small_letter" "is_small_letter" gW kL)
  {zr:Addr} (Iv:W.nsIn K mainGlobals "is_word"=some (some (.ref zr)))
  (Iw:fU K "is_word" "is_word" n_ zr)
  {rB:Addr} (AI:W.nsIn K mainGlobals "is_between"=some (some (.ref rB)))
  (AJ:fU K "is_between" "is_between" l0 rB)
  {nI:Addr} (xa:W.nsIn K mainGlobals "check_number"=some (some (.ref nI)))
  (xb:fU K "check_number" "check_number" jI nI)
  {kM:Addr} (rC:W.nsIn K mainGlobals "check_near_form"=some (some (.ref kM)))
  (rD:fU K "check_near_form" "check_near_form" gX kM)
  {oS:Addr} (ye:W.nsIn K mainGlobals "near_prices"=some (some (.ref oS)))
  (yf:fU K "near_prices" "near_prices" iL oS)
  {fZ:Addr} (tJ:W.findIn K (.ref aW) "__init__"=some (some (.ref fZ))) (tK:W.isFn K (.ref fZ)=true)
  (tL:K.lookup fZ=some ⟨qY,qV, .func (W.fnOf "__init__" "Terms.__init__" (fo bY) (d4 bY) (aw bY) (.ref hV) kx ky kz ku hU kC),qW⟩)
  (tM:W.codeIn K hU "Terms.__init__"=true) (tN:W.keepIn K (.ref fZ)=true)
  (rE:K.lookup hV=some ⟨qZ,q_, .seq #[.int 50 kD, .none] rg,rh⟩)
  {gB:Addr} (pJ:W.findIn K (.ref aW) "pair_worth"=some (some (.ref gB))) (pK:W.isFn K (.ref gB)=true)
  (pL:fU K "pair_worth" "Terms.pair_worth" eQ gB)
  {xc:Addr} (FI:W.nsIn K mainGlobals "greatest"=some (some (.ref xc)))
  (FJ:fU K "greatest" "greatest" l5 xc)
  {Lg:Addr} (QV:W.nsIn K mainGlobals "less"=some (some (.ref Lg)))
  (QW:fU K "less" "less" Fq Lg)
  {jQ:Addr} (pM:W.nsIn K mainGlobals "begun_or_gone_on"=some (some (.ref jQ)))
  (pN:fU K "begun_or_gone_on" "begun_or_gone_on" gw jQ)
  {eL:Addr} (lI:W.findIn K (.ref aC) "brought_behind"=some (some (.ref eL))) (lJ:W.isFn K (.ref eL)=true)
  (lK:fU K "brought_behind" "Trails.brought_behind" eA eL)
  {ic:Addr} (rF:W.findIn K (.ref aC) "__init__"=some (some (.ref ic))) (rG:W.isFn K (.ref ic)=true)
  (rH:fU K "__init__" "Trails.__init__" fu ic)
  {iE:Addr} (tO:W.findIn K (.ref aC) "goes_on"=some (some (.ref iE))) (tP:W.isFn K (.ref iE)=true)
  (tQ:fU K "goes_on" "Trails.goes_on" iD iE)
  {e6:Addr} (mC:W.findIn K (.ref aC) "is_brought_by"=some (some (.ref e6))) (mD:W.isFn K (.ref e6)=true)
  (mE:fU K "is_brought_by" "Trails.is_brought_by" eR e6)
  {dE:Addr} (jX:W.findIn K (.ref aC) "crossings_before"=some (some (.ref dE))) (jY:W.isFn K (.ref dE)=true)
  (jZ:fU K "crossings_before" "Trails.crossings_before" dD dE)
  {fQ:Addr} (nJ:W.findIn K (.ref aC) "pair_before"=some (some (.ref fQ))) (nK:W.isFn K (.ref fQ)=true)
  (nL:fU K "pair_before" "Trails.pair_before" fG fQ)
  {jc:Addr} (uO:W.findIn K (.ref aC) "way_to"=some (some (.ref jc))) (uP:W.isFn K (.ref jc)=true)
  (uQ:fU K "way_to" "Trails.way_to" i9 jc)
  {gC:Addr} (pO:W.findIn K (.ref aT) "__init__"=some (some (.ref gC))) (pQ:W.isFn K (.ref gC)=true)
  (pR:fU K "__init__" "Finding.__init__" gy gC)
  {xf:Addr} (FK:W.nsIn K mainGlobals "order_of"=some (some (.ref xf)))
  (FN:fU K "order_of" "order_of" pj xf)
  {nN:Addr} (xg:W.nsIn K mainGlobals "make_finding"=some (some (.ref nN)))
  (xh:fU K "make_finding" "make_finding" fH nN)
  {ie:Addr} (rJ:W.findIn K (.ref aO) "__init__"=some (some (.ref ie))) (rK:W.isFn K (.ref ie)=true)
  (rL:fU K "__init__" "Groups.__init__" gY ie)
  {mF:Addr} (AK:W.findIn K (.ref aO) "has"=some (some (.ref mF))) (AL:W.isFn K (.ref mF)=true)
  (AM:fU K "has" "Groups.has" jn mF)
  {iF:Addr} (tR:W.findIn K (.ref aO) "take_in"=some (some (.ref iF))) (tS:W.isFn K (.ref iF)=true)
  (tT:fU K "take_in" "Groups.take_in" fV iF)
  {jR:Addr} (xi:W.findIn K (.ref aO) "unite"=some (some (.ref jR))) (xj:W.isFn K (.ref jR)=true)
  (xk:fU K "unite" "Groups.unite" fI jR)
  {lh:Addr} (yg:W.findIn K (.ref aO) "told"=some (some (.ref lh))) (yh:W.isFn K (.ref lh)=true)
  (yi:fU K "told" "Groups.told" iM lh)
  {fR:Addr} (nO:W.findIn K (.ref aB) "__init__"=some (some (.ref fR))) (nP:W.isFn K (.ref fR)=true)
  (nQ:fU K "__init__" "Gathering.__init__" fJ fR)
  {iG:Addr} (tU:W.findIn K (.ref aB) "mark"=some (some (.ref iG))) (tV:W.isFn K (.ref iG)=true)
  (tW:fU K "mark" "Gathering.mark" fW iG)
  {gb:Addr} (oJ:W.findIn K (.ref aB) "go_over"=some (some (.ref gb))) (oK:W.isFn K (.ref gb)=true)
  (oM:fU K "go_over" "Gathering.go_over" d5 gb)
  {ig:Addr} (rM:W.findIn K (.ref aB) "visit"=some (some (.ref ig))) (rN:W.isFn K (.ref ig)=true)
  (rO:fU K "visit" "Gathering.visit" fv ig)
  {oT:Addr} (yj:W.nsIn K mainGlobals "best_groups"=some (some (.ref oT)))
  (yk:fU K "best_groups" "best_groups" k8 oT)
  {zt:Addr} (Iy:W.nsIn K mainGlobals "shut_by"=some (some (.ref zt)))
  (IA:fU K "shut_by" "shut_by" oa zt)
  {oU:Addr} (ym:W.nsIn K mainGlobals "open_worths"=some (some (.ref oU)))
  (yn:fU K "open_worths" "open_worths" gf oU)
  {rP:Addr} (AN:W.nsIn K mainGlobals "make_round"=some (some (.ref rP)))
  (AO:fU K "make_round" "make_round" gZ rP)
  {rQ:Addr} (AQ:W.nsIn K mainGlobals "shut_pairs"=some (some (.ref rQ)))
  (AR:fU K "shut_pairs" "shut_pairs" l6 rQ)
  {zu:Addr} (IB:W.nsIn K mainGlobals "compare"=some (some (.ref zu)))
  (IC:fU K "compare" "compare" sY zu)
  {f9:Addr} (tX:W.findIn K (.ref aQ) "__init__"=some (some (.ref f9))) (tY:W.isFn K (.ref f9)=true)
  (tZ:K.lookup f9=some ⟨rl,rj, .func (W.fnOf "__init__" "Entry.__init__" (fo bZ) (d4 bZ) (aw bZ) (.ref h_) kG kI kJ kF hZ kK),rk⟩)
  (t_:W.codeIn K hZ "Entry.__init__"=true) (ua:W.keepIn K (.ref f9)=true)
  (rR:K.lookup h_=some ⟨rm,rn, .seq #[.bool false] rp,rq⟩)
  {xl:Addr} (FO:W.nsIn K mainGlobals "entry_of"=some (some (.ref xl)))
  (FP:fU K "entry_of" "entry_of" px xl)
  {oV:Addr} (yo:W.nsIn K mainGlobals "check_words"=some (some (.ref oV)))
  (yp:fU K "check_words" "check_words" iN oV)
  {jd:Addr} (uR:W.findIn K (.ref bH) "__init__"=some (some (.ref jd))) (uS:W.isFn K (.ref jd)=true)
  (uT:fU K "__init__" "Book.__init__" i_ jd)
  {rS:Addr} (AS:W.nsIn K mainGlobals "check_book"=some (some (.ref rS)))
  (AU:fU K "check_book" "check_book" l7 rS)
  {Dz:Addr} (Lh:W.nsIn K mainGlobals "age_of"=some (some (.ref Dz)))
  (Li:fU K "age_of" "age_of" wO Dz)
  {zv:Addr} (ID:W.nsIn K mainGlobals "rank_of"=some (some (.ref zv)))
  (IE:fU K "rank_of" "rank_of" sZ zv)
  {gD:Addr} (pS:W.findIn K (.ref aE) "__init__"=some (some (.ref gD))) (pT:W.isFn K (.ref gD)=true)
  (pU:fU K "__init__" "Library.__init__" gz gD)
  {je:Addr} (uU:W.findIn K (.ref aE) "books"=some (some (.ref je))) (uV:W.isFn K (.ref je)=true)
  (uW:fU K "books" "Library.books" gj je)
  {jf:Addr} (uX:W.findIn K (.ref aE) "found"=some (some (.ref jf))) (uY:W.isFn K (.ref jf)=true)
  (uZ:fU K "found" "Library.found" ja jf)
  {gE:Addr} (pV:W.findIn K (.ref aE) "standing"=some (some (.ref gE))) (pW:W.isFn K (.ref gE)=true)
  (pX:fU K "standing" "Library.standing" eU gE)
  {iH:Addr} (ub:W.findIn K (.ref aE) "listed"=some (some (.ref iH))) (uc:W.isFn K (.ref iH)=true)
  (ud:fU K "listed" "Library.listed" fX iH)
  {e7:Addr} (mG:W.findIn K (.ref aE) "entries_with"=some (some (.ref e7))) (mH:W.isFn K (.ref e7)=true)
  (mI:fU K "entries_with" "Library.entries_with" eV e7)
  {jS:Addr} (xm:W.findIn K (.ref aE) "come"=some (some (.ref jS))) (xn:W.isFn K (.ref jS)=true)
  (xo:fU K "come" "Library.come" g0 jS)
  {zw:Addr} (IF:W.nsIn K mainGlobals "_law_at"=some (some (.ref zw)))
  (IG:fU K "_law_at" "_law_at" s_ zw)
  {rT:Addr} (AV:W.nsIn K mainGlobals "_law_whole"=some (some (.ref rT)))
  (AW:fU K "_law_whole" "_law_whole" l8 rT)
  {ux:Addr} (DA:W.nsIn K mainGlobals "_law_bank"=some (some (.ref ux)))
  (DB:fU K "_law_bank" "_law_bank" nC ux)
  {xp:Addr} (FQ:W.nsIn K mainGlobals "_law_row"=some (some (.ref xp)))
  (FR:fU K "_law_row" "_law_row" pz xp)
  {rV:Addr} (AX:W.nsIn K mainGlobals "_law_texts"=some (some (.ref rV)))
  (AY:fU K "_law_texts" "_law_texts" l_ rV)
  {uy:Addr} (DC:W.nsIn K mainGlobals "_law_kind"=some (some (.ref uy)))
  (DD:fU K "_law_kind" "_law_kind" nE uy)
  {oW:Addr} (yq:W.nsIn K mainGlobals "_law_titles"=some (some (.ref oW)))
  (yr:fU K "_law_titles" "_law_titles" k_ oW)
  {oX:Addr} (aaC:W.nsIn K mainGlobals "_law_wordly"=some (some (.ref oX)))
  (yu:fU K "_law_wordly" "_law_wordly" la oX)
  {xq:Addr} (FT:W.nsIn K mainGlobals "_law_due"=some (some (.ref xq)))
  (FU:fU K "_law_due" "_law_due" l' xq)
  {nS:Addr} (xr:W.nsIn K mainGlobals "_law_book_of"=some (some (.ref nS)))
  (xt:fU K "_law_book_of" "_law_book_of" g6 nS)
  {uz:Addr} (DE:W.nsIn K mainGlobals "_law_come"=some (some (.ref uz)))
  (DF:fU K "_law_come" "_law_come" nF uz)
  {Ox:Addr} (Vk:W.nsIn K mainGlobals "law"=some (some (.ref Ox)))
  (Vl:fU K "law" "law" qz Ox)
  (Tc:Kf K aW)
  (Rc:GF K aC)
  (Fc:N1 K aT)
  (Gc:T8 K aO)
  (Hc:N5 K aB)
  (Ec:Uo K aQ)
  (Bc:N_ K bH)
  (Lc:Up K aE)
  (zz:TZ K)
  {DG:Tok} (DH:W.nsIn K mainGlobals "WORD_MOST"=some (some (.int 12 DG)))
  {AZ:Tok} (A0:W.nsIn K mainGlobals "WORTH_MOST"=some (some (.int 999999 AZ)))
  {DI:Tok} (DJ:W.nsIn K mainGlobals "NEAR_MOST"=some (some (.int 60 DI)))
  {DK:Tok} (DL:W.nsIn K mainGlobals "PART_MOST"=some (some (.int 100 DK)))
  {u0:Tok} (u7:W.nsIn K mainGlobals "FINDINGS_MOST"=some (some (.int 20 u0)))
  {DM:Tok} (DN:W.nsIn K mainGlobals "BOOK_MOST"=some (some (.int 40 DM)))
  {A1:Tok} (A2:W.nsIn K mainGlobals "BOOKS_MOST"=some (some (.int 12 A1)))
  {DO:Tok} (DP:W.nsIn K mainGlobals "YEAR_MOST"=some (some (.int 9999 DO)))
  {bB:Addr} (A3:C9 K "QuoteError" bB)
  {aI:Addr} (IH:C9 K "BadWord" aI)
  {aL:Addr} (II:C9 K "BadBook" aL)
  {aZ:Addr} (FV:C9 K "BadTerms" aZ)
  {a_:Addr} (IJ:C9 K "BadNear" a_)
  {bL:Addr} (Lj:C9 K "BadWay" bL)
  {aM:Addr} (IK:C9 K "BadName" aM)
  {aN:Addr} (IL:C9 K "BadYear" aN)
  {aD:Addr} (DQ:C9 K "NameTaken" aD)
  {bx:Addr} (QX:C9 K "Full" bx)
  {aJ:Addr} (IM:C9 K "TooMany" aJ)
  {bM:Addr} (Lk:C9 K "NoBook" bM)
  {bb:Addr} (DR:C9 K "NoFinding" bb)
  {bA:Addr} (IP:C9 K "HasLeft" bA)
  {bg:Addr} (DS:C9 K "BadSearch" bg)
  (FW:W.nsIn K mainGlobals "reversed"=some none)
  (Ll:W.nsIn K mainGlobals "sorted"=some none)
  (my:W.mroIn K aJ (.ref bB)=some true)
  (A4:W.kitOne K (.ref aJ) (.ref aI)=some false)
  (A5:W.kitOne K (.ref aJ) (.ref aL)=some false)
  (A6:W.kitOne K (.ref aJ) (.ref aZ)=some false)
  (A7:W.kitOne K (.ref aJ) (.ref a_)=some false)
  (A8:W.kitOne K (.ref aJ) (.ref bL)=some false)
  (A9:W.kitOne K (.ref aJ) (.ref aM)=some false)
  (A_:W.kitOne K (.ref aJ) (.ref aN)=some false)
  (Ba:W.kitOne K (.ref aJ) (.ref aD)=some false)
  (Bb:W.kitOne K (.ref aJ) (.ref bx)=some false)
  (Bd:W.kitOne K (.ref aJ) (.ref aJ)=some true)
  (yv:W.kitOne K (.ref aJ) (.ref bM)=some false)
  (yw:W.kitOne K (.ref aJ) (.ref bb)=some false)
  (yx:W.kitOne K (.ref aJ) (.ref bA)=some false)
  (yy:W.kitOne K (.ref aJ) (.ref bg)=some false)
  (Be:W.kitOne K (.ref aJ) (.type "ValueError")=some true)
  (mj:W.mroIn K aI (.ref bB)=some true)
  (Bf:W.kitOne K (.ref aI) (.ref aI)=some true)
  (Bg:W.kitOne K (.ref aI) (.ref aL)=some false)
  (Bh:W.kitOne K (.ref aI) (.ref aZ)=some false)
  (Bi:W.kitOne K (.ref aI) (.ref a_)=some false)
  (Bj:W.kitOne K (.ref aI) (.ref bL)=some false)
  (Bl:W.kitOne K (.ref aI) (.ref aM)=some false)
  (Bm:W.kitOne K (.ref aI) (.ref aN)=some false)
  (Bn:W.kitOne K (.ref aI) (.ref aD)=some false)
  (Bo:W.kitOne K (.ref aI) (.ref bx)=some false)
  (Bp:W.kitOne K (.ref aI) (.ref aJ)=some false)
  (yz:W.kitOne K (.ref aI) (.ref bM)=some false)
  (yA:W.kitOne K (.ref aI) (.ref bb)=some false)
  (yB:W.kitOne K (.ref aI) (.ref bA)=some false)
  (yC:W.kitOne K (.ref aI) (.ref bg)=some false)
  (Br:W.kitOne K (.ref aI) (.type "ValueError")=some true)
  (mn:W.mroIn K aL (.ref bB)=some true)
  (Bs:W.kitOne K (.ref aL) (.ref aI)=some false)
  (Bt:W.kitOne K (.ref aL) (.ref aL)=some true)
  (Bu:W.kitOne K (.ref aL) (.ref aZ)=some false)
  (Bv:W.kitOne K (.ref aL) (.ref a_)=some false)
  (Bw:W.kitOne K (.ref aL) (.ref bL)=some false)
  (Bx:W.kitOne K (.ref aL) (.ref aM)=some false)
  (By:W.kitOne K (.ref aL) (.ref aN)=some false)
  (Bz:W.kitOne K (.ref aL) (.ref aD)=some false)
  (BB:W.kitOne K (.ref aL) (.ref bx)=some false)
  (BC:W.kitOne K (.ref aL) (.ref aJ)=some false)
  (yD:W.kitOne K (.ref aL) (.ref bM)=some false)
  (yE:W.kitOne K (.ref aL) (.ref bb)=some false)
  (yF:W.kitOne K (.ref aL) (.ref bA)=some false)
  (yG:W.kitOne K (.ref aL) (.ref bg)=some false)
  (BD:W.kitOne K (.ref aL) (.type "ValueError")=some true)
  (mw:W.mroIn K aM (.ref bB)=some true)
  (BE:W.kitOne K (.ref aM) (.ref aI)=some false)
  (BF:W.kitOne K (.ref aM) (.ref aL)=some false)
  (BG:W.kitOne K (.ref aM) (.ref aZ)=some false)
  (BH:W.kitOne K (.ref aM) (.ref a_)=some false)
  (BI:W.kitOne K (.ref aM) (.ref bL)=some false)
  (BJ:W.kitOne K (.ref aM) (.ref aM)=some true)
  (BK:W.kitOne K (.ref aM) (.ref aN)=some false)
  (BL:W.kitOne K (.ref aM) (.ref aD)=some false)
  (BM:W.kitOne K (.ref aM) (.ref bx)=some false)
  (BN:W.kitOne K (.ref aM) (.ref aJ)=some false)
  (yH:W.kitOne K (.ref aM) (.ref bM)=some false)
  (yI:W.kitOne K (.ref aM) (.ref bb)=some false)
  (yJ:W.kitOne K (.ref aM) (.ref bA)=some false)
  (yK:W.kitOne K (.ref aM) (.ref bg)=some false)
  (BQ:W.kitOne K (.ref aM) (.type "ValueError")=some true)
  (mx:W.mroIn K aN (.ref bB)=some true)
  (BR:W.kitOne K (.ref aN) (.ref aI)=some false)
  (BS:W.kitOne K (.ref aN) (.ref aL)=some false)
  (BU:W.kitOne K (.ref aN) (.ref aZ)=some false)
  (BV:W.kitOne K (.ref aN) (.ref a_)=some false)
  (BX:W.kitOne K (.ref aN) (.ref bL)=some false)
  (BY:W.kitOne K (.ref aN) (.ref aM)=some false)
  (B5:W.kitOne K (.ref aN) (.ref aN)=some true)
  (B6:W.kitOne K (.ref aN) (.ref aD)=some false)
  (B7:W.kitOne K (.ref aN) (.ref bx)=some false)
  (B8:W.kitOne K (.ref aN) (.ref aJ)=some false)
  (yL:W.kitOne K (.ref aN) (.ref bM)=some false)
  (yM:W.kitOne K (.ref aN) (.ref bb)=some false)
  (yN:W.kitOne K (.ref aN) (.ref bA)=some false)
  (yO:W.kitOne K (.ref aN) (.ref bg)=some false)
  (B9:W.kitOne K (.ref aN) (.type "ValueError")=some true)
  (ju:W.mroIn K aD (.ref bB)=some true)
  (xu:W.kitOne K (.ref aD) (.ref aI)=some false)
  (xv:W.kitOne K (.ref aD) (.ref aL)=some false)
  (xw:W.kitOne K (.ref aD) (.ref aZ)=some false)
  (xx:W.kitOne K (.ref aD) (.ref a_)=some false)
  (xy:W.kitOne K (.ref aD) (.ref bL)=some false)
  (xA:W.kitOne K (.ref aD) (.ref aM)=some false)
  (xB:W.kitOne K (.ref aD) (.ref aN)=some false)
  (xC:W.kitOne K (.ref aD) (.ref aD)=some true)
  (xD:W.kitOne K (.ref aD) (.ref bx)=some false)
  (xE:W.kitOne K (.ref aD) (.ref aJ)=some false)
  (u9:W.kitOne K (.ref aD) (.ref bM)=some false)
  (u_:W.kitOne K (.ref aD) (.ref bb)=some false)
  (va:W.kitOne K (.ref aD) (.ref bA)=some false)
  (vc:W.kitOne K (.ref aD) (.ref bg)=some false)
  (xF:W.kitOne K (.ref aD) (.type "ValueError")=some true)
  (vw:W.mroIn K bx (.ref bB)=some true)
  (IQ:W.kitOne K (.ref bx) (.ref aI)=some false)
  (IS:W.kitOne K (.ref bx) (.ref aL)=some false)
  (IU:W.kitOne K (.ref bx) (.ref aZ)=some false)
  (IV:W.kitOne K (.ref bx) (.ref a_)=some false)
  (IW:W.kitOne K (.ref bx) (.ref bL)=some false)
  (IX:W.kitOne K (.ref bx) (.ref aM)=some false)
  (IY:W.kitOne K (.ref bx) (.ref aN)=some false)
  (IZ:W.kitOne K (.ref bx) (.ref aD)=some false)
  (I_:W.kitOne K (.ref bx) (.ref bx)=some true)
  (Ja:W.kitOne K (.ref bx) (.ref aJ)=some false)
  (FX:W.kitOne K (.ref bx) (.ref bM)=some false)
  (FY:W.kitOne K (.ref bx) (.ref bb)=some false)
  (FZ:W.kitOne K (.ref bx) (.ref bA)=some false)
  (F0:W.kitOne K (.ref bx) (.ref bg)=some false)
  (Jb:W.kitOne K (.ref bx) (.type "ValueError")=some true)
  :∃fd:FuncData,(∀(s:Shared)(v:Value),BindsTo s fd ⟨[v],[]⟩ [("_law_script",v)])∧∀base:Heap,K.In base→base.Ns mainGlobals mg→bE l.prog w K mg base (de l.prog w) true 14 fa fd ["_law_script"] (Gs K):=by
 have e:=hfa.symm.trans (W.mg_of X G Vk);cases e;have T:=zz.tb X G;have fK:Cs mg "WORD_MOST" (.int 12):=⟨_,W.mg_of X G DH,_,rfl⟩
 have cB:Cs mg "WORTH_MOST" (.int 999999):=⟨_,W.mg_of X G A0,_,rfl⟩
 have i6:Cs mg "NEAR_MOST" (.int 60):=⟨_,W.mg_of X G DJ,_,rfl⟩
 have ka:Cs mg "PART_MOST" (.int 100):=⟨_,W.mg_of X G DL,_,rfl⟩
 have e8:Cs mg "FINDINGS_MOST" (.int 20):=⟨_,W.mg_of X G u7,_,rfl⟩
 have i7:Cs mg "BOOK_MOST" (.int 40):=⟨_,W.mg_of X G DN,_,rfl⟩
 have c7:Cs mg "BOOKS_MOST" (.int 12):=⟨_,W.mg_of X G A2,_,rfl⟩
 have dR:Cs mg "YEAR_MOST" (.int 9999):=⟨_,W.mg_of X G DP,_,rfl⟩
 have g_:=A3.er X G;have dj:=IH.er X G;have eJ:=II.er X G;have fL:=FV.er X G;have cf:=IJ.er X G;have qR:=Lj.er X G;have eG:=IK.er X G;have eI:=IL.er X G;have cT:=DQ.er X G;have jN:=QX.er X G;have eF:=IM.er X G;have qS:=Lk.er X G;have kc:=DR.er X G;have ou:=IP.er X G;have ke:=DS.er X G;have aaL:mg "reversed"=none:=W.mg_none_of X G FW;have cX:mg "sorted"=none:=W.mg_none_of X G Ll;have ko:Fits K aJ [aI,aL,aZ,a_,bL,aM,aN,aD,bx,aJ,bM,bb,bA,bg] 9:=Fits.mk A4 A5 A6 A7 A8 A9 A_ Ba Bb Bd yv yw yx yy Be;have kh:Fits K aI [aI,aL,aZ,a_,bL,aM,aN,aD,bx,aJ,bM,bb,bA,bg] 0:=Fits.mk Bf Bg Bh Bi Bj Bl Bm Bn Bo Bp yz yA yB yC Br;have ki:Fits K aL [aI,aL,aZ,a_,bL,aM,aN,aD,bx,aJ,bM,bb,bA,bg] 1:=Fits.mk Bs Bt Bu Bv Bw Bx By Bz BB BC yD yE yF yG BD;have kj:Fits K aM [aI,aL,aZ,a_,bL,aM,aN,aD,bx,aJ,bM,bb,bA,bg] 5:=Fits.mk BE BF BG BH BI BJ BK BL BM BN yH yI yJ yK BQ;have kn:Fits K aN [aI,aL,aZ,a_,bL,aM,aN,aD,bx,aJ,bM,bb,bA,bg] 6:=Fits.mk BR BS BU BV BX BY B5 B6 B7 B8 yL yM yN yO B9;have iU:Fits K aD [aI,aL,aZ,a_,bL,aM,aN,aD,bx,aJ,bM,bb,bA,bg] 7:=Fits.mk xu xv xw xx xy xA xB xC xD xE u9 u_ va vc xF;have qT:Fits K bx [aI,aL,aZ,a_,bL,aM,aN,aD,bx,aJ,bM,bb,bA,bg] 8:=Fits.mk IQ IS IU IV IW IX IY IZ I_ Ja FX FY FZ F0 Jb;obtain @⟨_,k1,k2,k3,k4,k5,_,k6,_,l9,c9,k9⟩:=Vl;refine⟨W.fnOf "law" "law" (fo qz) (d4 qz) (aw qz) .none k1 k2 k3 k6 k4 k5,fun s v=> .of_eq rfl,fun base _ _=>?_⟩;have fz:=rA.df X G rz (fun _ F=>pB (P:=l.prog) (w:=w) (base:=base) T F) (Ce fun _ _ _ _ _ _ _=>rfl);have eD:=Iw.df X G Iv (fun _ F=>Ft (P:=l.prog) (w:=w) (base:=base) T fK fz F) (Ce fun _ _ _ _ _ _ _=>rfl);have eW:=AJ.df X G AI (fun _ F=>xV (P:=l.prog) (w:=w) (base:=base) T F) (C8 fun _ _ _ _ _ _ _ _ _=>rfl);have cS:=xb.df X G xa (fun _ F=>uH (P:=l.prog) (w:=w) (base:=base) T eW fL F) (Uj fun _ _ _ _ _ _ _ _ _ _=>rfl);have fA:=rD.df X G rC (fun _ F=>pD (P:=l.prog) (w:=w) (base:=base) T eW cB eD cf F) (C8 fun _ _ _ _ _ _ _ _ _=>rfl);have iO:=yf.df X G ye (fun _ F=>wQ (P:=l.prog) (w:=w) (base:=base) T cf i6 fA F) (Ce fun _ _ _ _ _ _ _=>rfl);have ue:=zT (st:=bY) tL tM tN;have uf:=qB (P:=l.prog) (w:=w) (base:=base) T cB ka cS iO Tc ue;have F2:Binds K (W.fnOf "__init__" "Terms.__init__" (fo bY) (d4 bY) (aw bY) (.ref hV) kx ky kz ku hU kC) ["self","same","out","into","least","part","near"] [.int 50 kD, .none]:=fun s us hK hl=>by
  obtain⟨_,_,_,_,_,rfl⟩:=QF.XJ us (by simpa using hl);exact BindsTo.of_defaults rfl (hK _ _ rE) rfl rfl rfl
 have qU:j5 l.prog w K mg base true 5 "Terms" aW ["self","same","out","into","least","part","near"] [.int 50, .cF] (vj aW aZ a_):=vP uf ⟨AG.b,tJ,tK,AG.c⟩ (W.mg_of X G AG.a) F2 (.cons ⟨_,rfl⟩ (.cons rfl .nil));have eY:=pL.mt Tc.cl pJ pK (fun _ F=>oz (P:=l.prog) (w:=w) (base:=base) T Tc F) (C8 fun _ _ _ _ _ _ _ _ _=>rfl);have fN:=FJ.df X G FI (fun _ F=>Dn (P:=l.prog) (w:=w) (base:=base) T F) (Ce fun _ _ _ _ _ _ _=>rfl);have ma:=QW.df X G QV (fun _ F=>Nb (P:=l.prog) (w:=w) (base:=base) T F) (C7 fun _ _ _ _ _ _ _ _=>rfl);have eX:=pN.df X G pM (fun _ F=>oB (P:=l.prog) (w:=w) (base:=base) T F) (C7 fun _ _ _ _ _ _ _ _=>rfl);have cU:=lK.mt Rc.cl lI lJ (fun _ F=>lb (P:=l.prog) (w:=w) (base:=base) T fN ma Rc F) (C8 fun _ _ _ _ _ _ _ _ _=>rfl);have om:=rH.nw (W.mg_of X G w9.a) w9.b w9.c rF rG (fun _ F=>pE (P:=l.prog) (w:=w) (base:=base) T Tc Rc eX cU F) (C8 fun _ _ _ _ _ _ _ _ _=>rfl);have cJ:=tQ.mt Rc.cl tO tP (fun _ F=>qD (P:=l.prog) (w:=w) (base:=base) T Rc F) (C7 fun _ _ _ _ _ _ _ _=>rfl);have bT:=mE.mt Rc.cl mC mD (fun _ F=>lF (P:=l.prog) (w:=w) (base:=base) T Rc F) (C8 fun _ _ _ _ _ _ _ _ _=>rfl);have bF:=jZ.mt Rc.cl jX jY (fun _ F=>jJ (P:=l.prog) (w:=w) (base:=base) T ma Rc F) (C7 fun _ _ _ _ _ _ _ _=>rfl);have dQ:=nL.mt Rc.cl nJ nK (fun _ F=>mQ (P:=l.prog) (w:=w) (base:=base) T Rc bT bF F) (C7 fun _ _ _ _ _ _ _ _=>rfl);have gk:=uQ.mt Rc.cl uO uP (fun _ F=>tm (P:=l.prog) (w:=w) (base:=base) T Rc cJ dQ F) (C7 fun _ _ _ _ _ _ _ _=>rfl);have me:=pR.nw (W.mg_of X G tH.a) tH.b tH.c pO pQ (fun _ F=>oE (P:=l.prog) (w:=w) (base:=base) T Fc F) (bn5 fun _ _ _ _ _ _ _ _ _ _ _=>rfl);have mf:=FN.df X G FK (fun _ F=>Dr (P:=l.prog) (w:=w) (base:=base) T Fc F) (Ce fun _ _ _ _ _ _ _=>rfl);have g8:=xh.df X G xg (fun _ F=>uJ (P:=l.prog) (w:=w) (base:=base) T Rc gk me F) (C8 fun _ _ _ _ _ _ _ _ _=>rfl);have oh:=rL.nw (W.mg_of X G w_.a) w_.b w_.c rJ rK (fun _ F=>pG (P:=l.prog) (w:=w) (base:=base) T Gc F) (Ce fun _ _ _ _ _ _ _=>rfl);have jo:=AM.mt Gc.cl AK AL (fun _ F=>aaB (P:=l.prog) (w:=w) (base:=base) T Gc F) (C7 fun _ _ _ _ _ _ _ _=>rfl);have cK:=tT.mt Gc.cl tR tS (fun _ F=>qG (P:=l.prog) (w:=w) (base:=base) T Gc F) (C7 fun _ _ _ _ _ _ _ _=>rfl);have dw:=xk.mt Gc.cl xi xj (fun _ F=>uK (P:=l.prog) (w:=w) (base:=base) T Gc F) (C8 fun _ _ _ _ _ _ _ _ _=>rfl);have iP:=yi.mt Gc.cl yg yh (fun _ F=>wU (P:=l.prog) (w:=w) (base:=base) T Gc cX F) (Ce fun _ _ _ _ _ _ _=>rfl);have jq:=nQ.nw (W.mg_of X G nH.a) nH.b nH.c nO nP (fun _ F=>mS (P:=l.prog) (w:=w) (base:=base) T oh Hc F) (C8 fun _ _ _ _ _ _ _ _ _=>rfl);have cL:=tW.mt Hc.cl tU tV (fun _ F=>qI (P:=l.prog) (w:=w) (base:=base) T Hc dw F) (C8 fun _ _ _ _ _ _ _ _ _=>rfl);have d6:=oM.mt Hc.cl oJ oK (fun _ F=>nG (P:=l.prog) (w:=w) (base:=base) T bT bF Hc dw cK cL F) (C8 fun _ _ _ _ _ _ _ _ _=>rfl);have fB:=rO.mt Hc.cl rM rN (fun _ F=>pH (P:=l.prog) (w:=w) (base:=base) T Rc cJ Hc cK cL jo d6 F) (C8 fun _ _ _ _ _ _ _ _ _=>rfl);have iQ:=yk.df X G yj (fun _ F=>wV (P:=l.prog) (w:=w) (base:=base) T Rc Hc jq fB iP F) (C7 fun _ _ _ _ _ _ _ _=>rfl);have oj:=IA.df X G Iy (fun _ F=>Fx (P:=l.prog) (w:=w) (base:=base) T F) (Ce fun _ _ _ _ _ _ _=>rfl);have iS:=yn.df X G ym (fun _ F=>wW (P:=l.prog) (w:=w) (base:=base) T Tc oj eY F) (Uj fun _ _ _ _ _ _ _ _ _ _=>rfl);have g9:=AO.df X G AN (fun _ F=>xY (P:=l.prog) (w:=w) (base:=base) T Tc fN Rc om iQ g8 F) (C7 fun _ _ _ _ _ _ _ _=>rfl);have jr:=AR.df X G AQ (fun _ F=>xZ (P:=l.prog) (w:=w) (base:=base) T Fc F) (C7 fun _ _ _ _ _ _ _ _=>rfl);have ot:=IC.df X G IB (fun _ F=>Fy (P:=l.prog) (w:=w) (base:=base) T cX e8 iS g9 jr mf eF F) (C8 fun _ _ _ _ _ _ _ _ _=>rfl);have uh:=zT (st:=bZ) tZ t_ ua;have ui:=qK (P:=l.prog) (w:=w) (base:=base) T Ec uh;have F3:Binds K (W.fnOf "__init__" "Entry.__init__" (fo bZ) (d4 bZ) (aw bZ) (.ref h_) kG kI kJ kF hZ kK) ["self","number","older","newer","worth","way","row","pairs","left"] [.bool false]:=fun s us hK hl=>by
  obtain⟨_,_,_,_,_,_,_,_,rfl⟩:=QF.XQ us (by simpa using hl);exact BindsTo.of_defaults rfl (hK _ _ rR) rfl rfl rfl
 have qL:j5 l.prog w K mg base true 1 "Entry" aQ ["self","number","older","newer","worth","way","row","pairs","left"] [.bl false] (qx aQ):=vP ui ⟨AH.b,tX,tY,AH.c⟩ (W.mg_of X G AH.a) F3 (.cons rfl .nil);have mh:=FP.df X G FO (fun _ F=>Du (P:=l.prog) (w:=w) (base:=base) T Fc qL F) (Uj fun _ _ _ _ _ _ _ _ _ _=>rfl);have iT:=yp.df X G yo (fun _ F=>wZ (P:=l.prog) (w:=w) (base:=base) T fK eD dj F) (Ce fun _ _ _ _ _ _ _=>rfl);have vt:=uT.nw (W.mg_of X G FH.a) FH.b FH.c uR uS (fun _ F=>tw (P:=l.prog) (w:=w) (base:=base) T Bc F) (Uj fun _ _ _ _ _ _ _ _ _ _=>rfl);have jt:=AU.df X G AS (fun _ F=>ya (P:=l.prog) (w:=w) (base:=base) T eD dj dR i7 iT eG eI eJ F) (C8 fun _ _ _ _ _ _ _ _ _=>rfl);have jM:=Li.df X G Lh (fun _ F=>Iq (P:=l.prog) (w:=w) (base:=base) T Bc F) (Ce fun _ _ _ _ _ _ _=>rfl);have oq:=IE.df X G ID (fun _ F=>FA (P:=l.prog) (w:=w) (base:=base) T Ec F) (Ce fun _ _ _ _ _ _ _=>rfl);have mz:=pU.nw (W.mg_of X G tI.a) tI.b tI.c pS pT (fun _ F=>oG (P:=l.prog) (w:=w) (base:=base) T Lc F) (C7 fun _ _ _ _ _ _ _ _=>rfl);have cD:=uW.mt Lc.cl uU uV (fun _ F=>tE (P:=l.prog) (w:=w) (base:=base) T Bc Lc F) (Ce fun _ _ _ _ _ _ _=>rfl);have dG:=uZ.mt Lc.cl uX uY (fun _ F=>tG (P:=l.prog) (w:=w) (base:=base) T Lc F) (Ce fun _ _ _ _ _ _ _=>rfl);have eZ:=pX.mt Lc.cl pV pW (fun _ F=>oI (P:=l.prog) (w:=w) (base:=base) T Tc Ec Bc Lc F) (Ce fun _ _ _ _ _ _ _=>rfl);have eK:=ud.mt Lc.cl ub uc (fun _ F=>qQ (P:=l.prog) (w:=w) (base:=base) T cX Ec Lc oq eZ F) (Ce fun _ _ _ _ _ _ _=>rfl);have c8:=mI.mt Lc.cl mG mH (fun _ F=>lH (P:=l.prog) (w:=w) (base:=base) T cX Bc Lc jM ot mh F) (C7 fun _ _ _ _ _ _ _ _=>rfl);have dz:=xo.mt Lc.cl xm xn (fun _ F=>uL (P:=l.prog) (w:=w) (base:=base) T cX Ec Bc Lc jM c7 vt jt cD c8 cT jN F) (Uj fun _ _ _ _ _ _ _ _ _ _=>rfl);have bN:=IG.df X G IF (fun _ F=>FG (P:=l.prog) (w:=w) (base:=base) T F) (C7 fun _ _ _ _ _ _ _ _=>rfl);have c_:=AW.df X G AV (fun _ F=>yc (P:=l.prog) (w:=w) (base:=base) T F) (Ce fun _ _ _ _ _ _ _=>rfl);have kq:=DB.df X G DA (fun _ F=>AD (P:=l.prog) (w:=w) (base:=base) T F) (C8 fun _ _ _ _ _ _ _ _ _=>rfl);have jP:=FR.df X G FQ (fun _ F=>Dw (P:=l.prog) (w:=w) (base:=base) T c_ F) (C7 fun _ _ _ _ _ _ _ _=>rfl);have hJ:=AY.df X G AX (fun _ F=>yd (P:=l.prog) (w:=w) (base:=base) T F) (C7 fun _ _ _ _ _ _ _ _=>rfl);have kg:=DD.df X G DC (fun _ F=>AE (P:=l.prog) (w:=w) (base:=base) T fL cf eF dj eG eI eJ cT jN qR qS kc ou ke F) (Ce fun _ _ _ _ _ _ _=>rfl);have iV:=yr.df X G yq (fun _ F=>w6 (P:=l.prog) (w:=w) (base:=base) T F) (C7 fun _ _ _ _ _ _ _ _=>rfl);have gg:=yu.df X G aaC (fun _ F=>w8 (P:=l.prog) (w:=w) (base:=base) T F) (Ce fun _ _ _ _ _ _ _=>rfl);have mB:=FU.df X G FT (fun _ F=>Dy (P:=l.prog) (w:=w) (base:=base) T gg F) (bn6 fun _ _ _ _ _ _ _ _ _ _ _ _=>rfl);have hG:=xt.df X G xr (fun _ F=>uN (P:=l.prog) (w:=w) (base:=base) T bN F) (C8 fun _ _ _ _ _ _ _ _ _=>rfl);have kr:=DF.df X G DE (fun _ F=>AF (P:=l.prog) (w:=w) (base:=base) T eF dj eG eI eJ Lc cT jN dz kg g_ mj kh mn ki mw kj mx kn ju iU vw qT my ko F) (C8 fun _ _ _ _ _ _ _ _ _=>rfl);exact QR T Tc dR Lc c7 cD c_ bN dz kq iV mz qU hG mB dG eK kr hJ jP (JT (st:=qz) l9 c9 k9)
theorem walk{l:W.OpenLaw}{q:Program}{loose:List Str}{XP:(Str→Option Value)→Heap→Prop}{YP:World→Heap→Prop}{d:DefRec}{K:Params→W.Frag}(hn:l.most=some 63)(SJ:d.params.defaults=[])
  (hY:∀(w:World)(h:Heap),YP w h→(K w.params).In h)
  (F:∀(w:World)(mg:Str→Option Value)(fa:Addr)(h:Heap),(K w.params).In h→h.Ns mainGlobals mg→mg d.name=some (.ref fa)→
   ∃fd:FuncData,(∀(s:Shared)(u:Value),BindsTo s fd ⟨[u],[]⟩ [("_law_script",u)])∧∀base:Heap,(K w.params).In base→base.Ns mainGlobals mg→bE l.prog w (K w.params) mg base (de l.prog w) true 14 fa fd ["_law_script"] (Gs (K w.params))):
  W.WalkO q loose XP YP l.row.toRowW d [] (fun f vs=>PySem.call f vs):=
 L2.Mc (n:=63) (k:=14) (x:="_law_script") (CX:=fun w=>de l.prog w) (sp:=fun w=>Gs (K w.params)) hn Ε SJ ⟨(fun _=>rfl),QY,QY⟩ hY F (fun _ _ a ns hl _ hS=>⟨a,ns,rfl,hS,hl,fun _=>rfl⟩) fun _ _ _ _ _ z=>by obtain⟨_,_,_,_,_,_,_,_,_,_,_,_,_,z⟩:=z;exact z
end XS
open PySem PySem.W PyProof.Rows
set_option maxRecDepth 100000 in
set_option maxHeartbeats 0 in
theorem PySem.Challenge.cw_quotefind_k30_coming_refused_holds : PySem.Challenge.rw_quotefind_k30_coming_refused.Holds := by
 w_on;refine holds_law HD.ws fun said=>?_;k_head
 (case hw=>w_witness2)
 refine XS.walk (l:=PySem.Challenge.rw_quotefind_k30_coming_refused) rfl rfl (fun w h Y=>PySem.W.kIn_of Y) ?F
 case F=>
  intro w mg fa h KX G SK
  refine' XS.all_mk KX G SK ?_ ?_ ?_ ?_ ?_ ?_ ?_ ?_ ?_ ?_ ?_ ?_ ?_ ?_ ?_ ?_ ?_ ?_ ?_ ?_ ?_ ?_ ?_ ?_ ?_ ?_ ?_ ?_ ?_ ?_ ?_ ?_ ?_ ?_ ?_ ?_ ?_ ?_ ?_ ?_ ?_ ?_ ?_ ?_ ?_ ?_ ?_ ?_ ?_ ?_ ?_ ?_ ?_ ?_ ?_ ?_ ?_ ?_ ?_ ?_ ?_ ?_ ?_ ?_ ?_ ?_ ?_ ?_ ?_ ?_ ?_ ?_ ?_ ?_ ?_ ?_ ?_ ?_ ?_ ?_ ?_ ?_ ?_ ?_ ?_ ?_ ?_ ?_ ?_ ?_ ?_ ?_ ?_ ?_ ?_ ?_ ?_ ?_ ?_ ?_ ?_ ?_ ?_ ?_ ?_ ?_ ?_ ?_ ?_ ?_ ?_ ?_ ?_ ?_ ?_ ?_ ?_ ?_ ?_ ?_ ?_ ?_ ?_ ?_ ?_ ?_ ?_ ?_ ?_ ?_ ?_ ?_ ?_ ?_ ?_ ?_ ?_ ?_ ?_ ?_ ?_ ?_ ?_ ?_ ?_ ?_ ?_ ?_ ?_ ?_ ?_ ?_ ?_ ?_ ?_ ?_ ?_ ?_ ?_ ?_ ?_ ?_ ?_ ?_ ?_ ?_ ?_ ?_ ?_ ?_ ?_ ?_ ?_ ?_ ?_ ?_ ?_ ?_ ?_ ?_ ?_ ?_ ?_ ?_ ?_ ?_ ?_ ?_ ?_ ?_ ?_ ?_ ?_ ?_ ?_ ?_ ?_ ?_ ?_ ?_ ?_ ?_ ?_ ?_ ?_ ?_ ?_ ?_ ?_ ?_ ?_ ?_ ?_ ?_ ?_ ?_ ?_ ?_ ?_ ?_ ?_ ?_ ?_ ?_ ?_ ?_ ?_ ?_ ?_ ?_ ?_ ?_ ?_ ?_ ?_ ?_ ?_ ?_ ?_ ?_ ?_ ?_ ?_ ?_ ?_ ?_ ?_ ?_ ?_ ?_ ?_ ?_ ?_ ?_ ?_ ?_ ?_ ?_ ?_ ?_ ?_ ?_ ?_ ?_ ?_ ?_ ?_ ?_ ?_ ?_ ?_ ?_ ?_ ?_ ?_ ?_ ?_ ?_ ?_ ?_ ?_ ?_ ?_ ?_ ?_ ?_ ?_ ?_ ?_ ?_ ?_ ?_ ?_ ?_ ?_ ?_ ?_ ?_ ?_ ?_ ?_ ?_ ?_ ?_ ?_ ?_ ?_ ?_ ?_ ?_ ?_ ?_
  all_goals first|k_is|(show(_:Prop);constructor<;>first|(show _=_;k_is)|k_exc|(constructor<;>(show _=_;k_is)))|skip
#print axioms PySem.Challenge.cw_quotefind_k30_coming_refused_holds
