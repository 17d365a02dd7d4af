import PyProof.Rows.All
import Wide.All
import OpenK.AllK
import Wide.FinOn
import Lean
import PyProof.EqAt
import PyProof.EqKinds
import PyProof.TupleCall
import PySem.Challenge.RW_quotefind_k24_round_about
set_option Elab.async false
set_option linter.all false
set_option maxRecDepth 100000
set_option hygiene false in
local macro_rules
|`(tactic|o_head $H)=>`(tactic|refine holds_open (q:=HD.q HD.pw) (loose:=HD.loose) (Xt:=HD.Xt HD.pw []) (XP:=XL (HD.q HD.pw) []) (Yf:=Hook.obs $H) (Ya:=Hook.val $H) (YP:=Hook.says $H) (d:=HD.d) (kwd:=[]) (N:=HD.J9) (HD.left HD.pw HD.WY $H fun w os=>by kernel_rfl) (Hook.of $H) (Hook.keeps $H) (fun s e=>xl_of s (Bool.and_eq_true_iff.mp e).1) XL.keeps (by kernel_rfl) (by kernel_rfl) (by kernel_rfl) (fun s e=>recFacts_of (Bool.and_eq_true_iff.mp e).2) (by rfl) (by assumption) (by decide+kernel) ⟨rfl,rfl,rfl,rfl,rfl,by decide+kernel⟩ ?hw ?hc)
|`(YL $a $b $c)=>`(@aH _ _ $a _ _ _ _ $b (by exact rfl) (Or.inl rfl) $c (by rfl) (by exact .inl rfl))
|`(Z9 $a $b)=>`(@aJ _ _ $a _ $b (by exact rfl) (Or.inl rfl) (by first|exact .inl rfl|exact .inr rfl|assumption))
|`(SV $a)=>`(@ak _ _ _ _ _ $a ai (by rfl))
|`(ZG $a $b $c)=>`(@aN _ _ _ _ _ _ _ _ _ _ _ _ $a (hr.mono (by decide)) $b $c (by rfl) (by decide) (by rfl) (by rfl))
|`(YF $a $b)=>`(@aB _ _ _ _ _ _ _ (aj K) $a $b (fun _ _=>rfl))
|`(Ε $a $b $c)=>`(@aO _ _ _ _ _ _ _ _ _ $a (by exact rfl) $b PyProof.Rows.Boot.«len» $c (by decide) (by decide) (by rfl) (by rfl))
|`(WW $a $b)=>`(@ak _ _ _ _ _ $a $b (by rfl))
|`(YG $a)=>`(List.getElem?_eq_some_iff.mp $a)
|`(ZL $a)=>`(@aE _ $a _ _ _ _ (pv 0) (by rfl) (by rfl))
|`(Xb $a $b $c)=>`(@aG _ _ _ _ _ _ _ _ $a $b $c)
|`(δ $a $b)=>`(@aN _ _ _ _ _ _ _ _ _ _ _ _ $a (hr.mono (by decide)) $b (@ak _ _ _ _ _ (pv 0) (@ak _ _ _ _ _ af ai (by rfl)) (by rfl)) (by rfl) (by decide) (by rfl) (by rfl))
|`(Ω $a $b $c $d $e $f)=>`(@eV _ $a _ _ _ _ _ _ _ _ _ _ _ PySem.F.plainAttrs_list $b $c $d $e $f (by rfl) (by rfl) (by rfl) (by rfl) (by rfl) (by rfl))
|`(Τ $a)=>`(@aB _ _ _ _ _ _ _ (aj K) (@aB _ _ _ _ _ _ _ (aj K) (pv 0) af (fun _ _=>rfl)) $a (fun _ _=>rfl))
|`(Ο $a $b $c $d)=>`(@bN _ _ _ _ _ _ _ _ _ _ _ _ _ _ _ _ $a $b (hr.mono (by decide)) $c $d (by rfl) (by rfl) (by rfl))
|`(Za $a $b $c $d)=>`(@bE _ _ _ _ _ _ _ _ $a (by exact rfl) $b $c $d (by intro _;rfl))
|`(Xm $a $b)=>`(@ax _ _ _ _ _ $a $b)
|`(Ψ $a)=>`(@eA _ _ _ _ _ _ $a (by first|exact bj _ (by decide) (by decide)|rfl))
|`(X9 $a)=>`(@aq _ _ _ $a)
|`(ε $a $b $c $d)=>`(@aO _ _ _ _ _ _ _ _ _ $a (by exact rfl) $b $c $d (by decide) (by decide) (by rfl) (by rfl))
|`(ZI $a)=>`(List.mem_of_getElem? $a)
|`(Je $a)=>`(if_neg $a)
|`(Z0 $a $b)=>`(@aD _ _ _ _ _ $a $b)
|`(Ν $a $b)=>`(@a9 _ _ _ _ _ _ _ _ $a (@aq _ _ _ (@aM _ _ _ _ dR)) $b)
|`(τ $a)=>`(@ak _ _ _ _ _ $a (@ak _ _ _ _ _ af ai (by rfl)) (by rfl))
|`(MJ $a)=>`(if_pos $a)
|`(ZU $a)=>`(Heap.get?_push_of_some _ $a)
|`(ZQ $a $b $c $d)=>`(@aS _ _ _ _ _ _ _ _ $a $b $c $d)
|`(Λ $a $b $c)=>`(@cq _ $a _ _ _ _ _ _ _ $b $c (by rfl) (by rfl))
|`(Ζ $a $b $c)=>`(@aB _ _ _ _ _ _ _ $a $b $c (fun _ _=>rfl))
|`(ZZ $a)=>`(List.getElem?_append_left $a)
|`(ZJ $a)=>`(@aM _ _ _ _ $a)
|`(ς $a)=>`(@ak _ _ _ _ _ $a (@ak _ _ _ _ _ (@jr _ _ (.ty "list") _ _ (by exact rfl) T.kD PyProof.Rows.Boot.«list» (by exact rfl) (by decide) (by decide)) ai (by rfl)) (by rfl))
|`(ZO $a)=>`(Option.some.inj $a)
|`(Β $a)=>`(@bZ _ _ _ $a (by intro _;rfl))
|`(Α $a)=>`(List.getElem?_append_right $a)
|`(ι $a)=>`(@ak _ _ _ _ _ $a (@ak _ _ _ _ _ (pv 3) ai (by rfl)) (by rfl))
|`(η $a)=>`(s.heap.update $a (Obj.mapSeq fun _=>(#[]:Array Value)))
|`(ZY $a)=>`(@a8 _ _ _ _ $a (by rfl))
|`(Z_ $a $b)=>`(@aY _ _ _ _ _ $a $b (by rfl))
|`(ZX $a $b $c)=>`(@a9 _ _ _ _ _ _ _ _ $a $b $c)
|`(Ρ $a $b $c $d)=>`(PyProof.Rows.envOfC $a $b s.heap.objs.size $c $d)
|`(Ξ $a $b)=>`(@aE _ $a _ _ _ _ $b (by rfl) (by rfl))
|`(Wu $a)=>`(arrOf $a)
|`(υ $a $b $c)=>`(@bE _ _ _ _ _ _ _ _ $a (by exact rfl) (@eh _ _ _ _ _ _ (by exact rfl) T.fN (@ak _ _ _ _ _ (@aO _ _ _ _ _ _ _ _ _ (aK K) (by exact rfl) T.cY PyProof.Rows.Boot.«len» (@ak _ _ _ _ _ (pv 1) ai (by rfl)) (by decide) (by decide) (by rfl) (by rfl)) ai (by rfl)) (by rfl)) $b $c (by intro _;rfl))
|`(Δ $a)=>`(List.mem_append_right _ $a)
|`(ZF $a)=>`(wpAny_pure $a)
|`(Γ $a $b)=>`(@a_ _ $a _ _ _ $b (by rfl))
|`(Z7 $a)=>`(pendingOf $a)
|`(ZN $a)=>`(wpAny_bind $a)
|`(Θ $a)=>`(List.mem_cons_of_mem _ $a)
|`(μ $a $b $c)=>`(@iG _ _ _ _ _ _ $a (@aE _ K _ _ _ _ (pv 0) (by rfl) (by rfl)) $b $c)
|`(ζ $a $b $c $d)=>`(@fv _ $a _ _ _ $b _ $c $d (by rfl) (by rfl) (by rfl))
|`(ZS $a)=>`(Heap.lt_size $a)
|`(ρ $a)=>`(@ak _ _ _ _ _ $a (@ak _ _ _ _ _ (@aB _ _ _ _ _ _ _ (aj K) (pv 0) af (fun _ _=>rfl)) ai (by rfl)) (by rfl))
|`(Xo $a)=>`(ar $a rfl)
|`(ω $a $b)=>`(@eh _ _ _ _ _ _ $a $b (@ak _ _ _ _ _ (@aO _ _ _ _ _ _ _ _ _ (aK K) (by exact rfl) T.cY PyProof.Rows.Boot.«len» (@ak _ _ _ _ _ (pv 1) ai (by rfl)) (by decide) (by decide) (by rfl) (by rfl)) ai (by rfl)) (by rfl))
|`(Υ $a)=>`(absurd $a Bool.false_ne_true)
|`(Χ $a)=>`(List.getElem?_eq_getElem $a)
|`(ZR $a)=>`(List.range $a)
|`(Κ $a $b)=>`(@pw_or _ _ _ _ _ _ _ $a $b)
|`(θ $a)=>`(@fM _ _ _ _ $a (by rfl) (by decide))
|`(ν $a $b $c $d $e)=>`(@gP _ _ _ _ _ _ _ _ _ $a $b $c $d $e (by decide) (by decide) (by rfl) (by rfl))
|`(ξ $a $b $c $d)=>`(@aH _ _ $a _ _ _ _ $b (by exact rfl) $c $d (by rfl) (by exact .inl rfl))
|`(Z1 $a $b)=>`(absurd $a $b)
|`(ZK $a)=>`(wpS_pure $a)
|`(ZW $a)=>`(@bo _ _ _ _ $a)
|`(χ $a)=>`(seqEpoch_at $a rfl (wpAny_bind (wpAny_newTuple (wpAny_bind (wpAny_newList (wpAny_holding ?_) (Nat.zero_le _))) (by show vs.length≤_;rw[sizeLine_eq];lia))))
|`(γ $a)=>`(List.mem_append_left _ $a)
|`(Z6 $a)=>`(av.upd $a)
set_option hygiene false in
local macro_rules
|`(Hy)=>`((by lia))
|`(Vs)=>`((by simp))
|`(ZH)=>`((fun vs H Q E h=>?_))
|`(ZT)=>`((Nat.le_refl _))
|`(Y')=>`((pv 0))
|`(ο)=>`((gh X scope (ls++cs) s3 H3 s3.heap.objs.size fp (X.pn++pins)))
|`(Ι)=>`((bI I q (by simp)))
|`(Z')=>`((pv 1))
|`(Μ)=>`((beq_iff_eq.mpr z))
|`(Z2)=>`((pv 2))
|`(ZP)=>`((Wu st))
|`(Η)=>`((by exact rfl))
|`(ZV)=>`(by omega)
|`(WV)=>`(by decide)
|`(Z5)=>`(by rfl)
|`(XC)=>`(by simp)
set_option maxHeartbeats 4000000
namespace HD
open PySem PySem.W PyProof.Rows
noncomputable section
noncomputable abbrev pw:Program:=PySem.Challenge.pw_quotefind_k24_round_about
noncomputable abbrev pq:Program:=pw
theorem WY:pw=pq:=rfl
def z0:Str:=⟨⟨[60,109,111,100,117,108,101,62]⟩⟩
def z1:Str:=⟨⟨[95,95,109,97,105,110,95,95]⟩⟩
def U8:Str:=⟨⟨[47,99,108,97,105,109,47,99,117,116,46,112,121]⟩⟩
noncomputable abbrev y0:String:=PySem.W.SL.s658472552662922059x5
noncomputable abbrev WZ:String:=PySem.W.SL.s5856160107412720595x4
noncomputable abbrev R(a:Addr):Value:= .ref a
noncomputable abbrev I(i:Int):Value:= .int i 0
noncomputable abbrev N:Value:= .none
noncomputable abbrev U(v:Value):Option Value:=some v
noncomputable abbrev B:=BT.node
noncomputable abbrev L:=BT.nil
noncomputable abbrev tu(l:List Value):Obj:=⟨.type "tuple",none, .seq ⟨l⟩ 0,⟨[]⟩⟩
noncomputable abbrev fi(l:List Value):Obj:=⟨.none,none, .fields ⟨l⟩,⟨[]⟩⟩
noncomputable abbrev cd(n:Str)(t:Nat)(l a f:Int)(r8:Addr)(b:Bool)(W0:Addr)(W4 W5 W6:Value)(t3:Int)(t4:Nat):Obj:=⟨.type WZ,none, .fields ⟨[.str n t, .str n (t+1), .str U8 (t+2),I l,I a,I 0,I 0,I f,R r8, .bool b,I 181,R W0,N,W4,W5,W6,I t3,I l, .str U8 t4]⟩,⟨[]⟩⟩
noncomputable def tp(p:Program)(i:Nat):Stmt:=p.main.body.getD i (.Pass ⟨0,0,0,0⟩)
noncomputable def b0(_:Program)(P:Params):Obj:=PySem.W.boot_o_0 P
noncomputable def b1(_:Program)(P:Params):Obj:=PySem.W.boot_o_1 P
noncomputable def b2(_:Program)(P:Params):Obj:=PySem.W.boot_o_2 P
noncomputable def b3(_:Program)(P:Params):Obj:=PySem.W.boot_o_3 P
noncomputable def b4(_:Program)(P:Params):Obj:=PySem.W.boot_o_4 P
noncomputable def b5(_:Program)(P:Params):Obj:=PySem.W.boot_o_5 P
noncomputable def b6(_:Program)(P:Params):Obj:=PySem.W.boot_o_6 P
noncomputable def b7(_:Program)(P:Params):Obj:=PySem.W.boot_o_7 P
noncomputable def b8(_:Program)(P:Params):Obj:=PySem.W.boot_o_8 P
noncomputable def b9(_:Program)(P:Params):Obj:=PySem.W.boot_o_9 P
noncomputable def U9(_:Program)(P:Params):Obj:=PySem.W.boot_o_10 P
noncomputable def U_(p:Program)(P:Params):Obj:=tu []
noncomputable def U'(p:Program)(P:Params):Obj:=fi []
noncomputable def Va(p:Program)(P:Params):Obj:=cd z0 182 1 0 0 11 false 12 N N N 185 186
noncomputable def Vc(p:Program)(P:Params):Obj:=⟨(.type y0),none,.plain,⟨[U (R 13),U (R 3),U (R 3),none,U (.str z1 164),none,U (R 0)]⟩⟩
noncomputable def La(p:Program)(P:Params):List Obj:=[b0 p P,b1 p P,b2 p P,b3 p P,b4 p P,b5 p P,b6 p P,b7 p P,b8 p P,b9 p P,U9 p P,U_ p P,U' p P,Va p P,Vc p P]
noncomputable def Ta(p:Program)(P:Params):BT:=(B (b0 p P) (B (b1 p P) (B (b3 p P) (B (b7 p P) L L) (B (U_ p P) L L)) (B (b5 p P) (B (b9 p P) L L) (B (Va p P) L L))) (B (b2 p P) (B (b4 p P) (B (b8 p P) L L) (B (U' p P) L L)) (B (b6 p P) (B (U9 p P) L L) (B (Vc p P) L L))))
noncomputable def keep:List Nat:=[0,2,3,4,5,7,8,9,11,12,13,14,16,17,19,20,21,22,23,24,25,27,28,29,31,32,33,34,35,36,37,38,40,41,42,43,44,45,46,47,48,49,50,51,52,53,54,55,56,57,58,59]
noncomputable def loose:List Str:=[]
noncomputable def env(p:Program):Env:={scope:=p.main.scope,locals:=mainNs,globals:=mainNs,cells:=[],code:=(R 13),frame:=some 14}
noncomputable def cE(p:Program):Code:= .body (behindTheImports p) (env p)
noncomputable def qP:Pos:=⟨0,0,0,0⟩
noncomputable def pP:Pos:=⟨0,0,0,0⟩
noncomputable def bP:Pos:=⟨0,0,0,0⟩
noncomputable def fP:Pos:=⟨425,0,442,47⟩
noncomputable def an:Option Value:=(some (R 6))
noncomputable abbrev Nu:Nat:=59
noncomputable abbrev m0:Nat:=11
noncomputable abbrev Nv:Nat:=12
noncomputable abbrev Nw:Nat:=1
noncomputable abbrev J7:Nat:=3768
noncomputable abbrev J8:Nat:=2
noncomputable abbrev J9:Nat:=8260
noncomputable abbrev nA:Nat:=15
noncomputable abbrev W7:Nat:=187
noncomputable abbrev W8:Nat:=187
end
end HD
namespace HD
open PySem PySem.W PyProof.Rows
noncomputable section
abbrev S0(w:World)(os:OsState):Shared:=⟨boot_heap w.params,⟨[]⟩,boot_drawn,boot_toks,os⟩
abbrev Sa(p:Program)(w:World)(os:OsState):Shared:=⟨⟨⟨La p w.params⟩,{}⟩,⟨[]⟩,{},W7,os⟩
abbrev Sb(p:Program)(w:World)(os:OsState):SharedT:=⟨Ta p w.params,nA,{},⟨[]⟩,{},W8,os⟩
abbrev q(p:Program):Program:=view p keep
abbrev Xt(p:Program)(R:WRecords):Shared→Bool:=fun s=>xlAt (q p) [] s&&recOk R s
theorem Nx(w:World)(os:OsState):topGo treeTable pq w m0 an Nv (S0 w os) (topStub pq)=some (Sa pq w os,⟨denote treeTable (cE pq),cE pq,pP,[topFrame qP]⟩):=by
 rewrite[Fast.te15667345088766844465,Fast.te14364793385576792824,Fast.te11892475500146522536];kernel_rfl
theorem Ny(w:World)(os:OsState):segRun treeTable pq w m0 an 1 Nw (Sa pq w os) (blockOf (behindTheImports pq) (env pq) (cE pq) pP [topFrame qP])=some (.next,(Sb pq w os).abs,cE pq,bP):=by
 rewrite[Fast.te14374325043358763698,Fast.te14364793385576792824];kernel_rfl
def Rm(w:World)(os:OsState):=Fast.tw10110043849684766642 Fast.tw14364793385576792824 pq w m0 an 1 J7 (Sb pq w os) (piecesOf (behindTheImports pq) (env pq) (cE pq) bP [topFrame qP])
def Sm(w:World)(os:OsState):SharedT:=match Rm w os with|some (_,s,_,_)=>s|none=>Sb pq w os
theorem Nz(w:World)(os:OsState):segRunT treeTable pq w m0 an 1 J7 (Sb pq w os) (piecesOf (behindTheImports pq) (env pq) (cE pq) bP [topFrame qP])=some (.next,Sm w os,cE pq,fP):=by
 rewrite[Fast.te10110043849684766642,Fast.te14364793385576792824];kernel_rfl
def Rf(w:World)(os:OsState):=Fast.tw14082659384304107361 Fast.tw14364793385576792824 pq w m0 an J8 (Sm w os).abs ⟨doneF .next,cE pq,fP,[topFrame qP]⟩
def Sf(w:World)(os:OsState):Shared:=match Rf w os with|some s=>s|none=>S0 w os
theorem NA(w:World)(os:OsState):topRun treeTable pq w m0 an J8 (Sm w os).abs ⟨doneF .next,cE pq,fP,[topFrame qP]⟩=some (Sf w os):=by
 rewrite[Fast.te14082659384304107361,Fast.te14364793385576792824];kernel_rfl
theorem J_(w:World):((boot_heap w.params).isNs mainGlobals&&(⟨[]⟩:Array GenState).size==0,(boot_heap w.params).objs.size,(boot_heap w.params).nsMap mainGlobals "__annotations__")=(true,m0,an):=by
 rewrite[Fast.te8920871248978507458];kernel_rfl
theorem J':∀w:World,(fencedOpening treeTable pq w J9).map (fun s=>(s.heap,s.gens,s.drawn,s.toks))=some (boot_heap w.params,⟨[]⟩,boot_drawn,boot_toks):=
 boot_open (by kernel_rfl) (by kernel_rfl) (fun s=>by kernel_rfl)
theorem NB(w:World)(os:OsState):topRun treeTable pq w m0 an (Nv+(Nw+(J7+J8))) (S0 w os) (topStub pq)=some (Sf w os):=by
 refine go_top (Nx w os) (piece_block (Ny w os) ?_);have h:=piece_app (rest:=[]) (segRun_of (Nz w os)) (piece_nil (env:=env pq) (NA w os));rw[List.append_nil]at h;exact h
theorem D6(w:World)(os:OsState):
 (staticsOk (importedModules pq.main.body) (boot_heap w.params) (Sf w os).heap&&namesBound pq (Sf w os).heap&&gensDone (Sf w os)&&laidKept (boot_heap w.params) (Sf w os).heap)=true
 ∧seen ((recsOf (q pq)).map (·.name)) (ownsOf (q pq)) [] {Sf w os with gens:=#[]}=expectedOf (q pq)
 ∧(Sf w os).heap.bltView=bltViewBooted:=by
 refine⟨?_,?_,?_⟩
 ·rewrite[Fast.te5923862056798008813];kernel_rfl
 ·rewrite[Fast.te5160383126252970620,Fast.te3399658132070893891,Fast.te5991557255702980513];kernel_rfl
 ·kernel_rfl
theorem Ka(w:World)(os:OsState):
 ((Sf w os).heap.keysOk (looseW (q pq) loose) ((recsOf (q pq)).map (·.name)) ((litsOf (q pq)).map (·.1)) ((clssOf (q pq) (looseW (q pq) loose)).map (·.name))&&(Sf w os).heap.accountedOkI (importedModules pq.main.body)&&(Sf w os).heap.isNs mainGlobals&&(Sf w os).heap.isNs builtinsNs&&tablesOk (q pq) (Sf w os).heap&&Xt pq [] (Sf w os)&&(if true then(Sf w os).gens.size==0 else !leftWithCleanup (Sf w os).gens))=true:=by
 rewrite[Fast.te10880121769531294198,Fast.te821141287760084731,Fast.te3399658132070893891,Fast.te7409074990110511671,Fast.te13664370479719496447,Fast.te14722251495701143533,Fast.te5923862056798008813,Fast.te10994771534591457954];kernel_rfl
theorem Kb(w:World)(os:OsState):
 tabsOk (q pq) (Sf w os)=true
 ∧pinSeenD (q pq) (drecsOf (q pq)) (Sf w os)=pinGoodD (drecsOf (q pq))
 ∧plainSeenE (q pq) (looseW (q pq) loose) (Sf w os)=plainGoodE (q pq) (looseW (q pq) loose)
 ∧plainSeenD (q pq) loose (Sf w os)=plainGoodD (q pq) loose
 ∧wideSeen (q pq) (Sf w os)=wideGood (q pq)
 ∧clsSeenW (q pq) loose (Sf w os)=clsGoodW (q pq) loose:=by
 refine⟨?_,?_,?_,?_,?_,?_⟩
 ·rewrite[Fast.te479339242167458305];kernel_rfl
 ·rewrite[Fast.te16090120013241838585,Fast.te3247288618530077131];kernel_rfl
 ·rewrite[Fast.te2386780881361962483,Fast.te821141287760084731];kernel_rfl
 ·rewrite[Fast.te11698064438423848299];kernel_rfl
 ·rewrite[Fast.te7317090234206586261];kernel_rfl
 ·rewrite[Fast.te7369524293546568484];kernel_rfl
theorem lx{p q:Program}{lo:List Str}{Xt:Shared→Bool}{α:Type}{Yf:Shared→α}{a:α}{w:World}{N M n:Nat}{h:Heap}{gs:Array GenState}{dr:Drawn}{k:Nat}{an:Option Value}{g:OsState→Shared}
  (o:(fencedOpening treeTable p w N).map (fun s=>(s.heap,s.gens,s.drawn,s.toks))=some (h,gs,dr,k)) (z:(h.isNs mainGlobals&&gs.size==0,h.objs.size,h.nsMap mainGlobals "__annotations__")=(true,n,an))
  (r:∀os,topRun treeTable p w n an M ⟨h,gs,dr,k,os⟩ (topStub p)=some (g os)) (le:M≤N) (x1:∀os,(staticsOk (importedModules p.main.body) h (g os).heap&&namesBound p (g os).heap&&gensDone (g os)&&laidKept h (g os).heap)=true)
  (x2:∀os,openSeen q lo (importedModules p.main.body) Xt true (g os)=openGood q lo) (x3:∀os,Yf (g os)=a):(openEnds treeTable p w N).map (fun s=>(openSeen q lo (importedModules p.main.body) Xt true s,Yf s))=some (openGood q lo,a):=by
 obtain⟨⟨h,gs,dr,k,os⟩,e1,e2⟩:=Option.map_eq_some_iff.mp o;cases e2;obtain⟨y1,y2⟩:=Prod.mk.inj z;obtain⟨y2,y3⟩:=Prod.mk.inj y2;have t:=topRun_mono (N-M) _ _ _ _ (r os);rw[Nat.add_sub_cancel' le]at t;have f:topFrom treeTable p w N ⟨h,gs,dr,k,os⟩=some (g os):=by
  unfold topFrom;dsimp only;rw[y1,y2,y3,t];show(match staticsOk _ h (g os).heap&&namesBound p (g os).heap&&gensDone (g os)&&laidKept h (g os).heap with|true=>_|false=>_)=_;rw[x1 os]
 unfold openEnds;rw[e1,Option.bind_some,f];exact congrArg some (Prod.ext (x2 os) (x3 os))
theorem left(p:Program)(e:p=pq)(H:Hook)(hk:∀w os,H.obs (Sf w os)=H.val w):LeftO p (q p) loose (Xt p []) H.obs H.val J9:=by
 subst e;intro w;exact lx (g:=Sf w) (J' w) (J_ w) (NB w) (WV) (fun os=>(D6 w os).1) (fun os=>let ⟨_,x2,x3⟩:=D6 w os;let ⟨x5,x6,x7,x8,x9,x0⟩:=Kb w os;looks_pair x2 (looks_pair x3 (looks_pair (Ka w os) (looks_pair x5 (looks_pair x6 (looks_pair x7 (looks_pair x8 (looks_pair x9 x0)))))))) (hk w)
def d:DefRec:=match tp pw Nu with
 | .FunctionDef n a b _ _ _ sc _ _ ps=>⟨n,a,b,sc,ps⟩
 | _=>⟨Str.empty,default,[],default,default⟩
end
end HD
namespace HD
theorem ws:PySem.W.OpenLaw.wellSaid PySem.Challenge.rw_quotefind_k24_round_about=true:=by
 rewrite[PySem.W.Fast.te9446332074065402090];kernel_rfl
end HD
namespace L2
open PySem PySem.Spec PyProof.Rows
abbrev Key:=Sum Int Str
def vJ:Key→Value→Bool
 | .inl k,v=>Value.isInt k v
 | .inr x,v=>Value.isStrOf x v
def RM(w:World):Key→Int
 | .inl k=>hashInt k
 | .inr x=>hashStr w x
theorem cV:∀{k:Key}{v:Value},vJ k v=true→(∃i t,k=Sum.inl i∧v=Value.int i t)∨(∃x t,k=Sum.inr x∧v=Value.str x t)
 | .inl i,v,h=>by
  obtain⟨t,e⟩:=Value.isInt_shape (k:=i) (v:=v) h;exact .inl ⟨i,t,rfl,e⟩
 | .inr x,v,h=>by
  obtain⟨t,e⟩:=Value.isStrOf_shape (x:=x) (v:=v) h;exact .inr ⟨x,t,rfl,e⟩
theorem Ck(i:Int)(t:Tok):vJ (.inl i) (.int i t)=true:=by simp[vJ,Value.isInt]
theorem Cm(x:Str)(t:Tok):vJ (.inr x) (.str x t)=true:=by simp[vJ,Value.isStrOf]
theorem Kc(a b:Int):decide ((Sum.inl a:Key)=Sum.inl b)=(a==b):=by
 by_cases e:a=b
 ·subst e;simp
 ·have h:¬(Sum.inl a:Key)=Sum.inl b:=fun q=>e (Sum.inl.inj q)
  rw[decide_eq_false h];exact(beq_eq_false_iff_ne.mpr e).symm
theorem Kd(a b:Str):decide ((Sum.inr a:Key)=Sum.inr b)=decide (a=b):=by
 by_cases e:a=b
 ·subst e;simp
 ·have h:¬(Sum.inr a:Key)=Sum.inr b:=fun q=>e (Sum.inr.inj q)
  rw[decide_eq_false h,decide_eq_false e]
theorem Ke(a:Int)(b:Str):decide ((Sum.inl a:Key)=Sum.inr b)=false:=decide_eq_false (fun q=>nomatch q)
theorem Kf(a:Str)(b:Int):decide ((Sum.inr a:Key)=Sum.inl b)=false:=decide_eq_false (fun q=>nomatch q)
def cW(prog:Program)(w:World):PySem.KeyKind prog w Key where
 is:=vJ
 hash:=RM w
 inj:=fun v a b ha hb=>by
  rcases cV ha with⟨i,t,rfl,rfl⟩|⟨x,t,rfl,rfl⟩
  ·rcases cV hb with⟨j,u,rfl,e⟩|⟨y,u,rfl,e⟩
   ·injection e with e1 _;rw[e1]
   ·exact nomatch e
  ·rcases cV hb with⟨j,u,rfl,e⟩|⟨y,u,rfl,e⟩
   ·exact nomatch e
   ·injection e with e1 _;rw[e1]
 byValue:=fun k v h=>by
  rcases cV h with⟨i,t,rfl,rfl⟩|⟨x,t,rfl,rfl⟩<;>rfl
 pyHash:=fun hv h=>by
  rcases cV hv with⟨i,t,rfl,rfl⟩|⟨x,t,rfl,rfl⟩
  ·exact wpAny_pyHash_int h
  ·exact wpAny_pyHash_str h
 eqBool:=fun hu hv h=>by
  rcases cV hu with⟨i,t,rfl,rfl⟩|⟨x,t,rfl,rfl⟩
  ·rcases cV hv with⟨j,u,rfl,rfl⟩|⟨y,u,rfl,rfl⟩
   ·rw[Kc]at h;exact wpAny_eqBool_int h
   ·rw[Ke]at h;exact SeqAt.EqAt.int_str i t y u _ _ _ _ h
  ·rcases cV hv with⟨j,u,rfl,rfl⟩|⟨y,u,rfl,rfl⟩
   ·rw[Kf]at h;exact SeqAt.EqAt.str_int x t j u _ _ _ _ h
   ·rw[Kd]at h;exact wpAny_eqBool_str h
 «strs»:=fun k x t v h=>by
  rcases cV h with⟨i,u,rfl,e⟩|⟨y,u,rfl,e⟩
  ·exact nomatch e
  ·injection e with e1 _;subst e1;cases v<;>rfl
theorem yB(prog:Program)(w:World)(i:Int)(t:Tok):(cW prog w).is (.inl i) (.int i t)=true:=Ck i t
theorem yC(prog:Program)(w:World)(x:Str)(t:Tok):(cW prog w).is (.inr x) (.str x t)=true:=Cm x t
inductive V where
 |cL|bl (b:Bool)|int (i:Int)|str (x:Str)|Cn (b:Array UInt8)|IY (b:UInt64)|ref (a:Addr)|ty (n:String)
 deriving DecidableEq
def RelV:V→Value→Prop
 | .cL,u=>u=Value.none
 | .bl b,u=>u=Value.bool b
 | .int i,u=>∃t,u=Value.int i t
 | .str x,u=>∃t,u=Value.str x t
 | .Cn b,u=>∃t,u=Value.bytes b t
 | .IY b,u=>∃t,u=Value.float b t
 | .ref a,u=>u=Value.ref a
 | .ty n,u=>u=Value.type n
abbrev Vals:List V→List Value→Prop:=Paired RelV
theorem Vals.length{xs:List V}{us:List Value}(r:Vals xs us):xs.length=us.length:=Paired.length r
theorem Vals.get:∀{xs:List V}{us:List Value}{i:Nat}{x:V},Vals xs us→xs[i]?=some x→∃u,us[i]?=some u∧RelV x u
 | _,_,_,_, .nil,e=>by simp at e
 | _,_,0,_, .cons r _,e=>by simp at e;subst e;exact⟨_,rfl,r⟩
 | _,_,i+1,x, .cons _ t,e=>by
  obtain⟨u,h1,h2⟩:=Vals.get (i:=i) (x:=x) t (by simpa using e);exact⟨u,by simpa using h1,h2⟩
theorem Vals.set{x:V}{u:Value}(r:RelV x u):∀{xs:List V}{us:List Value}(i:Nat),Vals xs us→Vals (xs.set i x) (us.set i u)
 | _,_,_, .nil=> .nil
 | _,_,0, .cons _ t=> .cons r t
 | _,_,i+1, .cons q t=> .cons q (Vals.set r i t)
theorem Vals.append:∀{xs ys:List V}{us ws:List Value},Vals xs us→Vals ys ws→Vals (xs++ys) (us++ws)
 | _,_,_,_, .nil,s=>s
 | _,_,_,_, .cons r t,s=> .cons r (Vals.append t s)
theorem Vals.take:∀{xs:List V}{us:List Value}(n:Nat),Vals xs us→Vals (xs.take n) (us.take n)
 | _,_,0,_=> .nil
 | _,_,_+1, .nil=> .nil
 | _,_,n+1, .cons r t=> .cons r (Vals.take n t)
theorem Vals.drop:∀{xs:List V}{us:List Value}(n:Nat),Vals xs us→Vals (xs.drop n) (us.drop n)
 | _,_,0,r=>r
 | _,_,_+1, .nil=> .nil
 | _,_,n+1, .cons _ t=>Vals.drop n t
def kx:Option V→Option Value→Prop
 |some v,some u=>RelV v u
 |none,none=>True
 | _,_=>False
def KV{κ:Type}:List (κ×V)→List (κ×Value)→Prop:=Paired fun(p:κ×V)(q:κ×Value)=>p.1=q.1∧RelV p.2 q.2
def kV:Key→V
 | .inl i=> .int i
 | .inr x=> .str x
inductive HO where
 |lst (xs:List V)
 |tup (xs:List V)
 |dK (kvs:List (Key×V))|dT (kvs:List (List Key×V))
 |set (S:Int→Bool) (n:Nat)
 |ins (C dx:Addr) (fs:List (Str×V))
 |own (x:Addr)
 |xd (fs:List (Str×V))
 |met (f x:Addr)
 |Qp (lo hi:Int)
 |sE (o:Obj) (u:HO)
 |GV (ps:Array Value)
 |ext (φ:Heap→Prop)
abbrev Hp:=Addr→Option HO
def upd(H:Hp)(a:Addr)(o:HO):Hp:=fun b=>if b=a then some o else H b
theorem ae{H:Hp}{a:Addr}{o:HO}:upd H a o a=some o:=by unfold upd;rw[if_pos rfl]
theorem ao{H:Hp}{a b:Addr}{o:HO}(h:b≠a):upd H a o b=H b:=by unfold upd;rw[Je h]
theorem gf{H:Hp}{a:Addr}{o u:HO}:upd (upd H a o) a u=upd H a u:=by
 funext b;unfold upd;split<;>rfl
theorem iZ{H:Hp}{a b:Addr}{o u:HO}(h:H a=some o)(h':H b=some u)(d:o≠u):a≠b:=by
 intro e;subst e;rw[h]at h';exact d (ZO h')
theorem aF{H:Hp}{a b:Addr}{o:HO}(h:H a=some o)(h':H b=none):a≠b:=by
 intro e;subst e;rw[h]at h';cases h'
section
variable(P:Program)(w:World)
def cR(H:Hp)(h:Heap)(a:Addr):HO→Prop
 | .lst xs=>xs.length≤sizeLine∧∃(its:List Value)(n:Nat),Vals xs its∧h.get? a=some {cls:= .type "list",data:= .seq its.toArray n}
 | .tup xs=>xs.length≤sizeLine∧∃its:List Value,Vals xs its∧IsTup h a its.toArray
 | .dK kvs=>kvs.length≤sizeLine∧(a==sysModules)=false∧∃vs,KV kvs vs∧h.DictOf (cW P w) a vs
 | .dT kvs=>kvs.length≤sizeLine∧(a==sysModules)=false∧∃xs:List (List Key×Addr×Value),
   Paired (fun(p:List Key×V)(q:List Key×Addr×Value)=>p.1=q.1∧H q.2.1=some (.tup (p.1.map kV))∧RelV p.2 q.2.2) kvs xs∧
   ∃o es ep,h.get? a=some o∧o.ExactDict∧o.data= .dict es ep∧es.toList=xs.map (entryOfKey (tupleKind (cW P w)))∧(xs.map (·.1)).Nodup
 | .set S n=>h.SetOf (intKind P w) a S n
 | .ins C dx fs=>H dx=some (.own a)∧fs.length≤1000∧dx≠a∧h.get? a=some (PySem.W.instObj C dx)∧
   ∃mA,h.Ns1 dx mA∧(∀f,kx (fs.lookup f) (mA f))∧PySem.Within mA (fs.map (·.1))
 | .own _=>∃o,h.get? a=some o
 | .xd fs=>∃mA,h.Ns1 a mA∧∀f,kx (fs.lookup f) (mA f)
 | .Qp lo hi=>∃t u v,h.get? a=some {cls:= .type "range",data:= .fields #[.int lo t, .int hi u, .int 1 v]}
 | .sE o u=>h.get? a=some o∧cR H h a u
 | .GV ps=>h.get? a=some {cls:= .none,data:= .fields ps}
 | .met f x=>h.get? a=some (PySem.W.methodObj (.ref f) (.ref x))
 | .ext φ=>φ h∧(∃o,h.get? a=some o)∧∀h1 h2:Heap,φ h1→(∀o,h1.get? a=some o→h2.get? a=some o)→φ h2
def lE(H:Hp)(h:Heap):Prop:=∀a o,H a=some o→cR P w H h a o
end
section
variable{P:Program}{w:World}{H H':Hp}{h h':Heap}{a:Addr}{o:HO}
theorem cR.lt(x:cR P w H h a o):a<h.objs.size:=by
 cases o with
 |lst xs=>obtain⟨_,_,_,_,e⟩:=x;exact ZS e
 |tup xs=>obtain⟨_,_,_,p⟩:=x;exact p.lt
 |dK kvs=>obtain⟨_,_,_,_,o,_,_,e,_⟩:=x;exact ZS e
 |dT kvs=>obtain⟨_,_,_,_,o,_,_,e,_⟩:=x;exact ZS e
 |set S n=>obtain⟨o,_,_,_,e,_⟩:=x;exact ZS e
 |ins C dx fs=>obtain⟨_,_,_,e,_⟩:=x;exact ZS e
 |own y=>obtain⟨_,e⟩:=x;exact ZS e
 |xd fs=>obtain⟨_,⟨_,_,_,e,_⟩,_⟩:=x;exact ZS e
 |Qp lo hi=>obtain⟨_,_,_,e⟩:=x;exact ZS e
 |sE ob u=>obtain⟨e,_⟩:=x;exact ZS e
 |GV ps=>exact ZS (show h.get? a=some _ from x)
 |met f y=>exact ZS (show h.get? a=some _ from x)
 |ext φ=>obtain⟨_,⟨_,e⟩,_⟩:=x;exact ZS e
theorem Paired.Kg{α β:Type}{F G:α→β→Prop}:∀{NC:List α}{ND:List β},Paired F NC ND→(∀a b,F a b→G a b)→Paired G NC ND
 | _,_, .nil,_=> .nil
 | _,_, .cons r t,f=> .cons (f _ _ r) (Paired.Kg t f)
theorem cR.wF(x:cR P w H h a o)(k:∀b u,(b=a∨H b=some (.own a))→h.get? b=some u→h'.get? b=some u)
  (ho:∀b,H b=some (.own a)→H' b=some (.own a)) (ht:∀b xs,H b=some (.tup xs)→H' b=some (.tup xs)):cR P w H' h' a o:=by
 induction o with
 |lst xs=>obtain⟨z,its,n,r,e⟩:=x;exact⟨z,its,n,r,k _ _ (.inl rfl) e⟩
 |tup xs=>obtain⟨z,its,r,ob,e,c⟩:=x;exact⟨z,its,r,ob,k _ _ (.inl rfl) e,c⟩
 |dK kvs=>obtain⟨z,y,vs,r,ob,es,ep,e,c⟩:=x;exact⟨z,y,vs,r,ob,es,ep,k _ _ (.inl rfl) e,c⟩
 |dT kvs=>
  obtain⟨z,y,xs,r,ob,es,ep,e,c⟩:=x;exact⟨z,y,xs,Paired.Kg r fun p q z=>⟨z.1,ht _ _ z.2.1,z.2.2⟩,ob,es,ep,k _ _ (.inl rfl) e,c⟩
 |set S n=>obtain⟨ob,es,ep,t,e,c⟩:=x;exact⟨ob,es,ep,t,k _ _ (.inl rfl) e,c⟩
 |ins C dx fs=>
  obtain⟨d,z,ne,e,mA,⟨od,es,ep,e2,c⟩,r⟩:=x;exact⟨ho _ d,z,ne,k _ _ (.inl rfl) e,mA,⟨od,es,ep,k _ _ (.inr d) e2,c⟩,r⟩
 |own y=>obtain⟨ob,e⟩:=x;exact⟨ob,k _ _ (.inl rfl) e⟩
 |xd fs=>obtain⟨mA,⟨od,es,ep,e,c⟩,r⟩:=x;exact⟨mA,⟨od,es,ep,k _ _ (.inl rfl) e,c⟩,r⟩
 |Qp lo hi=>obtain⟨t,u,v,e⟩:=x;exact⟨t,u,v,k _ _ (.inl rfl) e⟩
 |sE ob u ih=>obtain⟨e,q⟩:=x;exact⟨k _ _ (.inl rfl) e,ih q⟩
 |GV ps=>
  have e:h.get? a=some {cls:= .none,data:= .fields ps}:=x;show h'.get? a=some {cls:= .none,data:= .fields ps};exact k a _ (.inl rfl) e
 |met f y=>
  have e:h.get? a=some (PySem.W.methodObj (.ref f) (.ref y)):=x;show h'.get? a=some (PySem.W.methodObj (.ref f) (.ref y));exact k a _ (.inl rfl) e
 |ext φ=>obtain⟨p,⟨o,e⟩,st⟩:=x;exact⟨st _ _ p fun o q=>k _ _ (.inl rfl) q,⟨o,k _ _ (.inl rfl) e⟩,st⟩
theorem lE.lt(x:lE P w H h)(e:H a=some o):a<h.objs.size:=(x a o e).lt
theorem lE.fresh(x:lE P w H h)(e:h.objs.size≤a):H a=none:=by
 cases q:H a with
 |none=>rfl
 |some u=>exact Z1 (Nat.lt_of_lt_of_le (x.lt q) e) (Nat.lt_irrefl _)
theorem lE.kept(x:lE P w H h)(k:∀b u,h.get? b=some u→h'.get? b=some u):lE P w H h':=fun a o e=>
 (x a o e).wF (fun b u _ q=>k b u q) (fun _ q=>q) fun _ _ q=>q
theorem lE.laid(x:lE P w H h)(k:∀b u,h.get? b=some u→h'.get? b=some u)(hp:h.objs.size≤a)(new:cR P w (upd H a o) h' a o):lE P w (upd H a o) h':=fun b u e=>by
 have hn:=x.fresh hp;by_cases hb:b=a
 ·subst hb;rw[ae]at e;cases e;exact new
 ·rw[ao hb]at e;exact(x b u e).wF (fun c v _ q=>k c v q) (fun c q=>by rw[ao (aF q hn)];exact q) fun c xs q=>by rw[ao (aF q hn)];exact q
end
def Rd(H:Hp)(a:Addr)(u:HO):Prop:=H a=some u∨∃o,H a=some (.sE o u)
theorem Rd.of{H:Hp}{a:Addr}{u:HO}(h:H a=some u):Rd H a u:= .inl h
theorem Rd.ok{P:Program}{w:World}{H:Hp}{h:Heap}{a:Addr}{u:HO}(r:Rd H a u)(x:lE P w H h):cR P w H h a u:=by
 rcases r with r|⟨o,r⟩
 ·exact x a u r
 ·obtain⟨_,q⟩:=x a _ r;exact q
def NG:Option HO→Prop
 |some (.lst _)=>True
 |some (.dK _)=>True
 |some (.dT _)=>True
 |some (.set _ _)=>True
 |some (.ins _ _ _)=>True
 |some (.ext _)=>True
 | _=>False
section
variable{P:Program}{w:World}{H:Hp}{h h':Heap}{x e:Addr}{o':HO}
theorem lE.write(ok:lE P w H h)(mu:NG (H x))(he:e=x∨H e=some (.own x))(k:∀b u,b≠e→h.get? b=some u→h'.get? b=some u)(MK:∃u,h'.get? e=some u)
  (new:cR P w (upd H x o') h' x o'):lE P w (upd H x o') h':=fun b u q=>by
 have NH:∀c y,H c=some (.own y)→c≠x:=fun c y r z=>by subst z;rw[r]at mu;exact mu
 have RN:∀c xs,H c=some (.tup xs)→c≠x:=fun c xs r z=>by subst z;rw[r]at mu;exact mu
 by_cases hb:b=x
 ·subst hb;rw[ae]at q;cases q;exact new
 ·rw[ao hb]at q;by_cases Kh:b=e
  ·have q':H b=some (.own x):=by
    rcases he with z|z
    ·exact Z1 (Kh.trans z) hb
    ·rw[Kh];exact z
   rw[q]at q';cases q';obtain⟨v,hv⟩:=MK;exact⟨v,by rw[Kh];exact hv⟩
  ·refine(ok b u q).wF (fun c v hc r=>k c v ?_ r) (fun c r=>by rw[ao (NH c b r)];exact r) fun c xs r=>by rw[ao (RN c xs r)];exact r
   rcases hc with rfl|hc
   ·exact Kh
   ·rintro rfl;rcases he with z|z
    ·exact NH c b hc z
    ·rw[hc]at z;cases z;exact hb rfl
end
structure Un(fs ex:List Addr)(H H':Hp)(h h':Heap):Prop where
 keep:∀b o,h.get? b=some o→H b=none→b∉fs→b∉ex→h'.get? b=some o
 slot:∀b o,h.get? b=some o→H b=none→b∈fs→b∉ex→∃sl,h'.get? b=some {o with slots:=sl}
 free:∀b o,h.get? b=some o→H b=none→b∉ex→H' b=none
 there:∀b o,h.get? b=some o→b∉ex→∃o',h'.get? b=some o'
 cD:∀b xs,H b=some (.tup xs)→H' b=some (.tup xs)
 ot:∀b o u,H b=some (.sE o u)→H' b=some (.sE o u)
 rT:∀b ps,H b=some (.GV ps)→∃more,H' b=some (.GV (ps++more))
section
variable{fs W9 ex aat:List Addr}{H H1 H2:Hp}{h h1 h2 h':Heap}{a x e:Addr}{o:HO}
theorem Un.any(u:Un fs ex H H1 h h1){b:Addr}{ob:Obj}(q:h.get? b=some ob)(n:H b=none)(hx:b∉ex):∃sl,h1.get? b=some {ob with slots:=sl}:=by
 by_cases hb:b∈fs
 ·exact u.slot b ob q n hb hx
 ·exact⟨ob.slots,u.keep b ob q n hb hx⟩
theorem Un.kept(k:∀b u,h.get? b=some u→h'.get? b=some u):Un fs ex H H h h':=
 ⟨fun b ob q _ _ _=>k b ob q,fun b ob q _ _ _=>⟨ob.slots,k b ob q⟩,fun _ _ _ n _=>n,fun b ob q _=>⟨ob,k b ob q⟩,fun _ _ q=>q,fun _ _ _ q=>q,fun _ ps q=>⟨#[],by rw[q];simp⟩⟩
theorem Un.refl:Un fs ex H H h h:=Un.kept fun _ _ q=>q
theorem Un.laid(k:∀b u,h.get? b=some u→h'.get? b=some u)(hp:h.objs.size≤a)(hn:H a=none):Un fs ex H (upd H a o) h h' where
 keep:=fun b u q _ _ _=>k b u q
 slot:=fun b u q _ _ _=>⟨u.slots,k b u q⟩
 free:=fun b u q n _=>by rw[ao (Nat.ne_of_lt (Nat.lt_of_lt_of_le (ZS q) hp))];exact n
 there:=fun b u q _=>⟨u,k b u q⟩
 cD:=fun b xs q=>by rw[ao (aF q hn)];exact q
 ot:=fun b u xs q=>by rw[ao (aF q hn)];exact q
 rT:=fun b ps q=>⟨#[],by rw[ao (aF q hn),q];simp⟩
theorem Un.write(mu:NG (H x))(he:e=x∨H e=some (.own x))(k:∀b u,b≠e→h.get? b=some u→h'.get? b=some u)(MK:∃u,h'.get? e=some u):Un fs ex H (upd H x o) h h':=by
 have hx:∀b,H b=none→b≠x:=fun b n z=>by subst z;rw[n]at mu;exact mu
 have hb:∀b,H b=none→b≠e:=fun b n z=>by
  subst z;rcases he with r|r
  ·exact hx b n r
  ·rw[n]at r;cases r
 have hm:∀b u,H b=some u→¬NG (some u)→b≠x:=fun b u q nm z=>by subst z;rw[q]at mu;exact nm mu
 refine⟨fun b u q n _ _=>k b u (hb b n) q,fun b u q n _ _=>⟨u.slots,k b u (hb b n) q⟩,fun b u q n _=>by rw[ao (hx b n)];exact n,fun b u q _=>?_,
  fun b xs q=>by rw[ao (hm b _ q fun z=>z)];exact q,fun b u xs q=>by rw[ao (hm b _ q fun z=>z)];exact q,fun b ps q=>⟨#[],by rw[ao (hm b _ q fun z=>z),q];simp⟩⟩
 by_cases Kh:b=e
 ·subst Kh;exact MK
 ·exact⟨u,k b u Kh q⟩
end
def Qq(h:Heap)(H:Hp):List Addr:=(ZR h.objs.size).filter fun a=>(H a).isSome
def wG(h:Heap)(H:Hp):Heap:=PySem.W.hideAll h (Qq h H)
theorem Co(h:Heap)(H:Hp):(wG h H).objs.size=h.objs.size:=PySem.W.hideAll_size _ _
theorem D7{h:Heap}{H:Hp}{b:Addr}{o:Obj}(e:h.get? b=some o)(n:H b=none):(wG h H).get? b=some o:=
 PySem.W.hideAll_get _ e fun hm=>by
  have q:(H b).isSome=true:=(List.mem_filter.mp hm).2;rw[n]at q;simp at q
theorem GW{h:Heap}{H:Hp}{b:Addr}{o:Obj}(e:(wG h H).get? b=some o):h.get? b=some o∧H b=none:=by
 have e':h.get? b=some o:=PySem.W.of_hideAll (Qq h H) e;refine⟨e',?_⟩;cases q:H b with
 |none=>rfl
 |some x=>
  have hm:b∈Qq h H:=List.mem_filter.mpr ⟨List.mem_range.mpr (ZS e'),by simp[q]⟩;have z:(wG h H).get? b=none:=PySem.W.hideAll_none (Qq h H) hm;rw[z]at e;cases e
def GX(g h:Heap)(L:Addr):List (Addr×Obj):=(ZR h.objs.size).filterMap fun a=>if a=L∨(g.get? a).isSome=true then none else(h.get? a).map fun o=>(a,o)
def rest(g h:Heap)(L d:Addr):List (Addr×Obj):=(GX g h L).filter fun p=>decide (p.1≠d)
structure Mod(K:PySem.W.Frag)(mg:Str→Option Value)(base:Heap):Prop where
 MN:K.In base
 glob:base.Ns mainGlobals mg
 blt:∃mb,base.Ns builtinsNs mb∧∀x:Str,x≠"__name__"→mb x=bootBuiltins x
 nolimit:base.NoLimit
structure Cx where
 prog:Program
 w:World
 K:PySem.W.Frag
 mg:Str→Option Value
 base:Heap
 A:Around
 N:List Str
 dD:Shared
 eR:Hp
 env:Env
 outer:List Env
 stack:List Env
 ex:List Addr
 fn:Str→Bool
 calm:Bool
 pn:List (Addr×Obj)
 xe:Value→Shared→Prop
def oj(l:List Env):List Addr:=l.filterMap (·.frame)
abbrev Cx.fs(X:Cx):List Addr:=oj X.outer
def RO(sc:Scope)(x:Str):Prop:=sc.names.lookup x=some .local∨sc.names.lookup x=some .cell∨sc.names.lookup x=some .free
def Loc(sc:Scope)(x:Str):Prop:=sc.names.lookup x=some .local∨sc.names.lookup x=some .cell
def Look(env:Env)(h:Heap)(m:Str→Option Value)(x:Str)(u:Value):Prop:=
 (env.kindOf x=some .local∧m x=some u)∨((env.kindOf x=some .cell∨env.kindOf x=some .free)∧∃c,env.cells.lookup x=some c∧h.IsCell c (some u))
structure Cx.Ok(X:Cx):Prop where
 mod:Mod X.K X.mg X.base
 kind:X.env.scope.kind= .function
 glob:X.env.globals=mainGlobals
 blt:X.env.builtins=builtinsNs
 above:X.dD.heap.objs.size≤X.env.locals
 inj:∀x y c,X.env.cells.lookup x=some c→X.env.cells.lookup y=some c→x=y
 has:∀x,(X.env.kindOf x=some .cell∨X.env.kindOf x=some .free)→∃c,X.env.cells.lookup x=some c
 RP:∀x c,X.fn x=true→X.env.cells.lookup x=some c→X.dD.heap.objs.size≤c
 hd:X.calm=true→X.A.handled=none
 frames:X.A.frames=some X.stack
 Ve:X.stack=X.outer∨(X.stack=X.env::X.outer∧X.env.frame=some X.env.locals)
 aab:∀b∈X.ex,b≠X.env.locals∧∀x c,X.env.cells.lookup x=some c→c≠b
 bs:∀b o,X.base.get? b=some o→X.dD.heap.get? b=some o∧X.eR b=none
 Ki:X.base.objs.size≤X.dD.heap.objs.size
 Kj:∀b o,X.base.get? b=some o→b∉X.ex
 NI:∀b∈X.ex,b∉X.fs
 uT:X.dD.heap.FunFrames X.base X.outer
 NJ:∀b∈X.fs,X.eR b=none
structure Inv(X:Cx)(pins:List (Addr×Obj))(σ:List (Option V))(H:Hp)(s:Shared):Prop where
 ok:X.Ok
 os:s.os=X.dD.os
 bare:AllBare s.gens
 base:Un X.fs X.ex X.eR H X.dD.heap s.heap
 loc:∃m,s.heap.Ns X.env.locals m∧∀(i:Nat)(x:Str)(v:V),X.N[i]?=some x→σ[i]?=some (some v)→RO X.env.scope x→∃u,RelV v u∧Look X.env s.heap m x u
 cell:∀x c,X.env.cells.lookup x=some c→∃v,s.heap.IsCell c v
 free:H X.env.locals=none
 mU:∀x c,X.env.cells.lookup x=some c→H c=none
 pin:∀p∈X.pn++pins,s.heap.get? p.1=some p.2∧H p.1=none∧p.1≠X.env.locals∧p.1∉X.fs∧∀v,p.2.data≠ .cell v
 bX:lE X.prog X.w H s.heap
 len:σ.length=X.N.length
section
variable{X:Cx}{pins:List (Addr×Obj)}{σ:List (Option V)}{H H':Hp}{s:Shared}{h':Heap}
theorem Cx.Ok.RQ(ok:X.Ok){b:Addr}{o:Obj}(e:X.base.get? b=some o):b∉X.fs:=fun hb=>by
 have:=(ok.uT.mem hb).1;rw[e]at this;cases this
theorem Inv.bs(I:Inv X pins σ H s):∀b o,X.base.get? b=some o→s.heap.get? b=some o∧H b=none:=fun b o e=>
 ⟨I.base.keep b o (I.ok.bs b o e).1 (I.ok.bs b o e).2 (I.ok.RQ e) (I.ok.Kj b o e),I.base.free b o (I.ok.bs b o e).1 (I.ok.bs b o e).2 (I.ok.Kj b o e)⟩
theorem Inv.bk(I:Inv X pins σ H s):∀b o,X.base.get? b=some o→s.heap.get? b=some o:=fun b o e=>(I.bs b o e).1
theorem Inv.mod(I:Inv X pins σ H s):Mod X.K X.mg X.base:=I.ok.mod
theorem Inv.qi(I:Inv X pins σ H s):X.K.In s.heap:=I.ok.mod.MN.keeps I.bk
theorem Inv.lt(I:Inv X pins σ H s):X.env.locals<s.heap.objs.size:=let ⟨_,hn,_⟩:=I.loc;hn.lt
theorem Inv.sz(I:Inv X pins σ H s):X.dD.heap.objs.size≤s.heap.objs.size:=Nat.le_trans I.ok.above (Nat.le_of_lt I.lt)
theorem Inv.RR(I:Inv X pins σ H s){a:Addr}(h:s.heap.objs.size≤a):a∉X.fs:=fun hb=>by
 obtain⟨_,o,ho,_⟩:=I.ok.uT.mem hb;exact Z1 (Nat.lt_of_lt_of_le (ZS ho) (Nat.le_trans I.sz h)) (Nat.lt_irrefl _)
theorem Inv.Kk(I:Inv X pins σ H s):∀x c,X.env.cells.lookup x=some c→c≠X.env.locals:=fun x c e z=>by
 obtain⟨v,o,ho,hd⟩:=I.cell x c e;obtain⟨m,⟨o',es,ep,Kl,MO,_⟩,_⟩:=I.loc;rw[z,Kl]at ho;cases ho;rw[MO]at hd;cases hd
theorem Inv.uT(I:Inv X pins σ H s):s.heap.FunFrames X.base X.outer:=by
 have all:∀(l:List Env),(∀b∈oj l,b∈X.fs)→X.dD.heap.FunFrames X.base l→s.heap.FunFrames X.base l:=by
  intro l
  induction l with
  |nil=>intro _ _;trivial
  |cons env r ih=>
   intro hs hl;obtain⟨hk,⟨L,o,hf,hn,ho,hd⟩,hr⟩:=hl;have hL:L∈X.fs:=hs L (by unfold oj;rw[List.filterMap_cons,hf];exact List.mem_cons_self);obtain⟨sl,e⟩:=I.base.slot L o ho (I.ok.NJ L hL) hL fun z=>I.ok.NI L z hL
   exact⟨hk,⟨L,_,hf,hn,e,hd⟩,ih (fun b hb=>hs b (by unfold oj;rw[List.filterMap_cons,hf];exact Θ hb)) hr⟩
 exact all X.outer (fun _ hb=>hb) I.ok.uT
theorem Inv.stack(I:Inv X pins σ H s):s.heap.FunFrames X.base X.stack:=by
 rcases I.ok.Ve with e|⟨e,hf⟩
 ·rw[e];exact I.uT
 ·rw[e];obtain⟨m,hn,_⟩:=I.loc;refine .cons (by rw[I.ok.kind];decide) hf hn ?_ I.uT;exact Heap.get?_none_of_le (Nat.le_trans I.ok.Ki I.ok.above)
theorem Inv.sW(I:Inv X pins σ H s):∀b∈oj X.stack,b∈X.env.locals::X.fs:=fun b hb=>by
 rcases I.ok.Ve with e|⟨e,hf⟩
 ·rw[e]at hb;exact Θ hb
 ·rw[e]at hb;unfold oj at hb;rw[List.filterMap_cons,hf]at hb;exact hb
theorem Inv.wH(I:Inv X pins σ H s):∀b∈oj X.stack,H b=none:=fun b hb=>by
 rcases List.mem_cons.mp (I.sW b hb)with e|hb
 ·rw[e];exact I.free
 ·obtain⟨_,o,ho,_⟩:=I.ok.uT.mem hb;exact I.base.free b o ho (I.ok.NJ b hb) fun z=>I.ok.NI b z hb
theorem Inv.step{g':Array GenState}{t':Nat}{d':Drawn}{ch:List Addr}(I:Inv X pins σ H s)
  (GD:∀b∈ch,(b∈X.ex∨X.dD.heap.objs.size≤b)∧b≠X.env.locals∧(∀x c,X.env.cells.lookup x=some c→c≠b)∧∀p∈X.pn++pins,p.1≠b)
  (keep:∀b o,b≠X.env.locals→b∉X.fs→b∉ch→s.heap.get? b=some o→H b=none→h'.get? b=some o)
  (slot:∀b o,b≠X.env.locals→b∈X.fs→b∉ch→s.heap.get? b=some o→H b=none→∃sl,h'.get? b=some {o with slots:=sl}) (free:∀b o,b∉ch→s.heap.get? b=some o→H b=none→H' b=none)
  (there:∀b o,b∉ch→s.heap.get? b=some o→∃o',h'.get? b=some o')
  (cD:∀b xs,H b=some (.tup xs)→H' b=some (.tup xs)) (ot:∀b o u,H b=some (.sE o u)→H' b=some (.sE o u)) (rT:∀b ps,H b=some (.GV ps)→∃more,H' b=some (.GV (ps++more)))
  (ns:∀m,s.heap.Ns X.env.locals m→h'.Ns X.env.locals m) (bX:lE X.prog X.w H' h') (hg:AllBare g'):
  Inv X pins σ H' {s with heap:=h',gens:=g',drawn:=d',toks:=t'}:=by
 have Vf:∀b o,X.dD.heap.get? b=some o→b≠X.env.locals:=fun b o e=>Nat.ne_of_lt (Nat.lt_of_lt_of_le (ZS e) I.ok.above)
 have Qr:∀b o,X.dD.heap.get? b=some o→b∉X.ex→b∉ch:=fun b o e hx hb=>by
  rcases(GD b hb).1 with z|z
  ·exact hx z
  ·exact Z1 (Nat.lt_of_lt_of_le (ZS e) z) (Nat.lt_irrefl _)
 have cellK:∀x c,X.env.cells.lookup x=some c→∀v,s.heap.IsCell c v→h'.IsCell c v:=fun x c e v ⟨o,ho,hd⟩=>by
  have NK:c∉ch:=fun z=>(GD c z).2.2.1 x c e rfl
  by_cases hc:c∈X.fs
  ·obtain⟨sl,q⟩:=slot c o (I.Kk x c e) hc NK ho (I.mU x c e);exact⟨_,q,hd⟩
  ·exact⟨o,keep c o (I.Kk x c e) hc NK ho (I.mU x c e),hd⟩
 refine⟨I.ok,I.os,hg,⟨fun b o e n hb hx=>?_,fun b o e n hb hx=>?_,fun b o e n hx=>?_,fun b o e hx=>?_,fun b xs e=>cD b xs (I.base.cD b xs e),fun b o xs e=>ot b o xs (I.base.ot b o xs e),fun b ps e=>?_⟩,?_,fun x c e=>?_,?_,fun x c e=>?_,fun p hp=>?_,bX,I.len⟩
 ·exact keep b o (Vf b o e) hb (Qr b o e hx) (I.base.keep b o e n hb hx) (I.base.free b o e n hx)
 ·obtain⟨sl,e1⟩:=I.base.slot b o e n hb hx;obtain⟨RS,e2⟩:=slot b _ (Vf b o e) hb (Qr b o e hx) e1 (I.base.free b o e n hx);exact⟨RS,e2⟩
 ·obtain⟨o',e1⟩:=I.base.there b o e hx;exact free b o' (Qr b o e hx) e1 (I.base.free b o e n hx)
 ·obtain⟨o',e1⟩:=I.base.there b o e hx;exact there b o' (Qr b o e hx) e1
 ·obtain⟨m1,e1⟩:=I.base.rT b ps e;obtain⟨m2,e2⟩:=rT b _ e1;exact⟨m1++m2,by rw[e2,Array.append_assoc]⟩
 ·obtain⟨m,hn,hl⟩:=I.loc;refine⟨m,ns m hn,fun i x v e1 e2 e3=>?_⟩;obtain⟨u,r,l⟩:=hl i x v e1 e2 e3;refine⟨u,r,?_⟩;rcases l with l|⟨k,c,e,z⟩
  ·exact .inl l
  ·exact .inr ⟨k,c,e,cellK x c e _ z⟩
 ·obtain⟨v,z⟩:=I.cell x c e;exact⟨v,cellK x c e v z⟩
 ·obtain⟨m,⟨o,_,_,ho,_⟩,_⟩:=I.loc;exact free _ o (fun z=>(GD _ z).2.1 rfl) ho I.free
 ·obtain⟨v,o,ho,hd⟩:=I.cell x c e;exact free c o (fun z=>(GD c z).2.2.1 x c e rfl) ho (I.mU x c e)
 ·obtain⟨e,n,ne,nf,d⟩:=I.pin p hp;have NK:p.1∉ch:=fun z=>(GD p.1 z).2.2.2 p hp rfl
  exact⟨keep p.1 p.2 ne nf NK e n,free p.1 p.2 NK e n,ne,nf,d⟩
theorem Inv.un{t':Nat}(I:Inv X pins σ H s)(u:Un X.fs [] H H' s.heap h')(bX:lE X.prog X.w H' h'):Inv X pins σ H' {s with heap:=h',toks:=t'}:=by
 obtain⟨m,⟨o,es,ep,ho,r⟩,_⟩:=id I.loc;obtain⟨sl,hL⟩:=u.any ho I.free Vs;exact I.step (g':=s.gens) (d':=s.drawn) (ch:=[]) (fun _ z=>nomatch z) (fun b o _ hb _ e n=>u.keep b o e n hb Vs) (fun b o _ hb _ e n=>u.slot b o e n hb Vs) (fun b o _ e n=>u.free b o e n (XC)) (fun b o _ e=>u.there b o e Vs) u.cD u.ot u.rT (fun m' hm=>by
  obtain⟨o',zV,Qs,Kl,r'⟩:=hm;rw[ho]at Kl;cases Kl;exact⟨_,zV,Qs,hL,r'⟩) bX I.bare
theorem Inv.call{g':Array GenState}{t':Nat}{d':Drawn}{ch:List Addr}(I:Inv X pins σ H s)(u:Un (oj X.stack) ch H H' s.heap h')(bX:lE X.prog X.w H' h')(hg:AllBare g')
  (GD:∀b∈ch,(b∈X.ex∨X.dD.heap.objs.size≤b)∧b≠X.env.locals∧(∀x c,X.env.cells.lookup x=some c→c≠b)∧∀p∈X.pn++pins,p.1≠b):
  Inv X pins σ H' {s with heap:=h',gens:=g',drawn:=d',toks:=t'}:=by
 obtain⟨m,⟨o,es,ep,ho,r⟩,_⟩:=id I.loc;obtain⟨sl,hL⟩:=u.any ho I.free fun z=>(GD _ z).2.1 rfl
 exact I.step (ch:=ch) GD (fun b o hL hb hc e n=>u.keep b o e n (fun z=>(List.mem_cons.mp (I.sW b z)).elim hL hb) hc) (fun b o _ _ hc e n=>u.any e n hc) (fun b o hc e n=>u.free b o e n hc) (fun b o hc e=>u.there b o e hc) u.cD u.ot u.rT (fun m' hm=>by
  obtain⟨o',zV,Qs,Kl,r'⟩:=hm;rw[ho]at Kl;cases Kl;exact⟨_,zV,Qs,hL,r'⟩) bX hg
theorem Inv.turned{t':Nat}{it:Addr}(I:Inv X pins σ H s)(k:∀b o,b≠it→s.heap.get? b=some o→h'.get? b=some o)(hn:H it=none)(hL:it≠X.env.locals)
  (h1:it∈X.ex∨X.dD.heap.objs.size≤it) (h2:∀x c,X.env.cells.lookup x=some c→c≠it) (h3:∀p∈X.pn++pins,p.1≠it):Inv X pins σ H {s with heap:=h',toks:=t'}:=by
 have IZ:∀b u,H b=some u→b≠it:=fun b u e z=>by rw[z,hn]at e;cases e
 refine I.step (g':=s.gens) (d':=s.drawn) (ch:=[it]) (fun b hb=>?_) (fun b o _ _ hc e _=>k b o (fun z=>hc (by simp[z])) e) (fun b o _ _ hc e _=>⟨o.slots,k b o (fun z=>hc (by simp[z])) e⟩) (fun _ _ _ _ n=>n)
  (fun b o hc e=>⟨o,k b o (fun z=>hc (by simp[z])) e⟩) (fun _ _ e=>e) (fun _ _ _ e=>e) (fun b ps e=>⟨#[],by rw[e];simp⟩) (fun m hm=>?_) (fun b u e=>?_) I.bare
 ·have e:b=it:=by simpa using hb
  subst e;exact⟨h1,hL,h2,h3⟩
 ·obtain⟨o,es,ep,ho,r⟩:=hm;exact⟨o,es,ep,k _ o (Ne.symm hL) ho,r⟩
 ·refine(I.bX b u e).wF (fun c v hc q=>k c v ?_ q) (fun _ q=>q) fun _ _ q=>q
  rcases hc with z|z
  ·rw[z];exact IZ b u e
  ·exact IZ c _ z
theorem Inv.tok(I:Inv X pins σ H s)(t:Nat):Inv X pins σ H {s with toks:=t}:=I.un (h':=s.heap) (t':=t) Un.refl I.bX
theorem Inv.kept{t':Nat}(I:Inv X pins σ H s)(k:∀b u,s.heap.get? b=some u→h'.get? b=some u):Inv X pins σ H {s with heap:=h',toks:=t'}:=I.un (Un.kept k) (I.bX.kept k)
theorem Inv.laid{a:Addr}{o:HO}{t':Nat}(I:Inv X pins σ H s)(k:∀b u,s.heap.get? b=some u→h'.get? b=some u)(hp:s.heap.objs.size≤a)(new:cR X.prog X.w (upd H a o) h' a o):
  Inv X pins σ (upd H a o) {s with heap:=h',toks:=t'}:=I.un (Un.laid k hp (I.bX.fresh hp)) (I.bX.laid k hp new)
theorem Inv.write{x e:Addr}{o:HO}{t':Nat}(I:Inv X pins σ H s)(mu:NG (H x))(he:e=x∨H e=some (.own x))(k:∀b u,b≠e→s.heap.get? b=some u→h'.get? b=some u)(MK:∃u,h'.get? e=some u)
  (new:cR X.prog X.w (upd H x o) h' x o):Inv X pins σ (upd H x o) {s with heap:=h',toks:=t'}:=I.un (Un.write mu he k MK) (I.bX.write mu he k MK new)
theorem Inv.Bi{I0:List (Addr×Obj)}(I:Inv X pins σ H s)(h:∀p∈I0,s.heap.get? p.1=some p.2∧H p.1=none∧p.1≠X.env.locals∧p.1∉X.fs∧∀v,p.2.data≠ .cell v):Inv X I0 σ H s:=
 ⟨I.ok,I.os,I.bare,I.base,I.loc,I.cell,I.free,I.mU,fun p hp=>(List.mem_append.mp hp).elim (fun z=>I.pin p (γ z)) (h p),I.bX,I.len⟩
theorem yD{N:List Str}(hN:N.Nodup){i j:Nat}{x:Str}(a:N[i]?=some x)(b:N[j]?=some x):i=j:=by
 obtain⟨h1,e1⟩:=YG a;obtain⟨h2,e2⟩:=YG b;exact(List.getElem_inj hN).mp (e1.trans e2.symm)
theorem vK{M:Model}{A:Around}{E:Value→Shared→Prop}{i:Nat}{x:Str}{v:V}{u:Value}{Q:Unit→Shared→Prop}(I:Inv X pins σ H s)(hN:X.N.Nodup)(hi:X.N[i]?=some x)(hx:Loc X.env.scope x)(r:RelV v u)
  (h:∀s',Inv X pins (σ.set i (some v)) H s'→(∃a,Heap.SameBut a s.heap s'.heap∧(a=X.env.locals∨X.env.cells.lookup x=some a))→Q () s') (hf:X.fn x=true∨X.env.scope.names.lookup x=some .local:=by first|exact .inl rfl|exact .inr rfl|assumption):wpAny M A (storeName X.env x u) Q E s:=by
 obtain⟨m,hn,hl⟩:=id I.loc;have RT:(X.env.scope.kind== .class||(X.env.scope.kind== .module&&X.env.locals !=X.env.globals))=false:=by rw[I.ok.kind];rfl
 have NL:i<σ.length:=by rw[I.len];exact(YG hi).1
 have Kk:=I.Kk;have tracked:∀{a:Addr}{h':Heap},(∃o,s.heap.get? a=some o∧H a=none)→Heap.SameBut a s.heap h'→lE X.prog X.w H h':=fun{a h'} ha hs b ob e=>by
  obtain⟨_,_,Bj⟩:=ha;refine(I.bX b ob e).wF (fun c w' hc q=>(hs.2 c ?_).trans q) (fun _ q=>q) fun _ _ q=>q
  rintro rfl;rcases hc with rfl|hc
  ·rw[Bj]at e;cases e
  ·rw[Bj]at hc;cases hc
 rcases hx with hk|hk
 ·refine wpAny_storeName_local hk hn (fun h' D8 hs=>?_) RT;obtain⟨oL,_,_,I_,_⟩:=id hn;refine h _ ⟨I.ok,I.os,I.bare,⟨fun b o e n hb hx=>?_,fun b o e n hb hx=>?_,I.base.free,fun b o e hx=>?_,I.base.cD,I.base.ot,I.base.rT⟩,⟨_,D8,fun j y v' e1 e2 e3=>?_⟩,fun y c e=>?_,I.free,I.mU,fun p hp=>?_,tracked ⟨oL,I_,I.free⟩ hs,by simpa using I.len⟩ ⟨_,hs, .inl rfl⟩
  ·exact(hs.2 b (Nat.ne_of_lt (Nat.lt_of_lt_of_le (ZS e) I.ok.above))).trans (I.base.keep b o e n hb hx)
  ·obtain⟨sl,e1⟩:=I.base.slot b o e n hb hx;exact⟨sl,(hs.2 b (Nat.ne_of_lt (Nat.lt_of_lt_of_le (ZS e) I.ok.above))).trans e1⟩
  ·obtain⟨o',e1⟩:=I.base.there b o e hx;exact⟨o',(hs.2 b (Nat.ne_of_lt (Nat.lt_of_lt_of_le (ZS e) I.ok.above))).trans e1⟩
  ·by_cases hj:j=i
   ·subst hj;rw[hi]at e1;cases e1;rw[List.getElem?_set_self NL]at e2;cases e2;exact⟨u,r, .inl ⟨hk,XC⟩⟩
   ·rw[List.getElem?_set_ne (Ne.symm hj)]at e2;obtain⟨u',r',q⟩:=hl j y v' e1 e2 e3;refine⟨u',r',?_⟩;rcases q with⟨k,e⟩|⟨k,c,e,z⟩
    ·refine .inl ⟨k,?_⟩;have:y≠x:=fun e=>hj (yD hN e1 (e▸hi))
     simp[this,e]
    ·exact .inr ⟨k,c,e,z.sameBut hs (Kk y c e)⟩
  ·obtain⟨w',z⟩:=I.cell y c e;exact⟨w',z.sameBut hs (Kk y c e)⟩
  ·obtain⟨e,n,ne,nf,d⟩:=I.pin p hp;exact⟨(hs.2 p.1 ne).trans e,n,ne,nf,d⟩
 ·have NM:X.fn x=true:=by
   rcases hf with z|z
   ·exact z
   ·rw[z]at hk;cases hk
  obtain⟨c,hc⟩:=I.ok.has x (.inl hk);obtain⟨w',z⟩:=I.cell x c hc;refine wpAny_storeName_cell I.ok.kind hk hc z (fun h' Km hs=>?_);obtain⟨oc,Vg,RU⟩:=id z;refine h {s with heap:=h'} ⟨I.ok,I.os,I.bare,⟨fun b o e n hb hx=>?_,fun b o e n hb hx=>?_,I.base.free,fun b o e hx=>?_,I.base.cD,I.base.ot,I.base.rT⟩,⟨m,hn.sameBut hs (Ne.symm (Kk x c hc)),fun j y v' e1 e2 e3=>?_⟩,fun y c' e=>?_,I.free,I.mU,fun p hp=>?_,tracked ⟨oc,Vg,I.mU x c hc⟩ hs,by simpa using I.len⟩ ⟨c,hs, .inr hc⟩
  ·exact(hs.2 b (Nat.ne_of_lt (Nat.lt_of_lt_of_le (ZS e) (I.ok.RP x c NM hc)))).trans (I.base.keep b o e n hb hx)
  ·obtain⟨sl,e1⟩:=I.base.slot b o e n hb hx;exact⟨sl,(hs.2 b (Nat.ne_of_lt (Nat.lt_of_lt_of_le (ZS e) (I.ok.RP x c NM hc)))).trans e1⟩
  ·obtain⟨o',e1⟩:=I.base.there b o e hx;exact⟨o',(hs.2 b (Nat.ne_of_lt (Nat.lt_of_lt_of_le (ZS e) (I.ok.RP x c NM hc)))).trans e1⟩
  ·by_cases hj:j=i
   ·subst hj;rw[hi]at e1;cases e1;rw[List.getElem?_set_self NL]at e2;cases e2;exact⟨u,r, .inr ⟨.inl hk,c,hc,Km⟩⟩
   ·rw[List.getElem?_set_ne (Ne.symm hj)]at e2;obtain⟨u',r',q⟩:=hl j y v' e1 e2 e3;refine⟨u',r',?_⟩;rcases q with q|⟨k,c',e,z'⟩
    ·exact .inl q
    ·refine .inr ⟨k,c',e,z'.sameBut hs ?_⟩;rintro rfl;exact hj (yD hN e1 (I.ok.inj _ _ _ e hc▸hi))
  ·by_cases Vh:c'=c
   ·subst Vh;exact⟨_,Km⟩
   ·obtain⟨w2,z2⟩:=I.cell y c' e;exact⟨w2,z2.sameBut hs Vh⟩
  ·obtain⟨e,n,ne,nf,d⟩:=I.pin p hp;refine⟨(hs.2 p.1 ?_).trans e,n,ne,nf,d⟩;intro q;rw[q,Vg]at e;have q':oc=p.2:=ZO e;exact d w' (by rw[←q'];exact RU)
theorem yE{M:Model}{A:Around}{E:Value→Shared→Prop}{i:Nat}{x:Str}{v:V}{u:Value}{Q:Unit→Shared→Prop}(I:Inv X pins σ H s)(hN:X.N.Nodup)(hi:X.N[i]?=some x)(hx:Loc X.env.scope x)(r:RelV v u)
  (h:∀s',Inv X pins (σ.set i (some v)) H s'→Q () s') (hf:X.fn x=true∨X.env.scope.names.lookup x=some .local:=by first|exact .inl rfl|exact .inr rfl|assumption):wpAny M A (storeName X.env x u) Q E s:=
 vK I hN hi hx r (fun s' I' _=>h s' I') hf
theorem Inv.NN{s':Shared}{ch:List Addr}(I:Inv X pins σ H s)(ho:s'.os=s.os)(u:Un (oj X.stack) ch H H' s.heap s'.heap)(bX:lE X.prog X.w H' s'.heap)(hg:AllBare s'.gens)
  (GD:∀b∈ch,(b∈X.ex∨X.dD.heap.objs.size≤b)∧b≠X.env.locals∧(∀x c,X.env.cells.lookup x=some c→c≠b)∧∀p∈X.pn++pins,p.1≠b):Inv X pins σ H' s':=by
 obtain⟨h',g',d',t',o'⟩:=s';have e:o'=s.os:=ho;subst e;exact I.call (g':=g') (t':=t') (d':=d') u bX hg GD
end
abbrev XK:=Value→Option Addr→Hp→Prop
abbrev St:=List (Option V)
abbrev VK:=V→Hp→Prop
abbrev TE:=St→Hp→VK→Prop
abbrev TT:=St→Hp→(Bool→Hp→Prop)→Prop
abbrev TA:=St→Hp→(List V→Hp→Prop)→Prop
structure Ends where
 nx:St→Hp→Prop
 rt:VK
 bk:St→Hp→Prop:=fun _ _=>False
 ct:St→Hp→Prop:=fun _ _=>False
abbrev TS:=Ends→St→Hp→Prop
def EP(X:Cx)(pins:List (Addr×Obj))(σ:St)(Q:VK)(u:Value)(s':Shared):Prop:=∃v H',Inv X pins σ H' s'∧RelV v u∧Q v H'
def TP(X:Cx)(pins:List (Addr×Obj))(σ:St)(Q:Bool→Hp→Prop)(b:Bool)(s':Shared):Prop:=∃H',Inv X pins σ H' s'∧Q b H'
def AP(X:Cx)(pins:List (Addr×Obj))(σ:St)(Q:List V→Hp→Prop)(us:List Value)(s':Shared):Prop:=∃vs H',Inv X pins σ H' s'∧Vals vs us∧Q vs H'
def SP(X:Cx)(pins:List (Addr×Obj))(D:Ends)(f:Flow)(s':Shared):Prop:=
 match f with
 | .next=>∃bB H',Inv X pins bB H' s'∧D.nx bB H'
 | .brk=>∃bB H',Inv X pins bB H' s'∧D.bk bB H'
 | .cont=>∃bB H',Inv X pins bB H' s'∧D.ct bB H'
 | .ret u=>∃v bB H',Inv X pins bB H' s'∧RelV v u∧D.rt v H'
def PE(X:Cx)(e:Expr)(t:TE):Prop:=
 ∀(pins:List (Addr×Obj))(s:Shared)(σ:St)(H:Hp)(Q:VK),Inv X pins σ H s→t σ H Q→wpAny (model X.prog X.w) X.A (eval e X.env) (EP X pins σ Q) X.xe s
def PT(X:Cx)(e:Expr)(t:TT):Prop:=
 ∀(pins:List (Addr×Obj))(s:Shared)(σ:St)(H:Hp)(Q:Bool→Hp→Prop),Inv X pins σ H s→t σ H Q→wpAny (model X.prog X.w) X.A (isTrue e X.env (eval e X.env)) (TP X pins σ Q) X.xe s
def PW(X:Cx)(e:Expr)(t:TT):Prop:=
 ∀(whole:Sem Value)(pins:List (Addr×Obj))(s:Shared)(σ:St)(H:Hp)(Q:Bool→Hp→Prop),Inv X pins σ H s→t σ H Q→wpAny (model X.prog X.w) X.A (isTrue e X.env whole) (TP X pins σ Q) X.xe s
theorem PW.pt{X:Cx}{e:Expr}{t:TT}(h:PW X e t):PT X e t:=h _
def PA(X:Cx)(es:List Expr)(t:TA):Prop:=
 ∀(pos:Pos)(pins:List (Addr×Obj))(s:Shared)(σ:St)(H:Hp)(Q:List V→Hp→Prop),Inv X pins σ H s→t σ H Q→wpAny (model X.prog X.w) X.A (spliced (backTo pos (starEach es X.env))) (AP X pins σ Q) X.xe s
def PS(X:Cx)(st:Stmt)(t:TS):Prop:=
 ∀(pins:List (Addr×Obj))(s:Shared)(σ:St)(H:Hp)(D:Ends),Inv X pins σ H s→t D σ H→wpAny (model X.prog X.w) X.A (exec st X.env) (SP X pins D) X.xe s
def Cp(X:Cx)(st:List Stmt)(t:TS):Prop:=
 ∀(pins:List (Addr×Obj))(s:Shared)(σ:St)(H:Hp)(D:Ends),Inv X pins σ H s→t D σ H→wpAny (model X.prog X.w) X.A (execs st X.env) (SP X pins D) X.xe s
theorem cJ{α:Type}{t:Sem α}{Q Q':α→Shared→Prop}{M:Model}{A:Around}{E:Value→Shared→Prop}{s:Shared}(h:wpAny M A t Q E s)(hQ:∀a s,Q a s→Q' a s):wpAny M A t Q' E s:=wpAny_mono h hQ fun _ _ x=>x
section
variable{X:Cx}
theorem bin{a b:Expr}{ta tb:TE}(ha:PE X a ta)(hb:PE X b tb){pins:List (Addr×Obj)}{s:Shared}{σ:St}{H:Hp}{R:V→V→Hp→Prop}(I:Inv X pins σ H s)(h:ta σ H fun x H1=>tb σ H1 fun y H2=>R x y H2)
  {α:Type} {Q:α→Shared→Prop} {f:Value→Value→Sem α}
  (hf:∀v u s2 x y H2,Inv X pins σ H2 s2→RelV x v→RelV y u→R x y H2→wpAny (model X.prog X.w) X.A (f v u) Q X.xe s2):
  wpAny (model X.prog X.w) X.A (eval a X.env) (fun v cn=>wpAny (model X.prog X.w) X.A (eval b X.env) (fun u qj=>wpAny (model X.prog X.w) X.A (f v u) Q X.xe qj) X.xe cn) X.xe s:=by
 refine cJ (ha pins s σ H _ I h) fun v s1 ⟨x,H1,I1,r1,q1⟩=>?_
 refine cJ (hb pins s1 σ H1 _ I1 q1) fun u s2 ⟨y,H2,I2,r2,q2⟩=>?_
 exact hf v u s2 x y H2 I2 r1 r2 q2
inductive Kn(i:Nat)(σ:St)(H:Hp)(Q:VK):Prop
 |mk (v:_) (_:σ[i]?=some (some v)) (_:Q v H):Kn i σ H Q
def tC(v:V):TE:=fun _ H Q=>Q v H
theorem Ko{i:Nat}{x:Str}{pos:Pos}(hN:X.N[i]?=some x)(hv:RO X.env.scope x)(hd:(x==("__debug__":Str))=false:=by decide)(Cq:(x==("__classdict__":Str))=false:=by decide):PE X (.Name x pos) (Kn i):=by
 intro pins s σ H Q I h;obtain⟨v,e,h⟩:=h;obtain⟨m,hn,hl⟩:=I.loc;obtain⟨u,r,l⟩:=hl i x v hN e hv;have fin:EP X pins σ Q u s:=⟨v,H,I,r,h⟩
 rcases l with⟨hk,hm⟩|⟨hk,c,hc,Ja⟩
 ·exact wpAny_Name (wpAny_loadName_local I.ok.kind hk hn hm fin) hd
 ·rcases hk with hk|hk
  ·exact wpAny_Name (wpAny_loadName_cell I.ok.kind hk hc Ja fin) hd
  ·exact wpAny_Name (wpAny_loadName_free I.ok.kind hk hc Ja fin Cq) hd
theorem af{i j pos}:PE X (.Constant (.int i) j pos) (tC (.int i)):=fun _ _ _ H _ I h=>wpAny_Constant_int ⟨.int i,H,I.tok _,⟨_,rfl⟩,h⟩
theorem dR{b j pos}:PE X (.Constant (.bool b) j pos) (tC (.bl b)):=fun _ _ _ H _ I h=>Constant_bool ⟨.bl b,H,I,rfl,h⟩
theorem jR{j pos}:PE X (.Constant .none j pos) (tC .cL):=fun _ _ _ H _ I h=>Constant_none ⟨.cL,H,I,rfl,h⟩
theorem bY{x j pos}:PE X (.Constant (.str x) j pos) (tC (.str x)):=fun _ _ _ H _ I h=>Calls.Constant_str ⟨.str x,H,I.tok _,⟨_,rfl⟩,h⟩
def Gl(X:Cx)(x:Str):Prop:=X.env.kindOf x=some .globalImplicit
theorem ow{E:Value→Shared→Prop}{pins:List (Addr×Obj)}{s:Shared}{σ:St}{H:Hp}{x:Str}{u:Value}{pos:Pos}{Q:Value→Shared→Prop}(I:Inv X pins σ H s)(hg:Gl X x)(hm:X.mg x=some u)(h:Q u s)
  (hd:(x==("__debug__":Str))=false:=by decide):wpAny (model X.prog X.w) X.A (eval (.Name x pos) X.env) Q E s:=
 Calls.Name_function_global I.ok.kind hg (Calls.loadGlobal_global (by rw[I.ok.glob];exact I.mod.glob.keeps I.bk) hm h) hd
theorem lF{E:Value→Shared→Prop}{pins:List (Addr×Obj)}{s:Shared}{σ:St}{H:Hp}{x:Str}{u:Value}{pos:Pos}{Q:Value→Shared→Prop}(I:Inv X pins σ H s)(hg:Gl X x)(hm:X.mg x=none)(hv:bootBuiltins x=some u)(h:Q u s)
  (hn:x≠"__name__":=by decide) (hd:(x==("__debug__":Str))=false:=by decide):wpAny (model X.prog X.w) X.A (eval (.Name x pos) X.env) Q E s:=by
 obtain⟨mb,h1,h2⟩:=I.mod.blt;exact Calls.Name_function_global I.ok.kind hg (Calls.loadGlobal_builtin (by rw[I.ok.glob];exact I.mod.glob.keeps I.bk) hm (by rw[I.ok.blt];exact h1.keeps I.bk) ((h2 x hn).trans hv) h) hd
theorem Bk{x:Str}{v:V}{u:Value}{pos:Pos}(hg:Gl X x)(hm:X.mg x=some u)(r:RelV v u)(hd:(x==("__debug__":Str))=false:=by decide):PE X (.Name x pos) (tC v):=
 fun _ _ _ H _ I h=>ow I hg hm ⟨v,H,I,r,h⟩ hd
theorem jr{x:Str}{v:V}{u:Value}{pos:Pos}(hg:Gl X x)(hm:X.mg x=none)(hv:bootBuiltins x=some u)(r:RelV v u)(hn:x≠"__name__":=by decide)(hd:(x==("__debug__":Str))=false:=by decide):PE X (.Name x pos) (tC v):=
 fun _ _ _ H _ I h=>lF I hg hm hv ⟨v,H,I,r,h⟩ hn hd
variable{a b:Expr}{ta tb:TE}{pos:Pos}
def PC(X:Cx)(op:CmpOp)(a b:Expr)(t:TE):Prop:=
 ∀(pins:List (Addr×Obj))(s:Shared)(σ:St)(H:Hp)(Q:VK),Inv X pins σ H s→t σ H Q→
  wpAny (model X.prog X.w) X.A (eval a X.env) (fun v cn=>wpAny (model X.prog X.w) X.A (eval b X.env) (fun u qj=>wpAny (model X.prog X.w) X.A (compareOp op v u) (EP X pins σ Q) X.xe qj) X.xe cn) X.xe s
theorem bj(b:Expr){op:CmpOp}(h:op≠ .In)(h2:op≠ .NotIn):behindInMarks op b=false:=by
 have e1:(op==CmpOp.In)=false:=by cases op<;>first|rfl|exact absurd rfl h
 have e2:(op==CmpOp.NotIn)=false:=by cases op<;>first|rfl|exact absurd rfl h2
 cases b<;>simp[behindInMarks,e1,e2]
def RV(ta:TE):TE:=fun σ H Q=>ta σ H fun x H1=>Q (.bl (decide (x= .cL))) H1
def NO(ta:TE):TE:=fun σ H Q=>ta σ H fun x H1=>Q (.bl (!decide (x= .cL))) H1
theorem RelV.yF{x:V}{v:Value}(r:RelV x v):(v==Value.none)=decide (x= .cL):=by
 cases x with
 |cL=>cases r;rfl
 |bl _=>cases r;rfl
 |int _=>obtain⟨t,rfl⟩:=r;rfl
 |str _=>obtain⟨t,rfl⟩:=r;rfl
 |Cn _=>obtain⟨t,rfl⟩:=r;rfl
 |IY _=>obtain⟨t,rfl⟩:=r;rfl
 |ref _=>cases r;rfl
 |ty _=>cases r;rfl
theorem lG{j pos'}(ha:PE X a ta):PC X .Is a (.Constant .none j pos') (RV ta):=by
 intro pins s σ H Q I h;refine cJ (ha pins s σ H _ I h) fun v s1 ⟨x,H1,I1,r1,q1⟩=>?_
 exact Constant_none (is_none_gen ⟨.bl _,H1,I1,by rw[r1.yF];rfl,q1⟩)
theorem oz{j pos'}(ha:PE X a ta):PC X .IsNot a (.Constant .none j pos') (NO ta):=by
 intro pins s σ H Q I h;refine cJ (ha pins s σ H _ I h) fun v s1 ⟨x,H1,I1,r1,q1⟩=>?_
 exact Constant_none (isnot_none_gen ⟨.bl _,H1,I1,by rw[r1.yF];rfl,q1⟩)
inductive NP(x:V)(H:Hp)(Q:Bool→Hp→Prop):Prop
 |mk (c:Bool) (_:x= .bl c) (_:Q c H):NP x H Q
def tB(t:TE):TT:=fun σ H Q=>t σ H fun x H1=>NP x H1 Q
theorem zW{op:CmpOp}{t:TE}(h:PC X op a b t)(h1:behindInMarks op b=false:=by first|exact bj _ (WV) (WV)|rfl):PE X (.Compare a [op] [b] pos) t:=fun pins s σ H Q I hw=>wpAny_Compare1 (h pins s σ H Q I hw) h1
theorem eA{op:CmpOp}{t:TE}(h:PC X op a b t)(h1:behindInMarks op b=false:=by first|exact bj _ (WV) (WV)|rfl):PT X (.Compare a [op] [b] pos) (tB t):=by
 intro pins s σ H Q I hw;refine wpAny_isTrue_Compare1 (cJ (h pins s σ H _ I hw) fun v s1 h1=>cJ h1 fun u s2 h2=>cJ h2 fun c s3 ⟨x,H1,I1,r1,q1⟩=>?_) h1;obtain⟨d,rfl,q⟩:=q1;cases r1;exact wpAny_truthy_bool ⟨H1,I1,q⟩
theorem bZ{e:Expr}{t:TE}(h:PE X e t)(he:∀whole,isTrue e X.env whole=(do let v←whole;standAt e.pos;holding [v] (truthy v)):=by intro _;rfl):PT X e (tB t):=by
 intro pins s σ H Q I hw;refine isTrue_plain (cJ (h pins s σ H _ I hw) fun v s1 ⟨x,H1,I1,r1,q1⟩=>?_) (he _);obtain⟨d,rfl,q⟩:=q1;cases r1;exact wpAny_truthy_bool ⟨H1,I1,q⟩
variable{tA Qt:TT}{rest:List Expr}
def RW(t u:TT):TT:=fun σ H Q=>t σ H fun c H1=>if c=true then u σ H1 Q else Q false H1
def W_(t u:TT):TT:=fun σ H Q=>t σ H fun c H1=>if c=true then Q true H1 else u σ H1 Q
def RX(t:TT):TT:=fun σ H Q=>t σ H fun c H1=>Q (!c) H1
theorem pw_and1(ha:PT X a tA):PW X (.BoolOp .And [a] pos) tA:=by
 intro wh pins s σ H Q I h;refine isTrue_and (cJ (ha pins s σ H Q I h) fun c s1 e=>?_);cases c with
 |true=>exact isTrue_and_nil e
 |false=>exact e
theorem pw_or1(ha:PT X a tA):PW X (.BoolOp .Or [a] pos) tA:=by
 intro wh pins s σ H Q I h;refine isTrue_or (cJ (ha pins s σ H Q I h) fun c s1 e=>?_);cases c with
 |false=>exact isTrue_or_nil e
 |true=>exact e
theorem pw_and(ha:PT X a tA)(hb:PW X (.BoolOp .And (b::rest) pos) Qt):PW X (.BoolOp .And (a::b::rest) pos) (RW tA Qt):=by
 intro wh pins s σ H Q I h;refine isTrue_and (cJ (ha pins s σ H _ I h) fun c s1 ⟨H1,I1,q1⟩=>?_);cases c with
 |true=>exact hb wh pins s1 σ H1 Q I1 q1
 |false=>exact⟨H1,I1,q1⟩
theorem pw_or(ha:PT X a tA)(hb:PW X (.BoolOp .Or (b::rest) pos) Qt):PW X (.BoolOp .Or (a::b::rest) pos) (W_ tA Qt):=by
 intro wh pins s σ H Q I h;refine isTrue_or (cJ (ha pins s σ H _ I h) fun c s1 ⟨H1,I1,q1⟩=>?_);cases c with
 |true=>exact⟨H1,I1,q1⟩
 |false=>exact hb wh pins s1 σ H1 Q I1 q1
theorem cN(ha:PT X a tA):PT X (.UnaryOp .Not a pos) (RX tA):=by
 intro pins s σ H Q I h;exact isTrue_not (ha pins s σ H (fun c H1=>Q (!c) H1) I h)
def NQ(ta tb:TE):TE:=fun σ H Q=>ta σ H fun x H1=>∃c,x= .bl c∧if c=true then tb σ H1 Q else Q (.bl false) H1
def NR(ta:TE):TE:=fun σ H Q=>ta σ H fun x H1=>∃c,x= .bl c∧Q (.bl (!c)) H1
theorem wI{op}{t:TE}(h:PE X a t):PE X (.BoolOp op [a] pos) t:=fun pins s σ H Q I hw=>BoolOp_one (h pins s σ H Q I hw)
theorem wJ(ha:PE X a ta)(hb:PE X (.BoolOp .And (b::rest) pos) tb):PE X (.BoolOp .And (a::b::rest) pos) (NQ ta tb):=by
 intro pins s σ H Q I h;refine BoolOp_and (cJ (ha pins s σ H _ I h) fun v s1 ⟨x,H1,I1,r1,q1⟩=>?_);obtain⟨c,rfl,q1⟩:=q1;cases r1;refine wpAny_truthy_bool ?_;cases c with
 |true=>exact hb pins s1 σ H1 Q I1 q1
 |false=>exact⟨.bl false,H1,I1,rfl,q1⟩
theorem Kq(ha:PE X a ta):PE X (.UnaryOp .Not a pos) (NR ta):=by
 intro pins s σ H Q I h;refine UnaryOp_ (cJ (ha pins s σ H _ I h) fun v s1 ⟨x,H1,I1,r1,q1⟩=>?_);obtain⟨c,rfl,q1⟩:=q1;cases r1;exact not_of (wpAny_truthy_bool ⟨.bl (!c),H1,I1,rfl,q1⟩)
def Xa(t:TT)(ta tb:TE):TE:=fun σ H Q=>t σ H fun c H1=>if c=true then ta σ H1 Q else tb σ H1 Q
theorem oA{c:Expr}(hc:PT X c tA)(ha:PE X a ta)(hb:PE X b tb):PE X (.IfExp c a b pos) (Xa tA ta tb):=by
 intro pins s σ H Q I h;refine wpAny_IfExp (cJ (hc pins s σ H _ I h) fun d s1 ⟨H1,I1,q1⟩=>?_);cases d with
 |true=>exact ha pins s1 σ H1 Q I1 q1
 |false=>exact hb pins s1 σ H1 Q I1 q1
end
def ir(K:PySem.W.Frag)(H:Hp)(a:Addr)(xs:List V):Prop:=
 Rd H a (.lst xs)∨
  ∃(o:Obj)(its:Array Value)(n:Nat),K.lookup a=some o∧o.cls= .type "list"∧o.dict=none∧o.data= .seq its n∧its.size≤sizeLine∧Vals xs its.toList
def DM(K:PySem.W.Frag)(H:Hp)(a:Addr)(xs:List V):Prop:=
 Rd H a (.tup xs)∨
  ∃(o:Obj)(its:Array Value)(n:Nat),K.lookup a=some o∧o.cls= .type "tuple"∧o.data= .seq its n∧its.size≤sizeLine∧Vals xs its.toList
def RY:Value→Option V
 | .none=>some .cL
 | .bool b=>some (.bl b)
 | .int i _=>some (.int i)
 | .str x _=>some (.str x)
 | .bytes b _=>some (.Cn b)
 | .float b _=>some (.IY b)
 | .ref a=>some (.ref a)
 | .type n=>some (.ty n)
 | _=>none
theorem RelV.abs{x:V}{u:Value}(r:RelV x u):RY u=some x:=by
 cases x with
 |cL=>cases r;rfl
 |bl _=>cases r;rfl
 |int _=>obtain⟨t,rfl⟩:=r;rfl
 |str _=>obtain⟨t,rfl⟩:=r;rfl
 |Cn _=>obtain⟨t,rfl⟩:=r;rfl
 |IY _=>obtain⟨t,rfl⟩:=r;rfl
 |ref _=>cases r;rfl
 |ty _=>cases r;rfl
theorem RelV.inj{x y:V}{u:Value}(r:RelV x u)(q:RelV y u):x=y:=ZO (r.abs.symm.trans q.abs)
theorem Vals.inj:∀{xs ys:List V}{us:List Value},Vals xs us→Vals ys us→xs=ys
 | _,_,_, .nil, .nil=>rfl
 | _,_,_, .cons r t, .cons r' t'=>by rw[r.inj r',Vals.inj t t']
section
variable{X:Cx}{pins:List (Addr×Obj)}{σ:St}{H:Hp}{s:Shared}{a:Addr}{xs ys:List V}
theorem ir.of{K:PySem.W.Frag}(h:H a=some (.lst xs)):ir K H a xs:= .inl (.inl h)
theorem DM.of{K:PySem.W.Frag}(h:H a=some (.tup xs)):DM K H a xs:= .inl (.inl h)
theorem Inv.list(I:Inv X pins σ H s)(h:ir X.K H a xs):∃its:List Value,Vals xs its∧PlainL s.heap a its.toArray∧xs.length≤sizeLine:=by
 rcases h with h|⟨o,its,n,hk,hc,hd,hs,hz,r⟩
 ·obtain⟨z,its,n,r,e⟩:=h.ok I.bX;exact⟨its,r,⟨_,n,e,rfl,rfl,rfl⟩,z⟩
 ·refine⟨its.toList,r,⟨o,n,I.qi a o hk,hc,hd,by simpa using hs⟩,?_⟩;have e:=r.length;simp only[Array.length_toList]at e;omega
theorem Inv.tuple(I:Inv X pins σ H s)(h:DM X.K H a xs):∃its:List Value,Vals xs its∧IsTup s.heap a its.toArray∧xs.length≤sizeLine:=by
 rcases h with h|⟨o,its,n,hk,hc,hs,hz,r⟩
 ·obtain⟨z,its,r,p⟩:=h.ok I.bX;exact⟨its,r,p,z⟩
 ·refine⟨its.toList,r,⟨o,I.qi a o hk,hc,n,by simpa using hs⟩,?_⟩;have e:=r.length;simp only[Array.length_toList]at e;omega
theorem Inv.yG(I:Inv X pins σ H s)(h:ir X.K H a xs)(h':ir X.K H a ys):xs=ys:=by
 obtain⟨its,r,⟨o,n,e,_,_,d⟩,_⟩:=I.list h;obtain⟨its',r',⟨o',n',e',_,_,d'⟩,_⟩:=I.list h';rw[e]at e';cases e';rw[d]at d';injection d' with d1 _;have:its=its':=by simpa using congrArg Array.toList d1
 subst this;exact r.inj r'
end
abbrev Cx.aaj(X:Cx)(E:Value→Shared→Prop):Cx:={X with xe:=E}
section
variable{X:Cx}{pins:List (Addr×Obj)}{σ:St}{H:Hp}{s:Shared}{E:Value→Shared→Prop}
end
section
variable{X:Cx}{st:Stmt}{rest:List Stmt}{t u:TS}{e:Expr}{te:TE}{pos:Pos}
def NU:TS:=fun D σ H=>D.nx σ H
def RZ(t u:TS):TS:=fun D σ H=>t {D with nx:=u D} σ H
theorem aP:Cp X [] NU:=fun _ _ σ H _ I h=>wpAny_execs_nil ⟨σ,H,I,h⟩
theorem ax(h1:PS X st t)(h2:Cp X rest u):Cp X (st::rest) (RZ t u):=by
 intro pins s σ H D I h;refine wpAny_execs_cons (cJ (h1 pins s σ H {D with nx:=u D} I h) fun f s1 q=>?_);cases f with
 |next=>
  obtain⟨bB,H',I',q⟩:=q;exact h2 pins s1 bB H' D I' q
 |ret v=>exact q
 |brk=>exact q
 |cont=>exact q
theorem aq(h1:PS X st t):Cp X [st] t:=by
 intro pins s σ H D I h;refine wpAny_execs_cons (cJ (h1 pins s σ H D I h) fun f s1 q=>?_);cases f with
 |next=>exact wpAny_execs_nil q
 |ret v=>exact q
 |brk=>exact q
 |cont=>exact q
theorem Inv.quiet{pins:List (Addr×Obj)}{σ:St}{H:Hp}{s:Shared}(I:Inv X pins σ H s):interactive X.env=false:=by simp[interactive,I.ok.kind]
def NV(te:TE):TS:=fun D σ H=>te σ H fun _ H1=>D.nx σ H1
theorem a8(he:PE X e te)(hs:swapsWith e none pos.line X.env=pure false:=by rfl):PS X (.Expr e pos) (NV te):=by
 intro pins s σ H D I h;exact wpAny_Expr_any (cJ (he pins s σ H _ I h) fun v s1 ⟨x,H1,I1,r1,q1⟩=>⟨σ,H1,I1,q1⟩) I.quiet hs
def R0(te:TE):TS:=fun D σ H=>te σ H D.rt
theorem aM(he:PE X e te):PS X (.Return (some e) pos) (R0 te):=by
 intro pins s σ H D I h;exact wpAny_Return_some (cJ (he pins s σ H _ I h) fun v s1 ⟨x,H1,I1,r1,q1⟩=>⟨x,σ,H1,I1,r1,q1⟩)
def R1(c:TT)(t u:TS):TS:=fun D σ H=>c σ H fun b H1=>if b=true then t D σ H1 else u D σ H1
theorem a9{c:Expr}{a b:List Stmt}{tc:TT}(hc:PT X c tc)(ha:Cp X a t)(hb:Cp X b u):PS X (.If c a b pos) (R1 tc t u):=by
 intro pins s σ H D I h;refine wpAny_If (cJ (hc pins s σ H _ I h) fun d s1 ⟨H1,I1,q1⟩=>?_);cases d with
 |true=>exact ha pins s1 σ H1 D I1 q1
 |false=>exact hb pins s1 σ H1 D I1 q1
end
abbrev TG:=V→St→Hp→(St→Hp→Prop)→Prop
abbrev Jb:=List V→St→Hp→(St→Hp→Prop)→Prop
def PG(X:Cx)(target:Expr)(t:TG):Prop:=
 ∀(pins:List (Addr×Obj))(s:Shared)(σ:St)(H:Hp)(v:V)(u:Value)(Q:St→Hp→Prop),Inv X pins σ H s→RelV v u→t v σ H Q→
  wpAny (model X.prog X.w) X.A (assign target X.env u) (fun _ s'=>∃bB H',Inv X pins bB H' s'∧Q bB H') X.xe s
def NW(X:Cx)(ts:List Expr)(t:Jb):Prop:=
 ∀(pins:List (Addr×Obj))(s:Shared)(σ:St)(H:Hp)(vs:List V)(us:List Value)(Q:St→Hp→Prop),Inv X pins σ H s→Vals vs us→t vs σ H Q→
  wpAny (model X.prog X.w) X.A (assignInOrder ((assignEach ts X.env).map (·.2)) us) (fun _ s'=>∃bB H',Inv X pins bB H' s'∧Q bB H') X.xe s
abbrev Kr:=V→V→V→Hp→(Hp→Prop)→Prop
def NX(X:Cx)(t:Kr):Prop:=
 ∀(pins:List (Addr×Obj))(s:Shared)(σ:St)(H:Hp)(o i v:V)(ov iv u:Value)(Q:Hp→Prop),Inv X pins σ H s→RelV o ov→RelV i iv→RelV v u→t o i v H Q→
  wpAny (model X.prog X.w) X.A (setItem ov iv u) (fun _ s'=>∃H',Inv X pins σ H' s'∧Q H') X.xe s
section
variable{X:Cx}{pos:Pos}
def Bl(i:Nat):TG:=fun v σ H Q=>Q (σ.set i (some v)) H
theorem aJ{i:Nat}{x:Str}(hN:X.N.Nodup)(hi:X.N[i]?=some x)(hx:Loc X.env.scope x)(hf:X.fn x=true∨X.env.scope.names.lookup x=some .local:=by first|exact .inl rfl|exact .inr rfl|assumption):PG X (.Name x pos) (Bl i):=by
 intro pins s σ H v u Q I r h;exact wpAny_assign_Name (yE I hN hi hx r (fun s' I'=>⟨_,H,I',h⟩) hf)
def R3:Jb:=fun vs σ H Q=>vs=[]∧Q σ H
def NY(t:TG)(u:Jb):Jb:=fun vs σ H Q=>∃v r,vs=v::r∧t v σ H fun bB H'=>u r bB H' Q
theorem fq:NW X [] R3:=by
 intro pins s σ H vs us Q I r h;obtain⟨e,h⟩:=h;subst e;cases r;exact assignInOrder_nil ⟨σ,H,I,h⟩
theorem aY{e:Expr}{es:List Expr}{t:TG}{u:Jb}(h1:PG X e t)(h2:NW X es u)
  (hs:(assignEach (e::es) X.env).map (·.2)=assign e X.env::(assignEach es X.env).map (·.2):=by rfl):NW X (e::es) (NY t u):=by
 intro pins s σ H vs us Q I r h;obtain⟨v,vr,e1,h⟩:=h;subst e1;cases r with
 |cons r rr=>
  rw[hs];refine assignInOrder_cons (cJ (h1 pins s σ H _ _ _ I r h) fun _ s1 ⟨MP,H1,I1,q1⟩=>?_);exact h2 pins s1 MP H1 _ _ Q I1 rr q1
inductive Kt(K:PySem.W.Frag)(n:Nat)(t:Jb)(v:V)(σ:St)(H:Hp)(Q:St→Hp→Prop):Prop
 |mk (a:_) (xs:_) (_:v= .ref a) (_:DM K H a xs) (_:xs.length=n) (_:t xs σ H Q):Kt K n t v σ H Q
theorem Ku{es:List Expr}{k:Nat}{t:Jb}{n:Nat}(hc:X.calm=true)(h:NW X es t)
  (hn:(assignEach es X.env).length=n:=by rfl) (uN:(assignEach es X.env).findIdx? (·.1)=none:=by rfl):PG X (.Tuple es k pos) (Kt X.K n t):=by
 intro pins s σ H v u Q I r hw;obtain⟨a,xs,e1,hq,hl,hw⟩:=hw;subst e1;cases r;obtain⟨its,rv,ht,hz⟩:=I.tuple hq;refine assign_Tuple_tuple (I.ok.hd hc) ht (by simp[hn,←hl,rv.length]) uN fun h' hx=>?_
 have I1:Inv X pins σ H {s with heap:=h'}:=I.kept (t':=s.toks) fun b o e=>hx b o (Nat.ne_of_lt (ZS e)) e
 exact h pins _ σ H xs _ Q I1 (by simpa using rv) hw
def R4(to ti:TE)(t:Kr):TG:=fun v σ H Q=>to σ H fun o H1=>ti σ H1 fun i H2=>t o i v H2 fun H3=>Q σ H3
theorem Kv{o i:Expr}{to ti:TE}{t:Kr}(ho:PE X o to)(hi:PE X i ti)(hs:NX X t)
  (ha:∀v,assign (.Subscript o i pos) X.env v=(do
   let ov←holding [v] (eval o X.env)
   let iv←holding [v,ov] (eval i X.env)
   standAt pos
   holding [v,ov,iv] (setItem ov iv v)
   release [v,ov,iv] []):=by intro _;rfl):PG X (.Subscript o i pos) (R4 to ti t):=by
 intro pins s σ H v u Q I r h;rw[ha];refine wpAny_bind (wpAny_holding (cJ (ho pins s σ H _ I h) fun ov s1 ⟨x,H1,I1,r1,q1⟩=>?_));refine wpAny_bind (wpAny_holding (cJ (hi pins s1 σ H1 _ I1 q1) fun iv s2 ⟨y,H2,I2,r2,q2⟩=>?_));refine wpAny_bind (wpAny_standAt (ZN (wpAny_holding (cJ (hs pins s2 σ H2 x y v ov iv u _ I2 r1 r2 r q2) fun _ s3 ⟨H3,I3,q3⟩=>?_))));exact wpAny_release ⟨σ,H3,I3,q3⟩
def Kx(te:TE)(g:TG):TS:=fun D σ H=>te σ H fun x H1=>g x σ H1 D.nx
theorem zX{tg e:Expr}{te:TE}{g:TG}(he:PE X e te)(hg:PG X tg g)(hs:swapsWithSole [tg] e pos.line X.env=pure false:=by rfl)(hw:swappedStores [tg] e X.env=pure none:=by rfl)
  (h1:(assignEach [tg] X.env).map (·.2)=[assign tg X.env]:=by rfl):PS X (.Assign [tg] e pos) (Kx te g):=by
 intro pins s σ H D I h;refine wpAny_Assign_stores (cJ (he pins s σ H _ I h) fun v s1 ⟨x,H1,I1,r1,q1⟩=>?_) hs hw;rw[h1];exact cJ (hg pins s1 σ H1 x v _ I1 r1 q1) fun _ s2 q=>q
theorem aH{i:Nat}{x:Str}{e:Expr}{te:TE}{pos':Pos}(hN:X.N.Nodup)(hi:X.N[i]?=some x)(hx:Loc X.env.scope x)(he:PE X e te)(hs:swapsWith e (some (.Name x pos')) pos.line X.env=pure false:=by rfl)(hf:X.fn x=true∨X.env.scope.names.lookup x=some .local:=by first|exact .inl rfl|exact .inr rfl|assumption):
  PS X (.Assign [.Name x pos'] e pos) (Kx te (Bl i)):=by
 intro pins s σ H D I h;refine wpAny_Assign_Name (cJ (he pins s σ H _ I h) fun v s1 ⟨y,H1,I1,r1,q1⟩=>?_) hs;exact yE I1 hN hi hx r1 (fun s2 I2=>⟨_,H1,I2,q1⟩) hf
end
section
variable{X:Cx}{pos:Pos}
def Kz(c:TT)(tb:TS):TS:=fun D σ H=>∃W:Nat→St→Hp→Prop,(∃m,W m σ H)∧∀m σ H,W m σ H→
 c σ H fun b H1=>if b=true then ∃N:St→Hp→Prop,(∀bB H',N bB H'→∃m',m'<m∧W m' bB H')∧tb {D with nx:=N,ct:=N,bk:=D.nx} σ H1 else D.nx σ H1
theorem sX{c:Expr}{body:List Stmt}{tc:TT}{tb:TS}(hp:PassesOwn (model X.prog X.w) X.A X.env X.xe)(hc:PT X c tc)(hb:Cp X body tb):PS X (.While c body [] pos) (Kz tc tb):=by
 intro pins s σ H D I h;obtain⟨W,⟨m0,w0⟩,turn⟩:=h;refine wpAny_While (codeAny_whileLoop (fun n s'=>∃bB H',Inv X pins bB H' s'∧W n bB H') ?_ m0 ⟨σ,H,I,w0⟩);rintro n s1 ⟨MP,H1,I1,w1⟩;refine wpAny_passesOwn hp (cJ (hc pins s1 MP H1 _ I1 (turn n MP H1 w1)) fun b s2 ⟨H2,I2,q2⟩=>?_);cases b with
 |true=>
  obtain⟨N,hN,q2⟩:=q2;rw[if_pos rfl];refine wpAny_passesOwn hp (cJ (hb pins s2 MP H2 _ I2 q2) fun f s3 q3=>?_);cases f with
  |next=>
   obtain⟨D9,H3,I3,n3⟩:=q3;obtain⟨m',hm,w3⟩:=hN D9 H3 n3;exact⟨m',hm,D9,H3,I3,w3⟩
  |cont=>
   obtain⟨D9,H3,I3,n3⟩:=q3;obtain⟨m',hm,w3⟩:=hN D9 H3 n3;exact⟨m',hm,D9,H3,I3,w3⟩
  |brk=>exact q3
  |ret v=>exact q3
 |false=>
  rw[Je Bool.false_ne_true];exact wpAny_execs_nil ⟨MP,H2,I2,q2⟩
end
structure It where
 go:Nat→Hp→Prop
 GY:Nat→Hp→V→Hp→Prop
 stop:Nat→Hp→Prop
def iu(X:Cx)(pins:List (Addr×Obj))(H:Hp)(b:Addr):Prop:=
 H b=none∧b≠X.env.locals∧b∉X.fs∧(b∈X.ex∨X.dD.heap.objs.size≤b)∧(∀x c,X.env.cells.lookup x=some c→c≠b)∧∀p∈X.pn++pins,p.1≠b
theorem Inv.uU{X:Cx}{pins:List (Addr×Obj)}{σ:St}{H H':Hp}{s:Shared}{b:Addr}(I:Inv X pins σ H s)(hb:s.heap.objs.size≤b)(hn:H' b=none):iu X pins H' b:=by
 refine⟨hn,Nat.ne_of_gt (Nat.lt_of_lt_of_le I.lt hb),I.RR hb, .inr (Nat.le_trans I.sz hb),fun x c e z=>?_,fun p hp z=>?_⟩
 ·obtain⟨v,q⟩:=I.cell x c e;exact Z1 (Nat.lt_of_lt_of_le q.lt (by rw[z];exact hb)) (Nat.lt_irrefl _)
 ·exact Z1 (Nat.lt_of_lt_of_le (ZS (I.pin p hp).1) (by rw[z];exact hb)) (Nat.lt_irrefl _)
structure Turn(P:Program)(w:World)(K:PySem.W.Frag)(tg:Expr)(J:It)(fp:List Addr)(it:Addr)(tn:Nat→Heap→Prop):Prop where
 mem:it∈fp
 obj:∀i h,tn i h→∀b∈fp,∃o,h.get? b=some o∧∀v,o.data≠ .cell v
 keep:∀i h h',tn i h→(∀b∈fp,∀o,h.get? b=some o→h'.get? b=some o)→tn i h'
 item:∀(X:Cx),X.prog=P→X.w=w→X.K=K→X.calm=true→∀(i:Nat)(pins:List (Addr×Obj))(s:Shared)(σ:St)(H:Hp)(E:Value→Shared→Prop),Inv X pins σ H s→(∀b∈fp,iu X pins H b)→tn i s.heap→J.go i H→
  wpAny (model P w) X.A (pyNext (.ref it)) (fun r s1=>∃u,r=some u∧
   wpAny (model P w) X.A (letOwnedTupleGo tg (.ref it) u) (fun _ s2=>∃x H',Inv X pins σ H' s2∧RelV x u∧J.GY i H x H'∧tn (i+1) s2.heap∧∀b∈fp,H' b=none) E s1) E s
 done:∀(X:Cx),X.prog=P→X.w=w→X.K=K→X.calm=true→∀(i:Nat)(pins:List (Addr×Obj))(s:Shared)(σ:St)(H:Hp)(E:Value→Shared→Prop),Inv X pins σ H s→(∀b∈fp,iu X pins H b)→tn i s.heap→J.stop i H→
  wpAny (model P w) X.A (pyNext (.ref it)) (fun r s1=>r=none∧Inv X pins σ H s1) E s
 self:∀(A:Around)(i:Nat)(s:Shared)(Q:Value→Shared→Prop)(E:Value→Shared→Prop),tn i s.heap→Q (.ref it) s→wpAny (model P w) A (pyIter (.ref it)) Q E s
abbrev TI:=St→Hp→(It→Hp→Prop)→Prop
def R5(X:Cx)(pins:List (Addr×Obj))(σ:St)(tg:Expr)(R:It→Hp→Prop)(R6:Value)(s2:Shared):Prop:=
 ∃(it:Addr)(fp:List Addr)(tn:Nat→Heap→Prop)(J:It)(H':Hp),R6= .ref it∧Inv X pins σ H' s2∧Turn X.prog X.w X.K tg J fp it tn∧tn 0 s2.heap∧(∀b∈fp,iu X pins H' b)∧R J H'
def PI(X:Cx)(tg iter:Expr)(wi:TI):Prop:=
 ∀(pins:List (Addr×Obj))(s:Shared)(σ:St)(H:Hp)(R:It→Hp→Prop),Inv X pins σ H s→wi σ H R→
  wpAny (model X.prog X.w) X.A (eval iter X.env) (fun v s1=>wpAny (model X.prog X.w) X.A (pyIter v) (R5 X pins σ tg R) X.xe s1) X.xe s
theorem yH{M:Model}{A:Around}{E:Value→Shared→Prop}{s:Shared}{tg:Expr}{it:Addr}{u:Value}{o:Obj}{n:String}{vs:Array Value}{Q:Unit→Shared→Prop}(ho:s.heap.get? it=some o)(hc:o.cls= .type n)(hd:o.data= .fields vs)
  (hn:["enumerate","zip","dict_itemiterator","dict_reverseitemiterator","odict_iterator","itertools.zip_longest","itertools.pairwise"].contains n=false) (hQ:Q () s):wpAny M A (letOwnedTupleGo tg (.ref it) u) Q E s:=by
 unfold letOwnedTupleGo;cases tg<;>first
  |exact ZF hQ
  |(cases u<;>first
    |exact ZF hQ
    |(refine wpAny_bind (wpAny_load ho ?_)
      rw[hc,hd];show wpAny M A (if (["enumerate","zip","dict_itemiterator","dict_reverseitemiterator","odict_iterator","itertools.zip_longest","itertools.pairwise"].contains n&&vs[0]?==some (rawInt _))=true then _ else _) Q E s;rw[Je (by intro h;rw[hn,Bool.false_and]at h;cases h)];exact ZF hQ))
def MQ(K:PySem.W.Frag)(a:Addr):It:=
 ⟨fun i H=>∃xs x,ir K H a xs∧xs[i]?=some x,fun i H x H'=>H'=H∧∀xs,ir K H a xs→xs[i]?=some x,fun i H=>∃xs,ir K H a xs∧xs.length≤i⟩
def KA(lo:Int)(n:Nat):It:=⟨fun i _=>i<n,fun i H x H'=>H'=H∧x= .int (lo+i),fun i _=>n≤i⟩
theorem Cr{P:Program}{w:World}{K:PySem.W.Frag}{tg:Expr}(a it:Addr):Turn P w K tg (MQ K a) [it] it (fun i h=>h.IsListIter it a i) where
 mem:=XC
 obj:=fun i h st b hb=>by
  have e:b=it:=by simpa using hb
  subst e;obtain⟨o,e,c,d⟩:=st;exact⟨o,e,fun v z=>by rw[d]at z;cases z⟩
 keep:=fun i h h' st k=>st.at fun o e=>k it (XC) o e
 item:=by
  intro X hP hw hK hc i pins s σ H E I hf st hg;subst hP hw hK;obtain⟨xs,x,hq,hx⟩:=hg;obtain⟨its,rv,p,hz⟩:=I.list hq;obtain⟨u,hu,ru⟩:=rv.get hx;obtain⟨f0,f1,f2,f3,f4,f5⟩:=hf it (XC);refine wpAny_pyNext_list_item st p.isList (x:=u) (by simpa using hu) fun h' aT sb=>?_
  have I1:Inv X pins σ H {s with heap:=h'}:=I.turned (t':=s.toks) (fun b o hb e=>(sb.2 b hb).trans e) f0 f1 f3 f4 f5;obtain⟨o,e,c,d⟩:=id aT;exact⟨u,rfl,yH (s:={s with heap:=h'}) e c d (WV) ⟨x,H,I1,ru,⟨rfl,fun ys hy=>by rw[I.yG hy hq];exact hx⟩,aT,fun b hb=>(hf b hb).1⟩⟩
 done:=by
  intro X hP hw hK hc i pins s σ H E I hf st hg;subst hP hw hK;obtain⟨xs,hq,hx⟩:=hg;obtain⟨its,rv,p,hz⟩:=I.list hq;obtain⟨f0,f1,f2,f3,f4,f5⟩:=hf it (XC);have hl:=rv.length;exact wpAny_pyNext_list_end (I.ok.hd hc) st p.isList (by simp;omega) fun h' eb=>⟨rfl,I.turned (t':=s.toks) (fun b o hb e=>eb b o hb e) f0 f1 f3 f4 f5⟩
 self:=fun _ _ _ _ _ st h=>wpAny_pyIter_listiter st h
theorem zY{P:Program}{w:World}{K:PySem.W.Frag}{tg:Expr}(it:Addr)(lo:Int)(n:Nat):Turn P w K tg (KA lo n) [it] it (fun i h=>IsRangeIter h it (lo+(i:Nat)*1) ((n:Int)-(i:Nat)) 1) where
 mem:=XC
 obj:=fun i h st b hb=>by
  have e:b=it:=by simpa using hb
  subst e;exact⟨_,st,fun v z=>by
   have z':Data.fields _=Data.cell v:=z;cases z'⟩
 keep:=fun i h h' st k=>k it (XC) _ st
 item:=by
  intro X hP hw hK hc i pins s σ H E I hf st hg;subst hP hw hK;obtain⟨f0,f1,f2,f3,f4,f5⟩:=hf it (XC);have W:=Walks.range (prog:=X.prog) (w:=X.w) (I.ok.hd hc) it lo 1 n;refine W.item i s _ _ hg st fun v h' tk hv aT kk=>?_
  obtain⟨t,rfl⟩:=hv;have I1:Inv X pins σ H {s with heap:=h',toks:=tk}:=I.turned (fun b o hb e=>kk b o (by simpa using hb) e) f0 f1 f3 f4 f5;refine⟨_,rfl,yH (s:={s with heap:=h',toks:=tk}) (n:="range_iterator") aT rfl rfl (WV) ⟨.int (lo+i),H,I1,⟨t,?_⟩,⟨rfl,rfl⟩,aT,fun b hb=>(hf b hb).1⟩⟩;rw[Int.mul_one]
 done:=by
  intro X hP hw hK hc i pins s σ H E I hf st hg;subst hP hw hK;obtain⟨f0,f1,f2,f3,f4,f5⟩:=hf it (XC);exact wpAny_pyNext_range_end (I.ok.hd hc) st (by have:n≤i:=hg;omega) fun h' eb=>⟨rfl,I.turned (t':=s.toks) (fun b o hb e=>eb b o hb e) f0 f1 f3 f4 f5⟩
 self:=fun _ _ _ _ _ st h=>wpAny_pyIter_rangeiter st h
section
variable{X:Cx}{tg:Expr}
def Jc(K:PySem.W.Frag)(tl:TE):TI:=fun σ H R=>tl σ H fun x H1=>∃a,x= .ref a∧(∃xs,ir K H1 a xs)∧R (MQ K a) H1
theorem GZ{l:Expr}{tl:TE}(hl:PE X l tl):PI X tg l (Jc X.K tl):=by
 intro pins s σ H R I h;refine cJ (hl pins s σ H _ I h) fun v s1 ⟨x,H1,I1,r1,q1⟩=>?_
 obtain⟨a,e,⟨xs,hq⟩,q⟩:=q1;subst e;cases r1;obtain⟨its,rv,p,hz⟩:=I1.list hq;refine wpAny_pyIter_list p.isList ?_;refine⟨s1.heap.objs.size,[s1.heap.objs.size],_,_,H1,rfl,I1.kept (t':=s1.toks) fun b o e=>ZU e,Cr a _,⟨_,Heap.get?_push_size _ rfl,rfl,rfl⟩,fun b hb=>?_,q⟩;have e:b=s1.heap.objs.size:=by simpa using hb
 subst e;exact I1.uU ZT (I1.bX.fresh ZT)
theorem D_{pins:List (Addr×Obj)}{σ:St}{H:Hp}{s:Shared}{R:It→Hp→Prop}{E:Value→Shared→Prop}{lo hi:Int}{t u v:Tok}{tk:Nat}(I:Inv X pins σ H s)(h1:-(2^62)≤lo)(h2:lo<2^62)(h3:-(2^62)≤hi)(h4:hi<2^62)
  (q:R (KA lo (hi-lo).toNat) H):wpAny (model X.prog X.w) X.A (pyIter (.ref s.heap.objs.size)) (R5 X pins σ tg R) E {s with heap:=s.heap.push {cls:= .type "range",data:= .fields #[.int lo t, .int hi u, .int 1 v]},toks:=tk}:=by
 refine wpAny_pyIter_range (IsRange.new ..) (small_one h1 h2 h3 h4) ?_;have I1:Inv X pins σ H {s with heap:=s.heap.push {cls:= .type "range",data:= .fields #[.int lo t, .int hi u, .int 1 v]},toks:=tk}:=I.kept fun b o e=>ZU e
 refine⟨(s.heap.push {cls:= .type "range",data:= .fields #[.int lo t, .int hi u, .int 1 v]}).objs.size,[(s.heap.push {cls:= .type "range",data:= .fields #[.int lo t, .int hi u, .int 1 v]}).objs.size],_,_,H,rfl,
  I1.kept (t':=tk) fun b o e=>ZU e,zY _ lo (hi-lo).toNat,?_,fun b hb=>?_,q⟩
 ·have e1:lo+((0:Nat):Int)*1=lo:=XC;have e2:(((hi-lo).toNat:Nat):Int)-((0:Nat):Int)=Builtin.Range.rangeSize lo hi 1:=by rw[rangeSize_one];split<;>omega
  show IsRangeIter _ _ (lo+((0:Nat):Int)*1) ((((hi-lo).toNat:Nat):Int)-((0:Nat):Int)) 1;rw[e1,e2];exact Heap.get?_push_size _ rfl
 ·have e:b=(s.heap.push {cls:= .type "range",data:= .fields #[.int lo t, .int hi u, .int 1 v]}).objs.size:=by simpa using hb
  subst e;exact I1.uU ZT (I1.bX.fresh ZT)
def NZ(ta:TA):TI:=fun σ H R=>ta σ H fun vs H1=>∃j:Int,vs=[.int j]∧-(2^62)≤j∧j<2^62∧R (KA 0 j.toNat) H1
theorem eh{a:Expr}{ta:TA}{p pos:Pos}(hg:Gl X "range")(hm:X.mg "range"=none)(ha:PA X [a] ta)(hs:starEach [a] X.env=[(false,eval a X.env)]:=by rfl):PI X tg (.Call (.Name "range" p) [a] [] pos) (NZ ta):=by
 intro pins s σ H R I h;refine Call_ (lF I hg hm boot_range (PyProof.Rows.callWith_type1 (cJ (ha pos pins s σ H _ I h) fun us s1 ⟨vs,H1,I1,r1,q1⟩=>?_) hs rfl));obtain⟨j,e,q1,q2,q⟩:=q1;subst e;cases r1 with
 |cons r rr=>
  cases rr;obtain⟨t,rfl⟩:=r;exact call_range_1 (D_ I1 (ZV) (ZV) q1 q2 (by simpa using q))
def R7(wi:TI)(g:TG)(tb:TS):TS:=fun D σ H=>wi σ H fun J H1=>∃W:Nat→Nat→St→Hp→Prop,(∃m,W 0 m σ H1)∧∀i m σ H,W i m σ H→
 (J.stop i H∧D.nx σ H)∨(J.go i H∧∃N:St→Hp→Prop,(∀bB H',N bB H'→∃m',m'<m∧W (i+1) m' bB H')∧∀x H',J.GY i H x H'→g x σ H' fun fG H2=>tb {D with nx:=N,ct:=N,bk:=D.nx} fG H2)
def sY(fp:List Addr)(h:Heap):List (Addr×Obj):=fp.filterMap fun b=>(h.get? b).map fun o=>(b,o)
theorem gO{fp:List Addr}{h:Heap}{b:Addr}{o:Obj}(hb:b∈fp)(e:h.get? b=some o):(b,o)∈sY fp h:=List.mem_filterMap.mpr ⟨b,hb,by rw[e];rfl⟩
theorem Cs{fp:List Addr}{h:Heap}{p:Addr×Obj}(hp:p∈sY fp h):p.1∈fp∧h.get? p.1=some p.2:=by
 obtain⟨b,hb,e⟩:=List.mem_filterMap.mp hp;cases q:h.get? b with
 |none=>rw[q]at e;cases e
 |some o=>
  rw[q]at e;have e':(b,o)=p:=ZO e;subst e';exact⟨hb,q⟩
theorem Inv.pinned{pins:List (Addr×Obj)}{σ:St}{H:Hp}{s:Shared}{fp:List Addr}(I:Inv X pins σ H s)(hf:∀b∈fp,iu X pins H b)(ho:∀b∈fp,∃o,s.heap.get? b=some o∧∀v,o.data≠ .cell v):Inv X (pins++sY fp s.heap) σ H s:=
 I.Bi fun p hp=>(List.mem_append.mp hp).elim (fun z=>I.pin p (Δ z)) fun z=>by
  obtain⟨hb,e⟩:=Cs z;obtain⟨f0,f1,f2,_⟩:=hf p.1 hb;obtain⟨o,e',d⟩:=ho p.1 hb;rw[e]at e';cases e';exact⟨e,f0,f1,f2,d⟩
theorem Inv.lH{pins pl:List (Addr×Obj)}{σ:St}{H:Hp}{s:Shared}(I:Inv X (pins++pl) σ H s):Inv X pins σ H s:=I.Bi fun p hp=>I.pin p (Δ (γ hp))
theorem bE{iter:Expr}{body:List Stmt}{wi:TI}{g:TG}{tb:TS}{pos:Pos}(hp:PassesOwn (model X.prog X.w) X.A X.env X.xe)(hc:X.calm=true)(hi:PI X tg iter wi)(hg:PG X tg g)(hb:Cp X body tb)
  (hs:∀x,foldedSetIterable iter X.env x=pure x:=by intro _;rfl):PS X (.For tg iter body [] pos) (R7 wi g tb):=by
 intro pins s σ H D I h;refine wpAny_For (cJ (hi pins s σ H _ I h) fun v s1 h1=>cJ h1 fun R6 s2 h2=>?_) hs;obtain⟨it,fp,tn,J,H2,e,I2,T,dP,f2,W,⟨m0,w0⟩,turn⟩:=h2;subst e;have zZ:∀{H':Hp},(∀b∈fp,H' b=none)→∀b∈fp,iu X pins H' b:=fun hn b hb=>⟨hn b hb,(f2 b hb).2⟩
 refine codeAny_forLoop_any (fun n s'=>∃i bB H',Inv X pins bB H' s'∧tn i s'.heap∧(∀b∈fp,H' b=none)∧W i n bB H') ?_ m0 ⟨0,σ,H2,I2,dP,fun b hb=>(f2 b hb).1,w0⟩;rintro n s3 ⟨i,D9,H3,I3,Ea,MR,w3⟩;rcases turn i n D9 H3 w3 with⟨stop,qn⟩|⟨go,N,hN,step⟩
 ·refine wpAny_passesOwn hp (cJ (T.done X rfl rfl rfl hc i pins s3 D9 H3 X.xe I3 (zZ MR) Ea stop) fun r s4 ⟨hr,I4⟩=>?_);subst hr;exact wpAny_execs_nil ⟨D9,H3,I4,qn⟩
 ·refine wpAny_passesOwn hp (cJ (T.item X rfl rfl rfl hc i pins s3 D9 H3 X.xe I3 (zZ MR) Ea go) fun r s4 ⟨u,hr,h4⟩=>?_);subst hr;refine wpAny_passesOwn hp (cJ h4 fun _ s5 ⟨x,H5,I5,r5,y5,MS,Qu⟩=>?_);have Xc:=I5.pinned (zZ Qu) (T.obj _ _ MS);refine wpAny_passesOwn hp (cJ (hg _ s5 D9 H5 x u _ Xc r5 (step x H5 y5)) fun _ s6 ⟨Xd,H6,I6,q6⟩=>?_);refine wpAny_passesOwn hp (cJ (hb _ s6 Xd H6 _ I6 q6) fun f s7 q7=>?_);have again:∀{Eb:St}{H7:Hp},Inv X (pins++sY fp s5.heap) Eb H7 s7→N Eb H7→∃m,m<n∧∃i bB H',Inv X pins bB H' s7∧tn i s7.heap∧(∀b∈fp,H' b=none)∧W i m bB H':=fun{Eb H7} I7 n7=>by
   obtain⟨m',hm,w7⟩:=hN Eb H7 n7;refine⟨m',hm,i+1,Eb,H7,I7.lH,T.keep _ _ _ MS fun b hb o e=>(I7.pin (b,o) (Δ (Δ (gO hb e)))).1,fun b hb=>?_,w7⟩;obtain⟨o,e,d⟩:=T.obj _ _ MS b hb;exact(I7.pin (b,o) (Δ (Δ (gO hb e)))).2.1
  cases f with
  |next=>obtain⟨Eb,H7,I7,n7⟩:=q7;exact again I7 n7
  |cont=>obtain⟨Eb,H7,I7,n7⟩:=q7;exact again I7 n7
  |brk=>obtain⟨Eb,H7,I7,q7⟩:=q7;exact⟨Eb,H7,I7.lH,q7⟩
  |ret v=>obtain⟨x7,Eb,H7,I7,r7,q7⟩:=q7;exact⟨x7,Eb,H7,I7.lH,r7,q7⟩
end
theorem bM{K:PySem.W.Frag}{a:Addr}{xs:List V}{g:TG}{tb:TS}{D:Ends}{σ:St}{H:Hp}(Pv:Nat→St→Hp→Prop)(h0:Pv 0 σ H)(hl:∀i σ H,i≤xs.length→Pv i σ H→ir K H a xs)
  (hs:∀i x σ H,xs[i]?=some x→Pv i σ H→g x σ H fun fG H2=>tb {D with nx:=Pv (i+1),ct:=Pv (i+1),bk:=D.nx} fG H2) (hd:∀σ H,Pv xs.length σ H→D.nx σ H):
  ∃W:Nat→Nat→St→Hp→Prop,(∃m,W 0 m σ H)∧∀i m σ H,W i m σ H→
   ((MQ K a).stop i H∧D.nx σ H)∨((MQ K a).go i H∧∃N:St→Hp→Prop,(∀bB H',N bB H'→∃m',m'<m∧W (i+1) m' bB H')∧∀x H',(MQ K a).GY i H x H'→g x σ H' fun fG H2=>tb {D with nx:=N,ct:=N,bk:=D.nx} fG H2):=by
 refine⟨fun i m σ H=>m=xs.length-i∧i≤xs.length∧Pv i σ H,⟨xs.length,XC,Nat.zero_le _,h0⟩,?_⟩;rintro i m σ H ⟨rfl,hi,p⟩;have q:=hl i σ H hi p;by_cases ic:i<xs.length
 ·refine .inr ⟨⟨xs,xs[i],q,by simp[ic]⟩,Pv (i+1),fun bB H' p'=>⟨xs.length-(i+1),ZV,rfl,ic,p'⟩,fun x H' y=>?_⟩;obtain⟨e,y⟩:=y;subst e;exact hs i x σ _ (y xs q) p
 ·have e:i=xs.length:=ZV;subst e;exact .inl ⟨⟨xs,q,Nat.le_refl _⟩,hd σ H p⟩
theorem ft{lo:Int}{n:Nat}{g:TG}{tb:TS}{D:Ends}{σ:St}{H:Hp}(Pv:Nat→St→Hp→Prop)(h0:Pv 0 σ H)
  (hs:∀i σ H,i<n→Pv i σ H→g (.int (lo+i)) σ H fun fG H2=>tb {D with nx:=Pv (i+1),ct:=Pv (i+1),bk:=D.nx} fG H2) (hd:∀σ H,Pv n σ H→D.nx σ H):
  ∃W:Nat→Nat→St→Hp→Prop,(∃m,W 0 m σ H)∧∀i m σ H,W i m σ H→
   ((KA lo n).stop i H∧D.nx σ H)∨((KA lo n).go i H∧∃N:St→Hp→Prop,(∀bB H',N bB H'→∃m',m'<m∧W (i+1) m' bB H')∧∀x H',(KA lo n).GY i H x H'→g x σ H' fun fG H2=>tb {D with nx:=N,ct:=N,bk:=D.nx} fG H2):=by
 refine⟨fun i m σ H=>m=n-i∧i≤n∧Pv i σ H,⟨n,XC,Nat.zero_le _,h0⟩,?_⟩;rintro i m σ H ⟨rfl,hi,p⟩;by_cases ic:i<n
 ·refine .inr ⟨ic,Pv (i+1),fun bB H' p'=>⟨n-(i+1),ZV,rfl,ic,p'⟩,fun x H' y=>?_⟩;obtain⟨e,y⟩:=y;subst e y;exact hs i σ _ ic p
 ·have e:i=n:=ZV;subst e;exact .inl ⟨Nat.le_refl _,hd σ H p⟩
abbrev R2:=V→V→Hp→VK→Prop
def qg(X:Cx)(f:Value→Value→Sem Value)(r:R2):Prop:=
 ∀(pins:List (Addr×Obj))(s:Shared)(σ:St)(H:Hp)(x y:V)(v u:Value)(Q:VK),Inv X pins σ H s→RelV x v→RelV y u→r x y H Q→
  wpAny (model X.prog X.w) X.A (f v u) (EP X pins σ Q) X.xe s
def R8(X:Cx)(f:Value→Sem Value)(r:V→Hp→VK→Prop):Prop:=
 ∀(pins:List (Addr×Obj))(s:Shared)(σ:St)(H:Hp)(x:V)(v:Value)(Q:VK),Inv X pins σ H s→RelV x v→r x H Q→
  wpAny (model X.prog X.w) X.A (f v) (EP X pins σ Q) X.xe s
def i4(X:Cx)(f:Value)(r:List V→Hp→VK→Prop):Prop:=
 ∀(pins:List (Addr×Obj))(s:Shared)(σ:St)(H:Hp)(xs:List V)(us:List Value)(Q:VK),Inv X pins σ H s→Vals xs us→r xs H Q→
  wpAny (model X.prog X.w) X.A (call f us) (EP X pins σ Q) X.xe s
def Qv(r:R2)(ta tb:TE):TE:=fun σ H Q=>ta σ H fun x H1=>tb σ H1 fun y H2=>r x y H2 Q
def Xe(r:V→Hp→VK→Prop)(ta:TE):TE:=fun σ H Q=>ta σ H fun x H1=>r x H1 Q
inductive rI(C:Int→Int→Prop)(g:Int→Int→V)(x:V)(y:V)(H:Hp)(Q:VK):Prop
 |mk (i:_) (j:_) (_:x= .int i) (_:y= .int j) (_:C i j) (_:Q (g i j) H):rI C g x y H Q
inductive G0(g:Int→Int→V)(x:V)(y:V)(H:Hp)(Q:VK):Prop
 |mk (i:_) (j:_) (_:x= .int i) (_:y= .int j) (_:Q (g i j) H):G0 g x y H Q
inductive rU(g:Int→V)(x:V)(H:Hp)(Q:VK):Prop
 |mk (i:_) (_:x= .int i) (_:Q (g i) H):rU g x H Q
section
variable{X:Cx}{a b c:Expr}{ta tb tc:TE}{pos:Pos}
theorem KC(ha:PE X a ta)(hb:PE X b tb){pins:List (Addr×Obj)}{s:Shared}{σ:St}{H:Hp}{R:V→V→Hp→Prop}(I:Inv X pins σ H s)
  (h:ta σ H fun x H1=>tb σ H1 fun y H2=>R x y H2) {Q:Value→Shared→Prop} {f:Value→Value→Sem Value}
  (hf:∀v u s2 x y H2,Inv X pins σ H2 s2→RelV x v→RelV y u→R x y H2→wpAny (model X.prog X.w) X.A (f v u) Q X.xe s2):
  wpAny (model X.prog X.w) X.A (eval a X.env) (fun v cn=>wpAny (model X.prog X.w) X.A (eval b X.env) (fun u qj=>wpAny (model X.prog X.w) X.A (f v u) Q X.xe qj) X.xe cn) X.xe s:=by
 refine cJ (ha pins s σ H _ I h) fun v s1 ⟨x,H1,I1,r1,q1⟩=>?_
 refine cJ (hb pins s1 σ H1 _ I1 q1) fun u s2 ⟨y,H2,I2,r2,q2⟩=>?_
 exact hf v u s2 x y H2 I2 r1 r2 q2
theorem aG{op:Operator}{r:R2}(ho:qg X (binaryOp op) r)(ha:PE X a ta)(hb:PE X b tb):PE X (.BinOp a op b pos) (Qv r ta tb):=by
 intro pins s σ H Q I h;exact wpAny_BinOp (KC ha hb I h fun v u s2 x y H2 I2 rx ry q=>ho pins s2 σ H2 x y v u Q I2 rx ry q)
theorem rD{op:UnaryOp}{r:V→Hp→VK→Prop}(ho:R8 X (unaryOp op) r)(ha:PE X a ta):PE X (.UnaryOp op a pos) (Xe r ta):=by
 intro pins s σ H Q I h;exact UnaryOp_ (cJ (ha pins s σ H _ I h) fun v s1 ⟨x,H1,I1,r1,q1⟩=>ho pins s1 σ H1 x v Q I1 r1 q1)
theorem R9{f:Value→Value→Sem Value}{C:Int→Int→Prop}{g:Int→Int→Int}
  (rule:∀(i j:Int)(t u:Tok)(s:Shared)(Q:Value→Shared→Prop)(E:Value→Shared→Prop),C i j→Q (.int (g i j) s.toks) {s with toks:=s.toks+1}→wpAny (model X.prog X.w) X.A (f (.int i t) (.int j u)) Q E s):
  qg X f (rI C fun i j=> .int (g i j)):=by
 intro pins s σ H x y v u Q I rx ry h;obtain⟨i,j,rfl,rfl,hc,q⟩:=h;obtain⟨t,rfl⟩:=rx;obtain⟨t',rfl⟩:=ry;exact rule i j t t' s _ _ hc ⟨.int (g i j),H,I.tok _,⟨_,rfl⟩,q⟩
theorem N0{f:Value→Value→Sem Value}{g:Int→Int→Int}
  (rule:∀(i j:Int)(t u:Tok)(s:Shared)(Q:Value→Shared→Prop)(E:Value→Shared→Prop),Q (.int (g i j) s.toks) {s with toks:=s.toks+1}→wpAny (model X.prog X.w) X.A (f (.int i t) (.int j u)) Q E s):
  qg X f (G0 fun i j=> .int (g i j)):=by
 intro pins s σ H x y v u Q I rx ry h;obtain⟨i,j,rfl,rfl,q⟩:=h;obtain⟨t,rfl⟩:=rx;obtain⟨t',rfl⟩:=ry;exact rule i j t t' s _ _ ⟨.int (g i j),H,I.tok _,⟨_,rfl⟩,q⟩
theorem G6{f:Value→Value→Sem Value}{g:Int→Int→Bool}
  (rule:∀(i j:Int)(t u:Tok)(s:Shared)(Q:Value→Shared→Prop)(E:Value→Shared→Prop),Q (.bool (g i j)) s→wpAny (model X.prog X.w) X.A (f (.int i t) (.int j u)) Q E s):
  qg X f (G0 fun i j=> .bl (g i j)):=by
 intro pins s σ H x y v u Q I rx ry h;obtain⟨i,j,rfl,rfl,q⟩:=h;obtain⟨t,rfl⟩:=rx;obtain⟨t',rfl⟩:=ry;exact rule i j t t' s _ _ ⟨.bl (g i j),H,I,rfl,q⟩
def KD(i j:Int):Prop:=0<j∧j<1073741824
def KG(i j:Int):Prop:=(-(2^64)<i∧i<2^64)∨(-(2^64)<j∧j<2^64)
theorem KG.ok{i j:Int}(h:KG i j):IntMulOk i j:=by
 rcases h with⟨h1,h2⟩|⟨h1,h2⟩
 ·exact .of_left (intBits_le_64 h1 h2)
 ·exact .of_right (intBits_le_64 h1 h2)
theorem br:qg X (binaryOp .Add) (G0 fun i j=> .int (i+j)):=N0 fun _ _ _ _ _ _ _ q=>add_int q
theorem cz:qg X (binaryOp .Sub) (G0 fun i j=> .int (i-j)):=N0 fun _ _ _ _ _ _ _ q=>sub_int q
theorem nr:qg X (binaryOp .Mult) (rI KG fun i j=> .int (i*j)):=R9 fun _ _ _ _ _ _ _ hc q=>mul_int q hc.ok
theorem dU:qg X (binaryOp .FloorDiv) (rI KD fun i j=> .int (i/j)):=R9 fun i j _ _ _ _ _ hc q=>by
 have h1:(0:Int)<j:=hc.1;have h2:j<1073741824:=hc.2;exact floordiv_int (ZV) (by rw[Int.fdiv_eq_ediv_of_nonneg i (ZV)];exact q) (.inl (PyProof.noPylong_small (ZV)))
theorem bH:qg X (binaryOp .Mod) (rI (fun _ j=>0<j) fun i j=> .int (i%j)):=R9 fun i j _ _ _ _ _ hc q=>by
 have h1:(0:Int)<j:=hc;exact mod_int' (ZV) (by rw[Int.fmod_eq_emod_of_nonneg i (ZV)];exact q)
theorem Xf{f:Value→Sem Value}{g:Int→Int}
  (rule:∀(i:Int)(t:Tok)(s:Shared)(Q:Value→Shared→Prop)(E:Value→Shared→Prop),Q (.int (g i) s.toks) {s with toks:=s.toks+1}→wpAny (model X.prog X.w) X.A (f (.int i t)) Q E s):
  R8 X f (rU fun i=> .int (g i)):=by
 intro pins s σ H x v Q I rx h;obtain⟨i,rfl,q⟩:=h;obtain⟨t,rfl⟩:=rx;exact rule i t s _ _ ⟨.int (g i),H,I.tok _,⟨_,rfl⟩,q⟩
theorem lI:R8 X (unaryOp .USub) (rU fun i=> .int (-i)):=Xf fun _ _ _ _ _ q=>neg_int q
end
def N1:V→V→Bool
 | .cL, .cL=>true| .cL, .int _=>true| .int _, .cL=>true| .cL, .bl _=>true| .bl _, .cL=>true| .cL, .str _=>true| .str _, .cL=>true
 | .int _, .int _=>true| .bl _, .bl _=>true| .str _, .str _=>true| .Cn _, .Cn _=>true
 | .int _, .str _=>true| .str _, .int _=>true| .bl _, .str _=>true| .str _, .bl _=>true
 | _,_=>false
def Xg:R2:=fun x y H Q=>N1 x y=true∧Q (.bl (decide (x=y))) H
def Xh:R2:=fun x y H Q=>N1 x y=true∧Q (.bl (!decide (x=y))) H
theorem Bm{i j:Int}:decide (V.int i=V.int j)=(i==j):=by
 rw[Bool.eq_iff_iff];simp
theorem Ec{i j:Bool}:decide (V.bl i=V.bl j)=(i==j):=by
 rw[Bool.eq_iff_iff];simp
theorem Bn{i j:Str}:decide (V.str i=V.str j)=(i==j):=by
 rw[Bool.eq_iff_iff];simp
theorem Bo{i j:Array UInt8}:decide (V.Cn i=V.Cn j)=(i.toList==j.toList):=by
 rw[Bool.eq_iff_iff];cases i;cases j;simp
section
variable{X:Cx}{a b c:Expr}{ta tb tc:TE}{pos:Pos}
theorem bI{pins:List (Addr×Obj)}{σ:St}{H:Hp}{s:Shared}{Q:VK}{k k':Bool}(I:Inv X pins σ H s)(q:Q (.bl k) H)(e:k=k'):EP X pins σ Q (.bool k') s:=by
 subst e;exact⟨.bl k,H,I,rfl,q⟩
theorem jt:qg X (compareOp .Eq) Xg:=by
 intro pins s σ H x y v u Q I rx ry h;obtain⟨hs,q⟩:=h;cases x with
 |cL=>
  cases rx;cases y with
  |cL=>cases ry;exact PySem.EqNone.eq_none_none Ι
  |bl j=>cases ry;exact PySem.EqNone.eq_none_bool Ι
  |int j=>obtain⟨t',rfl⟩:=ry;exact PySem.EqNone.eq_none_int Ι
  |str j=>obtain⟨t',rfl⟩:=ry;exact PySem.EqNone.eq_none_str Ι
  | _=>exact Υ (show false=true from hs)
 |bl i=>
  cases rx;cases y with
  |cL=>cases ry;exact PySem.EqNone.eq_bool_none Ι
  |bl j=>cases ry;exact eq_bool (bI I q Ec)
  |str j=>obtain⟨t',rfl⟩:=ry;exact PySem.EqMixed.eq_bool_str Ι
  | _=>exact Υ (show false=true from hs)
 |int i=>
  obtain⟨t,rfl⟩:=rx;cases y with
  |cL=>cases ry;exact PySem.EqNone.eq_int_none Ι
  |int j=>obtain⟨t',rfl⟩:=ry;exact eq_int (bI I q Bm)
  |str j=>obtain⟨t',rfl⟩:=ry;exact PySem.EqMixed.eq_int_str Ι
  | _=>exact Υ (show false=true from hs)
 |str i=>
  obtain⟨t,rfl⟩:=rx;cases y with
  |cL=>cases ry;exact PySem.EqNone.eq_str_none Ι
  |bl j=>cases ry;exact PySem.EqMixed.eq_str_bool Ι
  |int j=>obtain⟨t',rfl⟩:=ry;exact PySem.EqMixed.eq_str_int Ι
  |str j=>obtain⟨t',rfl⟩:=ry;exact eq_str (bI I q Bn)
  | _=>exact Υ (show false=true from hs)
 |Cn i=>
  obtain⟨t,rfl⟩:=rx;cases y with
  |Cn j=>obtain⟨t',rfl⟩:=ry;exact PySem.W.eq_bytes (bI I q Bo)
  | _=>exact Υ (show false=true from hs)
 | _=>cases y<;>exact Υ (show false=true from hs)
theorem vL:qg X (compareOp .NotEq) Xh:=by
 intro pins s σ H x y v u Q I rx ry h;obtain⟨hs,q⟩:=h;cases x with
 |cL=>
  cases rx;cases y with
  |cL=>cases ry;exact PySem.EqNone.ne_none_none Ι
  |bl j=>cases ry;exact PySem.EqNone.ne_none_bool Ι
  |int j=>obtain⟨t',rfl⟩:=ry;exact PySem.EqNone.ne_none_int Ι
  |str j=>obtain⟨t',rfl⟩:=ry;exact PySem.EqNone.ne_none_str Ι
  | _=>exact Υ (show false=true from hs)
 |bl i=>
  cases rx;cases y with
  |cL=>cases ry;exact PySem.EqNone.ne_bool_none Ι
  |bl j=>cases ry;exact ne_bool (bI I q (congrArg not Ec))
  |str j=>obtain⟨t',rfl⟩:=ry;exact PySem.EqMixed.ne_bool_str Ι
  | _=>exact Υ (show false=true from hs)
 |int i=>
  obtain⟨t,rfl⟩:=rx;cases y with
  |cL=>cases ry;exact PySem.EqNone.ne_int_none Ι
  |int j=>obtain⟨t',rfl⟩:=ry;exact ne_int (bI I q (congrArg not Bm))
  |str j=>obtain⟨t',rfl⟩:=ry;exact PySem.EqMixed.ne_int_str Ι
  | _=>exact Υ (show false=true from hs)
 |str i=>
  obtain⟨t,rfl⟩:=rx;cases y with
  |cL=>cases ry;exact PySem.EqNone.ne_str_none Ι
  |bl j=>cases ry;exact PySem.EqMixed.ne_str_bool Ι
  |int j=>obtain⟨t',rfl⟩:=ry;exact PySem.EqMixed.ne_str_int Ι
  |str j=>obtain⟨t',rfl⟩:=ry;exact ne_str (bI I q (congrArg not Bn))
  | _=>exact Υ (show false=true from hs)
 |Cn i=>
  obtain⟨t,rfl⟩:=rx;cases y with
  |Cn j=>obtain⟨t',rfl⟩:=ry;exact PySem.W.ne_bytes (bI I q (congrArg not Bo))
  | _=>exact Υ (show false=true from hs)
 | _=>cases y<;>exact Υ (show false=true from hs)
theorem mV:qg X (compareOp .Lt) (G0 fun i j=> .bl (decide (i<j))):=G6 fun _ _ _ _ _ _ _ q=>lt_int q
theorem Bp:qg X (compareOp .LtE) (G0 fun i j=> .bl (decide (i≤j))):=G6 fun _ _ _ _ _ _ _ q=>le_int q
theorem rE:qg X (compareOp .Gt) (G0 fun i j=> .bl (decide (j<i))):=G6 fun _ _ _ _ _ _ _ q=>gt_int q
theorem Br:qg X (compareOp .GtE) (G0 fun i j=> .bl (decide (j≤i))):=G6 fun _ _ _ _ _ _ _ q=>ge_int q
theorem aV(b:Expr){op:CmpOp}(h:op≠ .In:=by decide)(h2:op≠ .NotIn:=by decide):behindInMarks op b=false:=by
 have e1:(op==CmpOp.In)=false:=by cases op<;>first|rfl|exact absurd rfl h
 have e2:(op==CmpOp.NotIn)=false:=by cases op<;>first|rfl|exact absurd rfl h2
 cases b<;>simp[behindInMarks,e1,e2]
theorem iF{op:CmpOp}{r:R2}(ho:qg X (compareOp op) r)(ha:PE X a ta)(hb:PE X b tb)(hm:behindInMarks op b=false):PE X (.Compare a [op] [b] pos) (Qv r ta tb):=by
 intro pins s σ H Q I h;exact wpAny_Compare1 (KC ha hb I h fun v u s2 x y H2 I2 rx ry q=>ho pins s2 σ H2 x y v u Q I2 rx ry q) hm
def N2(t:TE):TT:=fun σ H Q=>t σ H fun x H'=>∃k,x= .bl k∧Q k H'
theorem aS{op:CmpOp}{r:R2}(ho:qg X (compareOp op) r)(ha:PE X a ta)(hb:PE X b tb)(hm:behindInMarks op b=false):PT X (.Compare a [op] [b] pos) (N2 (Qv r ta tb)):=by
 intro pins s σ H Q I h;refine wpAny_isTrue_Compare1 (cJ (ha pins s σ H _ I h) fun v s1 ⟨x,H1,I1,r1,q1⟩=>cJ (hb pins s1 σ H1 _ I1 q1) fun u s2 ⟨y,H2,I2,r2,q2⟩=>
  cJ (ho pins s2 σ H2 x y v u _ I2 r1 r2 q2) fun c s3 ⟨z,H3,I3,r3,k,e,q3⟩=>?_) hm
 subst e;cases r3;exact wpAny_truthy_bool ⟨H3,I3,q3⟩
theorem qk:(sizeLine:Nat)<2^63:=by rw[sizeLine_eq];decide
theorem ny:qg X (binaryOp .Add) (fun x y H Q=>∃i j,x= .str i∧y= .str j∧i.length+j.length≤sizeLine∧Q (.str (i++j)) H):=by
 intro pins s σ H x y v u Q I rx ry h;obtain⟨i,j,rfl,rfl,hz,q⟩:=h;obtain⟨t,rfl⟩:=rx;obtain⟨t',rfl⟩:=ry;exact add_str (fun t' tk=>⟨.str (i++j),H,I.tok _,⟨_,rfl⟩,q⟩) hz
theorem vals1{x:V}{us:List Value}(r:Vals [x] us):∃u,us=[u]∧RelV x u:=by
 cases r with
 |cons r1 r2=>cases r2;exact⟨_,rfl,r1⟩
theorem vals2{x y:V}{us:List Value}(r:Vals [x,y] us):∃u w',us=[u,w']∧RelV x u∧RelV y w':=by
 cases r with
 |cons r1 r2=>
  cases r2 with
  |cons r3 r4=>cases r4;exact⟨_,_,rfl,r1,r3⟩
theorem Ct(hc:X.calm=true):i4 X (.builtin "max") (fun xs H Q=>∃i j,xs=[.int i, .int j]∧Q (.int (if j>i then j else i)) H):=by
 intro pins s σ H xs us Q I r h;obtain⟨i,j,rfl,q⟩:=h;obtain⟨u,w',rfl,⟨t,rfl⟩,⟨t',rfl⟩⟩:=vals2 r;refine max_two_ints (I.ok.hd hc) fun h' tk k=>⟨_,H,I.kept k,?_,q⟩
 by_cases hj:j>i
 ·rw[MJ hj,MJ hj];exact⟨_,rfl⟩
 ·rw[Je hj,Je hj];exact⟨_,rfl⟩
theorem ql(hc:X.calm=true):i4 X (.builtin "min") (fun xs H Q=>∃i j,xs=[.int i, .int j]∧Q (.int (if j<i then j else i)) H):=by
 intro pins s σ H xs us Q I r h;obtain⟨i,j,rfl,q⟩:=h;obtain⟨u,w',rfl,⟨t,rfl⟩,⟨t',rfl⟩⟩:=vals2 r;refine min_two_ints (I.ok.hd hc) fun h' tk k=>⟨_,H,I.kept k,?_,q⟩
 by_cases hj:j<i
 ·rw[MJ hj,MJ hj];exact⟨_,rfl⟩
 ·rw[Je hj,Je hj];exact⟨_,rfl⟩
theorem qm:i4 X (.type "int") (fun xs H Q=>(∃i,xs=[.int i]∧Q (.int i) H)∨∃k,xs=[.bl k]∧Q (.int (if k then 1 else 0)) H):=by
 intro pins s σ H xs us Q I r h;rcases h with⟨i,rfl,q⟩|⟨k,rfl,q⟩
 ·obtain⟨u,rfl,t,rfl⟩:=vals1 r;exact call_int_int ⟨.int i,H,I,⟨_,rfl⟩,q⟩
 ·obtain⟨u,rfl,r1⟩:=vals1 r;cases r1;exact call_int_bool ⟨.int (if k then 1 else 0),H,I.tok _,⟨_,rfl⟩,q⟩
end
structure z9(h:Heap)(x dx C:Addr)(mA:Str→Option Value):Prop where
 obj:h.get? x=some (PySem.W.instObj C dx)
 ns:h.Ns1 dx mA
 ne:dx≠x
theorem Cu{h:Heap}{dx:Addr}{mA:Str→Option Value}(n:h.Ns1 dx mA):∃od,h.get? dx=some od∧∀name,PySem.W.lookIn name od=some (mA name):=by
 obtain⟨o,es,ep,ho,hd,hk,_,hm⟩:=n;refine⟨o,ho,fun name=>?_⟩;have e:=hm name;unfold nsFind findBy at e;rw[←Array.find?_toList]at e;unfold PySem.W.lookIn;rw[hd];dsimp only;split
 ·rename_i y q
  rw[q]at e;exact congrArg some e
 ·rename_i q
  rw[q]at e;have a:es.toList.any (·.refKey)=false:=by
   rw[List.any_eq_false];intro y hy;obtain⟨z,t,oB⟩:=hk y (Array.mem_toList_iff.mp hy);simp[DictEntry.refKey,oB]
  have a':¬es.toList.any (·.refKey)=true:=by rw[a];exact Bool.false_ne_true
  rw[Je a'];exact congrArg some e
theorem z9.look{h:Heap}{x dx C:Addr}{mA:Str→Option Value}(I:z9 h x dx C mA):∃od,PySem.W.InstAt h x (PySem.W.instObj C dx) C (some od)∧∀name,PySem.W.lookIn name od=some (mA name):=
 let ⟨od,ho,hl⟩:=Cu I.ns
 ⟨od,⟨I.obj,rfl,rfl,ho⟩,hl⟩
section
variable{prog:Program}{w:World}{A:Around}{E:Value→Shared→Prop}{s:Shared}{K:PySem.W.Frag}{x dx C f:Addr}{mA:Str→Option Value}{name:Str}{v:Value}
theorem get_map{expr:Bool}{Q:Value→Shared→Prop}(X:K.In s.heap)(I:z9 s.heap x dx C mA)(hg:PySem.W.plainGet K C name=true)(hh:PySem.W.hasDictIn K C=true)
  (ha:PySem.W.findIn K (.ref C) name=some none) (hv:mA name=some v) (N3:PySem.W.handedIn v=true) (h:Q v {s with toks:=s.toks+1}):
  wpAny (model prog w) A (getAttr (.ref x) name expr) Q E s:=by
 obtain⟨od,J,hl⟩:=I.look;exact PySem.W.get_value X J (PySem.W.plainGet_of hg).1 (PySem.W.findObj_own hh ha rfl (by rw[hl,hv])) N3 h
theorem Ed{pl:Sem Bool}{Q:Value×List Value→Shared→Prop}(X:K.In s.heap)(I:z9 s.heap x dx C mA)(hg:PySem.W.plainGet K C name=true)
  (hf:PySem.W.findIn K (.ref C) name=some (some (.ref f))) (ht:PySem.W.isFn K (.ref f)=true) (hv:mA name=none) (h:Q (.ref f,[.ref x]) s):
  wpAny (model prog w) A (getMethod (.ref x) name pl) Q E s:=by
 obtain⟨od,J,hl⟩:=I.look;exact PySem.W.method_fn X J (PySem.W.plainGet_of hg).1 (PySem.W.plainGet_of hg).2 hf (beq_iff_eq.mp ht) (by show(PySem.W.lookIn name od).map (·.isSome)=some false;rw[hl,hv];rfl) h
theorem G7{ns:List Str}{Q:Unit→Shared→Prop}(X:K.In s.heap)(I:z9 s.heap x dx C mA)
  (hs:PySem.W.findIn K (.ref C) "__setattr__"=some (some (.builtin "object.__setattr__"))) (hp:PySem.W.plainOver K C=true) (ht:PySem.W.takerIn K C name=some none) (hh:PySem.W.hasDictIn K C=true)
  (hw:PySem.Within mA ns) (hsz:ns.length≤sizeLine)
  (h:∀h',z9 h' x dx C (fun y=>if y=name then some v else mA y)→Heap.SameBut dx s.heap h'→Q () {s with heap:=h',toks:=s.toks+2}):
  wpAny (model prog w) A (setAttr (.ref x) name v) Q E s:=by
 obtain⟨od,J,hl⟩:=I.look;refine PySem.W.set_plain X J hs (PySem.W.osa_open (s:={s with toks:=s.toks+1}) (r:=none) X J hp ht fun b=>?_);obtain⟨cd,hc,MO⟩:=PySem.W.any_some hh;have hx:s.heap.get? x=some ⟨.ref C,some dx, .plain,#[]⟩:=I.obj;refine wpAny_bind (ZF (ZN (ZN (wpAny_loadPart hx (ZN (PySem.W.Looks.here (s:={s with toks:=s.toks+1}) (PySem.W.looks_clsIn X hc) ?_))))));rw[MO];refine wpAny_pure (a:=some dx) (ZN (ZF (ZN ?_)));refine wpAny_nsSet1 (s:={s with toks:=s.toks+1}) I.ns fun h' yr KH=>?_
 obtain⟨oD,aad,aaq,Xi,Xj,Xk⟩:=yr.count (PySem.Within.cons name v hw);refine wpAny_bind (wpAny_lookBehind Xi (by rw[Xj];exact pastItsLine_dict (Nat.le_trans Xk (by rw[List.length_cons];omega))) ?_);exact ZF (h _ ⟨(KH.2 _ (Ne.symm I.ne)).trans I.obj,yr,I.ne⟩ KH)
theorem Ee{R:Result→Shared→Prop}{vs:List Value}{kw:List (Str×Value)}(X:K.In s.heap)(hm:PySem.W.makesIn K C=true)
  (hi:PySem.W.findIn K (.ref C) "__init__"=some (some (.ref f))) (hf:PySem.W.typeIn K (.ref f)=some (.type "function"))
  (h:codeAny (model prog w) (A.under (.builtin "type.__call__" ⟨.ref C::vs,kw⟩)) (.call (.ref f) ⟨.ref (s.heap.objs.size+1)::vs,kw⟩) (PySem.W.InitBack (s.heap.objs.size+1) R)
   {s with heap:=(s.heap.push PySem.W.emptyDict).push (PySem.W.instObj C s.heap.objs.size)}):
  codeAny (model prog w) A (.call (.ref C) ⟨vs,kw⟩) R s:=by
 obtain⟨hh,g,d,t,os⟩:=s;exact PySem.W.make_core (PySem.W.makes_of X hm) (PySem.W.looks_findIn X hi) (fun self=>PySem.W.bind_fn X self hf) (.inl rfl) h
end
def bq(f:Str)(v:V):List (Str×V)→List (Str×V)
 |[]=>[(f,v)]
 |(g,x)::r=>if g=f then(g,v)::r else(g,x)::bq f v r
theorem rF(f g:Str)(v:V):∀fs:List (Str×V),(bq f v fs).lookup g=if g=f then some v else fs.lookup g
 |[]=>by
  show List.lookup g [(f,v)]=_;by_cases h:g=f
  ·have hb:(g==f)=true:=beq_iff_eq.mpr h;simp only[List.lookup,hb,MJ h]
  ·have hb:(g==f)=false:=beq_eq_false_iff_ne.mpr h;simp only[List.lookup,hb,Je h]
 |(k,x)::r=>by
  have ih:=rF f g v r;rw[show bq f v ((k,x)::r)=(if k=f then(k,v)::r else(k,x)::bq f v r)from rfl];by_cases hk:k=f
  ·rw[MJ hk];by_cases h:g=k
   ·have hb:(g==k)=true:=beq_iff_eq.mpr h;simp only[List.lookup,hb,MJ (h.trans hk)]
   ·have hb:(g==k)=false:=beq_eq_false_iff_ne.mpr h;simp only[List.lookup,hb,Je (fun e:g=f=>h (e.trans hk.symm))]
  ·rw[Je hk];by_cases h:g=k
   ·have hb:(g==k)=true:=beq_iff_eq.mpr h;simp only[List.lookup,hb,Je (fun e:g=f=>hk (h.symm.trans e))]
   ·have hb:(g==k)=false:=beq_eq_false_iff_ne.mpr h;simp only[List.lookup,hb];exact ih
theorem qo(f:Str)(v:V):∀fs:List (Str×V),f∈(bq f v fs).map (·.1)∧∀g,g∈fs.map (·.1)→g∈(bq f v fs).map (·.1)
 |[]=>⟨by simp[bq],fun g h=>by simp at h⟩
 |(k,x)::r=>by
  obtain⟨i1,i2⟩:=qo f v r;rw[show bq f v ((k,x)::r)=(if k=f then(k,v)::r else(k,x)::bq f v r)from rfl];by_cases hk:k=f
  ·rw[MJ hk];subst hk;exact⟨XC,fun g h=>by simpa using h⟩
  ·rw[Je hk];refine⟨?_,fun g h=>?_⟩
   ·rw[List.map_cons];exact Θ i1
   ·rw[List.map_cons]at h⊢;rcases List.mem_cons.mp h with e|e
    ·exact List.mem_cons.mpr (.inl e)
    ·exact Θ (i2 g e)
theorem aW(f:Str)(v:V):∀fs:List (Str×V),(bq f v fs).length≤fs.length+1
 |[]=>by simp[bq]
 |(k,x)::r=>by
  have ih:=aW f v r;rw[show bq f v ((k,x)::r)=(if k=f then(k,v)::r else(k,x)::bq f v r)from rfl];by_cases hk:k=f
  ·rw[MJ hk,List.length_cons,List.length_cons];omega
  ·rw[Je hk,List.length_cons,List.length_cons];omega
theorem kx.some_of{v:V}{o:Option Value}(r:kx (some v) o):∃u,o=some u∧RelV v u:=by
 cases o with
 |none=>exact(show False from r).elim
 |some u=>exact⟨u,rfl,r⟩
theorem kx.none_of{o:Option Value}(r:kx none o):o=none:=by
 cases o with
 |none=>rfl
 |some u=>exact(show False from r).elim
theorem Cv{v:V}{u:Value}(r:RelV v u):PySem.W.handedIn u=true:=by
 cases v with
 |cL=>cases(show u=Value.none from r);rfl
 |bl b=>cases(show u=Value.bool b from r);rfl
 |int i=>obtain⟨t,e⟩:=(show ∃t,u=Value.int i t from r);cases e;rfl
 |str x=>obtain⟨t,e⟩:=(show ∃t,u=Value.str x t from r);cases e;rfl
 |Cn b=>obtain⟨t,e⟩:=(show ∃t,u=Value.bytes b t from r);cases e;rfl
 |IY b=>obtain⟨t,e⟩:=(show ∃t,u=Value.float b t from r);cases e;rfl
 |ref a=>cases(show u=Value.ref a from r);rfl
 |ty n=>cases(show u=Value.type n from r);rfl
section
variable{P:Program}{w:World}{H H':Hp}{h h':Heap}{a C dx:Addr}{fs W9:List (Str×V)}
theorem sF(bX:lE P w H h)(e:H a=some (.ins C dx fs)):∃mA,z9 h a dx C mA∧(∀f,kx (fs.lookup f) (mA f))∧PySem.Within mA (fs.map (·.1))∧fs.length≤1000∧H dx=some (.own a):=by
 obtain⟨d,z,ne,ob,mA,n,r,q⟩:=(show cR P w H h a (.ins C dx fs)from bX a _ e)
 exact⟨mA,⟨ob,n,ne⟩,r,q,z,d⟩
end
structure wK(K:PySem.W.Frag)(C:Addr):Prop where
 pg:PySem.W.plainGet K C Str.empty=true
 hd:PySem.W.hasDictIn K C=true
 po:PySem.W.plainOver K C=true
 sa:PySem.W.findIn K (.ref C) "__setattr__"=some (some (.builtin "object.__setattr__"))
theorem wK.get{K:PySem.W.Frag}{C:Addr}(c:wK K C)(f:Str):PySem.W.plainGet K C f=true:=c.pg
def b_(K:PySem.W.Frag)(C:Addr)(f:Str):Prop:=PySem.W.findIn K (.ref C) f=some none
theorem b_.N4{K:PySem.W.Frag}{C:Addr}{f:Str}(n:b_ K C f):PySem.W.takerIn K C f=some none:=by
 unfold PySem.W.takerIn;rw[show PySem.W.findIn K (.ref C) f=some none from n];rfl
structure Ef(K:PySem.W.Frag)(C:Addr)(f:Str)(v:V)(u:Value):Prop where
 at_:PySem.W.findIn K (.ref C) f=some (some u)
 rel:RelV v u
 get:PySem.W.specialIn K u "__get__"=some none
 cp:PySem.W.copiedNames.contains f=false
structure Meth(K:PySem.W.Frag)(C:Addr)(m:Str)(f:Addr):Prop where
 at_:PySem.W.findIn K (.ref C) m=some (some (.ref f))
 fn:PySem.W.isFn K (.ref f)=true
 kp:PySem.W.keepIn K (.ref f)=true
section
variable{X:Cx}{pins:List (Addr×Obj)}{σ:St}{H:Hp}{s:Shared}{a C dx:Addr}{fs:List (Str×V)}{f:Str}{v:V}{A:Around}{E:Value→Shared→Prop}
theorem z_{b:Bool}{Q:Value→Shared→Prop}(I:Inv X pins σ H s)(e:H a=some (.ins C dx fs))(c:wK X.K C)(n:b_ X.K C f)(l:fs.lookup f=some v)
  (h:∀u s',Inv X pins σ H s'→RelV v u→Q u s'):wpAny (model X.prog X.w) A (getAttr (.ref a) f b) Q E s:=by
 obtain⟨mA,O,r,_,_,_⟩:=sF I.bX e;obtain⟨u,hu,ru⟩:=kx.some_of (v:=v) (o:=mA f) (by rw[←l];exact r f);exact get_map I.qi O (c.get f) c.hd n hu (Cv ru) (h u _ (I.tok _) ru)
theorem nB{m:Str}{g:Addr}{pl:Sem Bool}{Q:Value×List Value→Shared→Prop}(I:Inv X pins σ H s)(e:H a=some (.ins C dx fs))(c:wK X.K C)(k:Meth X.K C m g)(l:fs.lookup m=none)
  (h:Q (.ref g,[.ref a]) s):wpAny (model X.prog X.w) A (getMethod (.ref a) m pl) Q E s:=by
 obtain⟨mA,O,r,_,_,_⟩:=sF I.bX e;have hn:mA m=none:=kx.none_of (by rw[←l];exact r m);exact Ed I.qi O (c.get m) k.at_ k.fn hn h
theorem Aa{y:V}{u:Value}{Q:Unit→Shared→Prop}(I:Inv X pins σ H s)(e:H a=some (.ins C dx fs))(c:wK X.K C)(n:b_ X.K C f)(hl:fs.length<1000)(ry:RelV y u)
  (h:∀s',Inv X pins σ (upd H a (.ins C dx (bq f y fs))) s'→Q () s'):wpAny (model X.prog X.w) A (setAttr (.ref a) f u) Q E s:=by
 obtain⟨mA,O,r,wi,_,ho⟩:=sF I.bX e;have hz:(fs.map (·.1)).length≤sizeLine:=by rw[List.length_map,sizeLine_eq];omega
 refine G7 I.qi O c.sa c.po n.N4 c.hd wi hz fun h' O' sb=>h _ ?_
 have hd:∃o,h'.get? dx=some o:=let ⟨o,_,_,e',_⟩:=O'.ns;⟨o,e'⟩
 refine I.write (x:=a) (e:=dx) (by rw[e];exact True.intro) (.inr ho) (fun b q hb z=>(sb.2 b hb).trans z) hd ?_;refine⟨by rw[ao O.ne];exact ho,?_,O.ne,O'.obj,_,O'.ns,fun g=>?_,fun g hg=>?_⟩
 ·have:=aW f y fs;omega
 ·show kx ((bq f y fs).lookup g) (if g=f then some u else mA g);rw[rF];by_cases q:g=f
  ·rw[MJ q,MJ q];exact ry
  ·rw[Je q,Je q];exact r g
 ·by_cases q:g=f
  ·rw[q];exact(qo f y fs).1
  ·refine(qo f y fs).2 g (wi g fun z=>hg ?_);show(if g=f then some u else mA g)=none;rw[Je q];exact z
theorem Inv.made(I:Inv X pins σ H s):Inv X pins σ (upd (upd H s.heap.objs.size (.own (s.heap.objs.size+1))) (s.heap.objs.size+1) (.ins C s.heap.objs.size []))
  {s with heap:=(s.heap.push PySem.W.emptyDict).push (PySem.W.instObj C s.heap.objs.size)}:=by
 have e1:(s.heap.push PySem.W.emptyDict).get? s.heap.objs.size=some PySem.W.emptyDict:=Heap.get?_push_size s.heap rfl;have e2:((s.heap.push PySem.W.emptyDict).push (PySem.W.instObj C s.heap.objs.size)).get? (s.heap.objs.size+1)=some (PySem.W.instObj C s.heap.objs.size):=by
  have:=Heap.get?_push_size (s.heap.push PySem.W.emptyDict) (o:=PySem.W.instObj C s.heap.objs.size) rfl;rwa[Heap.size_push]at this
 have e3:(s.heap.push PySem.W.emptyDict).Ns s.heap.objs.size (fun _=>none):=⟨PySem.W.emptyDict,#[],_,e1,rfl,(fun e he=>absurd he Vs),fun _=>rfl⟩
 have I1:=I.laid (a:=s.heap.objs.size) (o:= .own (s.heap.objs.size+1)) (h':=s.heap.push PySem.W.emptyDict) (t':=s.toks) (fun b u q=>ZU q) (Nat.le_refl _) ⟨_,e1⟩;refine I1.laid (a:=s.heap.objs.size+1) (o:= .ins C s.heap.objs.size []) (t':=s.toks) (fun b u q=>ZU q) (Nat.le_of_eq (Heap.size_push _ _)) ?_;have ne:s.heap.objs.size≠s.heap.objs.size+1:=Nat.ne_of_lt (Nat.lt_succ_self _);refine⟨by rw[ao ne,ae],Nat.zero_le _,ne,e2,fun _=>none,(Heap.Ns1.of_empty e3).at fun o q=>ZU q,fun _=>True.intro,fun y hy=>absurd rfl hy⟩
theorem G9{prog:Program}{w:World}{env:Env}{e:Expr}{f:Str}{pos:Pos}{s:Shared}{Q:Value→Shared→Prop}(hb:attributeBase e f env (eval e env)=eval e env)
  (h:wpAny (model prog w) A (eval e env) (fun o cn=>wpAny (model prog w) A (getAttr o f true) Q E cn) E s):wpAny (model prog w) A (eval (.Attribute e f pos) env) Q E s:=
 Attribute_any_ h (by rw[arm_eval_Attribute,hb])
end
inductive Jd(K:PySem.W.Frag)(f:Str)(x:V)(H1:Hp)(Q:VK):Prop
 |mk (a:Addr) (C:Addr) (dx:Addr) (fs:List (Str×V)) (v:V) (_:x= .ref a) (_:H1 a=some (.ins C dx fs)) (_:wK K C) (_:b_ K C f) (_:fs.lookup f=some v) (_:Q v H1):Jd K f x H1 Q
def N5(K:PySem.W.Frag)(ta:TE)(f:Str):TE:=fun σ H Q=>ta σ H fun x H1=>Jd K f x H1 Q
def N6(K:PySem.W.Frag)(ta tv:TE)(f:Str):TS:=fun D σ H=>tv σ H fun y H1=>ta σ H1 fun x H2=>∃a C dx fs,x= .ref a∧H2 a=some (.ins C dx fs)∧wK K C∧b_ K C f∧fs.length<1000∧
 D.nx σ (upd H2 a (.ins C dx (bq f y fs)))
section
variable{X:Cx}{o e value:Expr}{f:Str}{pos pos' R_:Pos}{ta tv:TE}
theorem KI(he:PE X e ta)(hb:attributeBase e f X.env (eval e X.env)=eval e X.env):PE X (.Attribute e f pos) (N5 X.K ta f):=by
 intro pins s σ H Q I h;refine G9 hb (cJ (he pins s σ H _ I h) fun u s1 ⟨x,H1,I1,rx,a,C,dx,fs,v,ex,ea,c,n,l,q⟩=>?_);subst ex;obtain rfl:u=Value.ref a:=rx;exact z_ I1 ea c n l fun u' s2 I2 ru=>⟨v,H1,I2,ru,q⟩
theorem KJ(ha:PE X o ta)(hv:PE X value tv)(hs:swapsWith value (some (.Attribute o f pos')) pos.line X.env=pure false):PS X (.Assign [.Attribute o f pos'] value pos) (N6 X.K ta tv f):=by
 intro pins s σ H D I h;refine plainObj_wpAny_Assign_Attribute (cJ (hv pins s σ H _ I h) fun u s1 ⟨y,H1,I1,ry,q⟩=>cJ (ha pins s1 σ H1 _ I1 q) fun ov s2 ⟨x,H2,I2,rx,a,C,dx,fs,ex,ea,c,n,l,q2⟩=>?_) hs;subst ex;obtain rfl:ov=Value.ref a:=rx;exact Aa I2 ea c n l ry fun s3 I3=>⟨σ,_,I3,q2⟩
theorem aas{pl:Sem Bool}{m:Str}{apos:Pos}{args:List Expr}{pins:List (Addr×Obj)}{s:Shared}{σ:St}{H:Hp}{Q:Value→Shared→Prop}{te:TE}(he:PE X e te)(I:Inv X pins σ H s)
  (h:te σ H fun x H1=>∃a C dx fs g,x= .ref a∧H1 a=some (.ins C dx fs)∧wK X.K C∧Meth X.K C m g∧fs.lookup m=none∧
   ∀s1,Inv X pins σ H1 s1→wpAny (model X.prog X.w) X.A (callWith pos (.ref g) [.ref a] (backTo pos (starEach args X.env)) (backToKw pos (keywordEach [] X.env))) Q X.xe s1)
  (ht:eval (.Call (.Attribute e m apos) args [] pos) X.env=(do
   let ov←eval e X.env
   standAt apos.atName
   let (f,first)←holding [ov] (getMethod ov m pl)
   callWith pos f first (backTo pos (starEach args X.env)) (backToKw pos (keywordEach [] X.env)))):
  wpAny (model X.prog X.w) X.A (eval (.Call (.Attribute e m apos) args [] pos) X.env) Q X.xe s:=by
 refine PySem.W.methodCall_KW (pl:=pl) (cJ (he pins s σ H _ I h) fun u s1 ⟨x,H1,I1,rx,a,C,dx,fs,g,ex,ea,c,k,l,q⟩=>?_) ht;subst ex;obtain rfl:u=Value.ref a:=rx;exact nB I1 ea c k l (q s1 I1)
end
section
variable{X:Cx}{pins:List (Addr×Obj)}{σ:St}{H:Hp}{s:Shared}{A:Around}{E:Value→Shared→Prop}{Q:Value→Shared→Prop}{c:Value}{b:Bool}
inductive qp(K:PySem.W.Frag)(H:Hp):V→Value→Prop where
 |cL:qp K H .cL (.type "NoneType")
 |bl (x:Bool):qp K H (.bl x) (.type "bool")
 |int (i:Int):qp K H (.int i) (.type "int")
 |str (x:Str):qp K H (.str x) (.type "str")
 |IY (x:UInt64):qp K H (.IY x) (.type "float")
 |lst {a:Addr} {xs:List V} (e:H a=some (.lst xs)):qp K H (.ref a) (.type "list")
 |sE {a:Addr} {o:Obj} {xs:List V} (e:H a=some (.sE o (.lst xs))):qp K H (.ref a) (.type "list")
 |tup {a:Addr} {xs:List V} (e:H a=some (.tup xs)):qp K H (.ref a) (.type "tuple")
 |dK {a:Addr} {kvs:List (Key×V)} (e:H a=some (.dK kvs)):qp K H (.ref a) (.type "dict")
 |dT {a:Addr} {kvs:List (List Key×V)} (e:H a=some (.dT kvs)):qp K H (.ref a) (.type "dict")
 |ins {a C dx:Addr} {fs:List (Str×V)} (e:H a=some (.ins C dx fs)) (cl:wK K C) (ha:PySem.W.findIn K (.ref C) "__class__"=some (some (.builtin "object.__class__")))
   (hn:PySem.W.specialIn K (.builtin "object.__class__") "__get__"=some (some (.builtin "getset_descriptor.__get__"))) (Qw:PySem.W.takesIn K (.builtin "object.__class__")=some true)
   (hm:PySem.W.mroIn K C (.type "object")=some true):qp K H (.ref a) (.ref C)
theorem Cw{x:V}{u t:Value}(I:Inv X pins σ H s)(rx:RelV x u)(ty:qp X.K H x t)(e:PySem.W.kitOne X.K t c=some b)(h:∀tk,Q (.bool b) {s with toks:=tk}):
  wpAny (model X.prog X.w) A (call (.builtin "isinstance") [u,c]) Q E s:=by
 cases ty with
 |cL=>cases(show u=Value.none from rx);exact PySem.W.kia_one PySem.W.kitx_none I.qi True.intro e (fun z=>nomatch z) h
 |bl y=>cases(show u=Value.bool y from rx);exact PySem.W.kia_one PySem.W.kitx_bool I.qi True.intro e (fun z=>nomatch z) h
 |int i=>obtain⟨t,q⟩:=(show ∃t,u=Value.int i t from rx);cases q;exact PySem.W.kia_one PySem.W.kitx_int I.qi True.intro e (fun z=>nomatch z) h
 |str y=>obtain⟨t,q⟩:=(show ∃t,u=Value.str y t from rx);cases q;exact PySem.W.kia_one PySem.W.kitx_str I.qi True.intro e (fun z=>nomatch z) h
 |IY y=>obtain⟨t,q⟩:=(show ∃t,u=Value.float y t from rx);cases q;exact PySem.W.kia_one PySem.W.kitx_float I.qi True.intro e (fun z=>nomatch z) h
 |@lst a xs ea=>
  cases(show u=Value.ref a from rx);obtain⟨_,_,n,_,h1⟩:=(show cR X.prog X.w H s.heap a (.lst xs)from I.bX a _ ea)
  exact PySem.W.kia_one PySem.W.kitx_list I.qi ⟨_,h1,rfl⟩ e (fun z=>nomatch z) h
 |@sE a ob xs ea=>
  cases(show u=Value.ref a from rx);obtain⟨_,_,_,n,_,h1⟩:=(show cR X.prog X.w H s.heap a (.sE ob (.lst xs))from I.bX a _ ea)
  exact PySem.W.kia_one PySem.W.kitx_list I.qi ⟨_,h1,rfl⟩ e (fun z=>nomatch z) h
 |@tup a xs ea=>
  cases(show u=Value.ref a from rx);obtain⟨_,_,_,p⟩:=(show cR X.prog X.w H s.heap a (.tup xs)from I.bX a _ ea)
  obtain⟨o,h1,h2,_⟩:=p;exact PySem.W.kia_one PySem.W.kitx_tuple I.qi ⟨o,h1,h2⟩ e (fun z=>nomatch z) h
 |@dK a kvs ea=>
  cases(show u=Value.ref a from rx);obtain⟨_,_,vs,_,p⟩:=(show cR X.prog X.w H s.heap a (.dK kvs)from I.bX a _ ea)
  obtain⟨o,es,ep,h1,h2,_⟩:=p;exact PySem.W.kia_one PySem.W.kitx_dict I.qi ⟨o,h1,h2.1⟩ e (fun z=>nomatch z) h
 |@dT a kvs ea=>
  cases(show u=Value.ref a from rx);obtain⟨_,_,xs,_,o,es,ep,h1,h2,_⟩:=(show cR X.prog X.w H s.heap a (.dT kvs)from I.bX a _ ea)
  exact PySem.W.kia_one PySem.W.kitx_dict I.qi ⟨o,h1,h2.1⟩ e (fun z=>nomatch z) h
 |@ins a C dx fs ea cl ha hn Qw hm=>
  cases(show u=Value.ref a from rx);obtain⟨mA,O,_⟩:=sF I.bX ea;obtain⟨od,J,_⟩:=O.look;exact PySem.W.kia_one (PySem.W.kitx_own (cl.get _) cl.hd ha hn Qw hm) I.qi J e (fun z=>nomatch z) h
end
structure eO(cm:Bool)(k:Nat)(A:Around):Prop where
 hd:cm=true→A.handled=none
 dp:A.depth+3*k+5<recursionLimit
 un:A.units+16*k+200<cLine
theorem eO.mono{cm:Bool}{j k:Nat}{A:Around}(r:eO cm k A)(h:j≤k):eO cm j A:=⟨r.hd,by have:=r.dp;omega,by have:=r.un;omega⟩
theorem eO.deeper{cm:Bool}{k:Nat}{A:Around}(r:eO cm (k+1) A)(env:Env):eO cm k (A.deeper env):=
 ⟨r.hd,by have:=r.dp;show A.depth+1+3*k+5<_;omega,by have:=r.un;show A.units+3+16*k+200<_;omega⟩
theorem Ab{A:Around}{C:Addr}{us:List Value}{kw:List (Str×Value)}:(A.under (.builtin "type.__call__" ⟨.ref C::us,kw⟩)).depth=A.depth+1:=by
 first|rfl|simp[Around.under,Code.weight,Code.isCreation,Code.isGuard,Code.isCaller,Code.frames,Code.isFrame,guardIds]
theorem Ac{A:Around}{C:Addr}{us:List Value}{kw:List (Str×Value)}:(A.under (.builtin "type.__call__" ⟨.ref C::us,kw⟩)).units=A.units+1:=by
 first|rfl|simp[Around.under,Code.cUnits,Code.frames,Code.isFrame]
theorem eO.make{cm:Bool}{k:Nat}{A:Around}(r:eO cm (k+1) A)(C:Addr)(us:List Value)(kw:List (Str×Value)):eO cm k (A.under (.builtin "type.__call__" ⟨.ref C::us,kw⟩)):=
 ⟨r.hd,by have:=r.dp;rw[Ab];omega,by have:=r.un;rw[Ac];omega⟩
theorem eO.depth{cm:Bool}{k:Nat}{A:Around}(r:eO cm k A):A.depth<recursionLimit:=by have:=r.dp;omega
theorem eO.units{cm:Bool}{k:Nat}{A:Around}(r:eO cm k A):A.units+64<cLine:=by have:=r.un;omega
def Eh:TA:=fun _ H Q=>Q [] H
def Jf(ta:TE)(tr:TA):TA:=fun σ H Q=>ta σ H fun x H1=>tr σ H1 fun xs H2=>Q (x::xs) H2
section
variable{X:Cx}{e:Expr}{es:List Expr}{te:TE}{t:TA}{pos:Pos}
theorem ai:PA X [] Eh:=fun _ _ _ _ H Q I h=>Calls.spliced_nil ⟨[],H,I, .nil,h⟩
theorem G_(ha:PE X e te)(hr:PA X es t)(hs:starEach (e::es) X.env=(false,eval e X.env)::starEach es X.env:=by rfl):PA X (e::es) (Jf te t):=by
 intro pos pins s σ H Q I h;rw[hs];show wpAny _ _ (spliced ((false,eval e X.env)::backTo pos (starEach es X.env))) _ _ s;refine Calls.spliced_cons (cJ (ha pins s σ H _ I h) fun u s1 ⟨x,H1,I1,r1,q1⟩=>?_);exact cJ (hr pos pins s1 σ H1 _ I1 q1) fun us s2 ⟨xs,H2,I2,r2,q2⟩=>⟨x::xs,H2,I2, .cons r1 r2,q2⟩
def Se(t:TA):TE:=fun σ H Q=>t σ H fun xs H1=>xs.length≤sizeLine∧∀p,H1 p=none→Q (.ref p) (upd H1 p (.tup xs))
def Sg(t:TA):TE:=fun σ H Q=>t σ H fun xs H1=>xs.length≤sizeLine∧∀p,H1 p=none→Q (.ref p) (upd H1 p (.lst xs))
theorem eC{x1}(h:PA X es t):PE X (.Tuple es x1 pos) (Se t):=by
 intro pins s σ H Q I hq;refine wpAny_Tuple_spliced (cJ (h pos pins s σ H _ I hq) fun us s1 ⟨xs,H1,I1,r,z,q⟩=>⟨by rw[←r.length];exact z,?_⟩);have hf:H1 s1.heap.objs.size=none:=I1.bX.fresh ZT;refine⟨.ref s1.heap.objs.size,upd H1 s1.heap.objs.size (.tup xs),I1.laid (t':=s1.toks) (fun b u e=>ZU e) (Nat.le_refl _) ?_,rfl,q _ hf⟩;exact⟨z,us,r,⟨_,Heap.get?_push_size _ rfl,rfl,_,rfl⟩⟩
theorem bo(h:PA X es t):PE X (.List es pos) (Sg t):=by
 intro pins s σ H Q I hq;refine wpAny_List_spliced (cJ (h pos pins s σ H _ I hq) fun us s1 ⟨xs,H1,I1,r,z,q⟩=>⟨by rw[←r.length];exact z,?_⟩);have hf:H1 s1.heap.objs.size=none:=I1.bX.fresh ZT;refine⟨.ref s1.heap.objs.size,upd H1 s1.heap.objs.size (.lst xs),I1.laid (t':=s1.toks) (fun b u e=>ZU e) (Nat.le_refl _) ?_,rfl,q _ hf⟩;exact⟨z,us,0,r,Heap.get?_push_size _ rfl⟩
end
abbrev Sp:=List V→Hp→VK→XK→Prop
abbrev Ei:=List Env→Hp→Shared→XK→Value→Shared→Prop
structure Ad(P:Program)(w:World)(K:PySem.W.Frag)(mg:Str→Option Value)(base:Heap)(A:Around)(outer:List Env)(s:Shared)(H:Hp):Prop where
 frames:A.frames=some outer
 mod:Mod K mg base
 bs:∀b o,base.get? b=some o→s.heap.get? b=some o∧H b=none
 Ki:base.objs.size≤s.heap.objs.size
 uT:s.heap.FunFrames base outer
 NJ:∀b∈oj outer,H b=none
 bX:lE P w H s.heap
 bare:AllBare s.gens
def CE(outer:List Env)(P:Program)(w:World)(H:Hp)(s:Shared)(Q:VK)(u:Value)(s':Shared):Prop:=
 ∃v H',s'.os=s.os∧AllBare s'.gens∧Un (oj outer) [] H H' s.heap s'.heap∧lE P w H' s'.heap∧RelV v u∧Q v H'
def CR(CX:Ei)(outer:List Env)(P:Program)(w:World)(H:Hp)(s:Shared)(Q:VK)(E:XK)(r:Result)(s':Shared):Prop:=
 match r with
 | .ok (.ret u)=>CE outer P w H s Q u s'
 | .ok _=>False
 | .error e=>CX outer H s E e s'
structure a7(P:Program)(w:World)(K:PySem.W.Frag)(mg:Str→Option Value)(base:Heap)(CX:Ei)(cm:Bool)(k:Nat)(f:Addr)(fd:FuncData)(ps:List Str)(sp:Sp):Prop where
 len:∀vs H Q E,sp vs H Q E→vs.length=ps.length
 run:∀(A:Around)(outer:List Env)(s:Shared)(H:Hp)(args:Args)(us:List Value)(vs:List V)(Q:VK)(E:XK),eO cm k A→Ad P w K mg base A outer s H→BindsTo s fd args (ps.zip us)→Vals vs us→sp vs H Q E→
  codeAny (model P w) A (.call (.ref f) args) (CR CX outer P w H s Q E) s
theorem Ad.make{P:Program}{w:World}{K:PySem.W.Frag}{mg:Str→Option Value}{base:Heap}{A:Around}{outer:List Env}{s:Shared}{H:Hp}(e:Ad P w K mg base A outer s H)(C:Addr)(us:List Value)(kw:List (Str×Value)):
  Ad P w K mg base (A.under (.builtin "type.__call__" ⟨.ref C::us,kw⟩)) outer s H:=⟨by first|exact e.frames|(simpa[Around.under,Code.envs,Code.isFrame,pushEnvs]using e.frames),e.mod,e.bs,e.Ki,e.uT,e.NJ,e.bX,e.bare⟩
section
variable{X:Cx}{pins:List (Addr×Obj)}{σ:St}{H:Hp}{s s':Shared}
theorem Inv.KL(I:Inv X pins σ H s):Ad X.prog X.w X.K X.mg X.base X.A X.stack s H:=
 ⟨I.ok.frames,I.ok.mod,I.bs,Nat.le_trans I.ok.Ki I.sz,I.stack,I.wH,I.bX,I.bare⟩
theorem Inv.after{Q:VK}{u:Value}(I:Inv X pins σ H s)(h:CE X.stack X.prog X.w H s Q u s'):EP X pins σ Q u s':=by
 obtain⟨v,H',os,bare,un,bX,r,q⟩:=h;obtain⟨hh,g,d,t,Xl⟩:=s';obtain rfl:Xl=s.os:=os;exact⟨v,H',I.call (h':=hh) (g':=g) (d':=d) (t':=t) (ch:=[]) un bX bare (fun b z=>absurd z Vs),r,q⟩
end
def Jg(sp:Sp)(mj:List V)(E:St→XK)(t:TA):TE:=fun σ H Q=>t σ H fun vs H1=>sp (vs++mj) H1 Q (E σ)
def Bs(C:Addr)(m:Str)(sp:Sp)(mj:List V)(E:St→XK)(ta:TE)(t:TA):TE:=fun σ H Q=>ta σ H fun x H1=>∃a dx fs,x= .ref a∧H1 a=some (.ins C dx fs)∧fs.lookup m=none∧
 t σ H1 fun vs H2=>sp (x::(vs++mj)) H2 Q (E σ)
def Bt(C:Addr)(sp:Sp)(mj:List V)(E:St→XK)(t:TA):TE:=fun σ H Q=>t σ H fun vs H1=>∀x dx,H1 x=none→H1 dx=none→dx≠x→
 sp (.ref x::(vs++mj)) (upd (upd H1 dx (.own x)) x (.ins C dx [])) (fun v H2=>v= .cL∧Q (.ref x) H2) (E σ)
def Binds(K:PySem.W.Frag)(fd:FuncData)(ps:List Str)(ds:List Value):Prop:=
 ∀(s:Shared)(us:List Value),K.In s.heap→(us++ds).length=ps.length→BindsTo s fd ⟨us,[]⟩ (ps.zip (us++ds))
theorem Binds.all{K:PySem.W.Frag}{fd:FuncData}{ps:List Str}(h:∀us:List Value,us.length=ps.length→bindArgs fd ⟨us,[]⟩=pure (ps.zip us)):Binds K fd ps []:=fun s us _ hl=>by
 rw[List.append_nil]at hl⊢;exact .of_eq (h us hl)
def Passes(CX:Ei)(X:Cx)(E:St→XK):Prop:=∀(pins:List (Addr×Obj))(σ:St)(H:Hp)(s:Shared)(e:Value)(s':Shared),Inv X pins σ H s→CX X.stack H s (E σ) e s'→X.xe e s'
section
variable{X:Cx}{CX:Ei}{cm:Bool}{k:Nat}{f C:Addr}{fd:FuncData}{ps:List Str}{sp:Sp}{mj:List V}{ds:List Value}{E:St→XK}{x m:Str}{p pos apos:Pos}{e o:Expr}{es:List Expr}{ta:TE}{t:TA}
theorem Ae{pins:List (Addr×Obj)}{σ:St}{H:Hp}{s:Shared}{Q:VK}{us:List Value}{vs:List V}(F:a7 X.prog X.w X.K X.mg X.base CX cm k f fd ps sp)(hr:eO cm k X.A)(hb:Binds X.K fd ps ds)(hd:Vals mj ds)(hx:Passes CX X E)
  (I:Inv X pins σ H s) (r:Vals vs us) (h:sp (vs++mj) H Q (E σ)):wpAny (model X.prog X.w) X.A (call (.ref f) us) (EP X pins σ Q) X.xe s:=by
 have r2:Vals (vs++mj) (us++ds):=r.append hd;have hl:(us++ds).length=ps.length:=by rw[←r2.length];exact F.len _ _ _ _ h
 refine wpAny_call (codeAny_mono (F.run X.A X.stack s H ⟨us,[]⟩ (us++ds) (vs++mj) Q (E σ) hr I.KL (hb s us I.qi hl) r2 h) fun r s' hq=>?_);cases r with
 |error e=>exact hx pins σ H s e s' I hq
 |ok fl=>
  cases fl with
  |ret u=>exact I.after hq
  |next=>exact False.elim hq
  |brk=>exact False.elim hq
  |cont=>exact False.elim hq
theorem Ha(F:a7 X.prog X.w X.K X.mg X.base CX cm k f fd ps sp)(hr:eO cm k X.A)(hg:Gl X x)(hm:X.mg x=some (.ref f))(hk:PySem.W.keepIn X.K (.ref f)=true)(hb:Binds X.K fd ps ds)(hd:Vals mj ds)(hx:Passes CX X E)
  (ha:PA X (e::es) t) (wL:(x==("__debug__":Str))=false:=by decide) (he:starEach (e::es) X.env=(false,eval e X.env)::starEach es X.env:=by rfl) (rG:(backTo pos (starEach es X.env)).any (·.1)=false:=by rfl):
  PE X (.Call (.Name x p) (e::es) [] pos) (Jg sp mj E t):=by
 intro pins s σ H Q I h;refine wpAny_Call_Name_kw (ow I hg hm ?_ wL);refine PySem.W.callWith_K (h₀:=X.base) I.ok.mod.MN hk (cJ (ha pos pins s σ H _ I h) fun us s1 ⟨vs,H1,I1,r,q⟩=>⟨I1.qi,?_⟩) he rG;exact Ae F hr hb hd hx I1 r q
theorem Hb{pl:Sem Bool}(he:PE X o ta)(c:wK X.K C)(hm:Meth X.K C m f)(F:a7 X.prog X.w X.K X.mg X.base CX cm k f fd ps sp)(hr:eO cm k X.A)(hb:Binds X.K fd ps ds)(hd:Vals mj ds)(hx:Passes CX X E)(ha:PA X (e::es) t)
  (uN:starEach (e::es) X.env=(false,eval e X.env)::starEach es X.env:=by rfl) (rG:(backTo pos (starEach es X.env)).any (·.1)=false:=by rfl)
  (ht:eval (.Call (.Attribute o m apos) (e::es) [] pos) X.env=(do
   let ov←eval o X.env
   standAt apos.atName
   let (f,first)←holding [ov] (getMethod ov m pl)
   callWith pos f first (backTo pos (starEach (e::es) X.env)) (backToKw pos (keywordEach [] X.env))):=by rfl):
  PE X (.Call (.Attribute o m apos) (e::es) [] pos) (Bs C m sp mj E ta t):=by
 intro pins s σ H Q I h;refine PySem.W.methodCall_KW (pl:=pl) (cJ (he pins s σ H _ I h) fun u s1 ⟨x,H1,I1,rx,a,dx,fs,ex,ea,l,q⟩=>?_) ht;subst ex;obtain rfl:u=Value.ref a:=rx;refine nB I1 ea c hm l ?_;refine PySem.W.callWith_K (first:=[.ref a]) (h₀:=X.base) I.ok.mod.MN hm.kp (cJ (ha pos pins s1 σ H1 _ I1 q) fun us s2 ⟨vs,H2,I2,r,q2⟩=>⟨I2.qi,?_⟩) uN rG;exact Ae (us:= .ref a::us) (vs:= .ref a::vs) F hr hb hd hx I2 (.cons rfl r) q2
theorem Ej{pl:Sem Bool}(he:PE X o ta)(c:wK X.K C)(hm:Meth X.K C m f)(F:a7 X.prog X.w X.K X.mg X.base CX cm k f fd ps sp)(hr:eO cm k X.A)(hb:Binds X.K fd ps ds)(hd:Vals mj ds)(hx:Passes CX X E)
  (ht:eval (.Call (.Attribute o m apos) [] [] pos) X.env=(do
   let ov←eval o X.env
   standAt apos.atName
   let (f,first)←holding [ov] (getMethod ov m pl)
   callWith pos f first (backTo pos (starEach [] X.env)) (backToKw pos (keywordEach [] X.env))):=by rfl):
  PE X (.Call (.Attribute o m apos) [] [] pos) (Bs C m sp mj E ta Eh):=by
 intro pins s σ H Q I h;refine PySem.W.methodCall_KW (pl:=pl) (cJ (he pins s σ H _ I h) fun u s1 ⟨x,H1,I1,rx,a,dx,fs,ex,ea,l,q⟩=>?_) ht;subst ex;obtain rfl:u=Value.ref a:=rx;refine nB I1 ea c hm l ?_;exact PySem.W.callWith_K0 (first:=[.ref a]) I1.qi hm.kp (Ae (us:=[.ref a]) (vs:=[.ref a]) F hr hb hd hx I1 (.cons rfl .nil) q)
structure Mk(K:PySem.W.Frag)(C f:Addr):Prop where
 makes:PySem.W.makesIn K C=true
 init:PySem.W.findIn K (.ref C) "__init__"=some (some (.ref f))
 fn:PySem.W.isFn K (.ref f)=true
 kp:PySem.W.keepIn K (.ref C)=true
theorem yI{pins:List (Addr×Obj)}{σ:St}{H:Hp}{s:Shared}{Q:VK}{us:List Value}{vs:List V}(M:Mk X.K C f)(F:a7 X.prog X.w X.K X.mg X.base CX cm k f fd ps sp)(hr:eO cm (k+1) X.A)(hb:Binds X.K fd ps ds)(hd:Vals mj ds)
  (hx:Passes CX X E) (I:Inv X pins σ H s) (r:Vals vs us)
  (h:∀x dx,H x=none→H dx=none→dx≠x→sp (.ref x::(vs++mj)) (upd (upd H dx (.own x)) x (.ins C dx [])) (fun v H2=>v= .cL∧Q (.ref x) H2) (E σ)):
  wpAny (model X.prog X.w) X.A (call (.ref C) us) (EP X pins σ Q) X.xe s:=by
 have hq:=h (s.heap.objs.size+1) s.heap.objs.size (I.bX.fresh (Nat.le_succ _)) (I.bX.fresh ZT) (Nat.ne_of_lt (Nat.lt_succ_self _));have I2:=Inv.made (C:=C) I;have r2:Vals (V.ref (s.heap.objs.size+1)::(vs++mj)) (Value.ref (s.heap.objs.size+1)::(us++ds)):= .cons rfl (r.append hd);have hl:(Value.ref (s.heap.objs.size+1)::us++ds).length=ps.length:=by
  have e:=r2.length;rw[F.len _ _ _ _ hq]at e;exact e.symm
 refine wpAny_call (Ee (f:=f) I.qi M.makes M.init (beq_iff_eq.mp M.fn) (codeAny_mono (F.run _ X.stack _ _ ⟨Value.ref (s.heap.objs.size+1)::us,[]⟩ (Value.ref (s.heap.objs.size+1)::(us++ds)) _ _ (E σ) (hr.make C us [])
  (I2.KL.make C us []) (hb _ (Value.ref (s.heap.objs.size+1)::us) I2.qi hl) r2 hq) fun r s' N7=>?_))
 cases r with
 |error e=>exact hx pins σ _ _ e s' I2 N7
 |ok fl=>
  cases fl with
  |ret u=>
   obtain⟨v,H',I3,rv,ev,q3⟩:=I2.after N7;subst ev;exact⟨rv,⟨V.ref (s.heap.objs.size+1),H',I3,rfl,q3⟩⟩
  |next=>exact False.elim N7
  |brk=>exact False.elim N7
  |cont=>exact False.elim N7
theorem Hd(M:Mk X.K C f)(F:a7 X.prog X.w X.K X.mg X.base CX cm k f fd ps sp)(hr:eO cm (k+1) X.A)(hg:Gl X x)(hm:X.mg x=some (.ref C))(hb:Binds X.K fd ps ds)(hd:Vals mj ds)(hx:Passes CX X E)
  (ha:PA X (e::es) t) (wL:(x==("__debug__":Str))=false:=by decide) (he:starEach (e::es) X.env=(false,eval e X.env)::starEach es X.env:=by rfl) (rG:(backTo pos (starEach es X.env)).any (·.1)=false:=by rfl):
  PE X (.Call (.Name x p) (e::es) [] pos) (Bt C sp mj E t):=by
 intro pins s σ H Q I h;refine wpAny_Call_Name_kw (ow I hg hm ?_ wL);refine PySem.W.callWith_K (h₀:=X.base) I.ok.mod.MN M.kp (cJ (ha pos pins s σ H _ I h) fun us s1 ⟨vs,H1,I1,r,q⟩=>⟨I1.qi,?_⟩) he rG;exact yI M F hr hb hd hx I1 r q
theorem Ek(M:Mk X.K C f)(F:a7 X.prog X.w X.K X.mg X.base CX cm k f fd ps sp)(hr:eO cm (k+1) X.A)(hg:Gl X x)(hm:X.mg x=some (.ref C))(hb:Binds X.K fd ps ds)(hd:Vals mj ds)(hx:Passes CX X E)
  (wL:(x==("__debug__":Str))=false:=by decide):PE X (.Call (.Name x p) [] [] pos) (Bt C sp mj E Eh):=by
 intro pins s σ H Q I h;refine wpAny_Call_Name_kw (ow I hg hm ?_ wL);exact PySem.W.callWith_K0 I.qi M.kp (yI (us:=[]) M F hr hb hd hx I .nil h)
end
section
variable{X:Cx}{CX:Ei}{cm:Bool}{k:Nat}{f C:Addr}{fd:FuncData}{ps ks:List Str}{sp:Sp}{E:St→XK}{x m:Str}{p pos apos aaB:Pos}{e o:Expr}{es:List Expr}{aaT:List Keyword}{te ta:TE}{t tk:TA}{nm:Option Str}
variable{g:List Value→List Value→List Value}{gV:List V→List V→List V}
end
structure aL(N P:List Str)(sc:Scope):Prop where
 kind:sc.kind= .function
 co:sc.isCoroutine=false
 gen:sc.isGenerator=false
 nd:N.Nodup
 pre:N.take P.length=P
 par:∀x∈P,sc.names.lookup x=some .local∨sc.names.lookup x=some .cell
 KN:∀y∈sc.names,y.2≠ .free
theorem vM{kindOf:Str→Option NameKind}{x:Str}:∀{binds:List (Str×Value)}{m:Str→Option Value},(∀v,(x,v)∉binds)→bindL kindOf binds m x=m x
 |[],_,_=>rfl
 |(n,v)::r,m,h=>by
  unfold bindL;rw[vM fun w hw=>h w (Θ hw)];split
  ·have:x≠n:=by rintro rfl;exact h v List.mem_cons_self
   simp[this]
  ·rfl
theorem vN{kindOf:Str→Option NameKind}{x:Str}:∀{binds:List (Str×Value)}{m:Str→Option Value},(∀v,(x,v)∉binds)→bindC kindOf binds m x=m x
 |[],_,_=>rfl
 |(n,v)::r,m,h=>by
  unfold bindC;rw[vN fun w hw=>h w (Θ hw)];split
  ·rfl
  ·have:x≠n:=by rintro rfl;exact h v List.mem_cons_self
   simp[this]
theorem vO{kindOf:Str→Option NameKind}{x:Str}{v:Value}:∀{P:List Str}{vs:List Value}{i:Nat}{m:Str→Option Value},P.Nodup→P[i]?=some x→vs[i]?=some v→kindOf x=some .local→
  bindL kindOf (P.zip vs) m x=some v
 |[],_,_,_,_,h,_,_=>by simp at h
 | _::_,[],_,_,_,_,h,_=>by simp at h
 |p::P,w::vs,0,m,nd,h1,h2,hk=>by
  simp at h1 h2;subst h1;subst h2;show bindL kindOf ((p,w)::P.zip vs) m p=_;unfold bindL;rw[vM fun v hv=>(List.nodup_cons.mp nd).1 (List.of_mem_zip hv).1,MJ hk];simp
 |p::P,w::vs,i+1,m,nd,h1,h2,hk=>by
  show bindL kindOf ((p,w)::P.zip vs) m x=_;unfold bindL;exact vO (i:=i) (List.nodup_cons.mp nd).2 (by simpa using h1) (by simpa using h2) hk
theorem vP{kindOf:Str→Option NameKind}{x:Str}{v:Value}:∀{P:List Str}{vs:List Value}{i:Nat}{m:Str→Option Value},P.Nodup→P[i]?=some x→vs[i]?=some v→kindOf x≠some .local→
  bindC kindOf (P.zip vs) m x=some v
 |[],_,_,_,_,h,_,_=>by simp at h
 | _::_,[],_,_,_,_,h,_=>by simp at h
 |p::P,w::vs,0,m,nd,h1,h2,hk=>by
  simp at h1 h2;subst h1;subst h2;show bindC kindOf ((p,w)::P.zip vs) m p=_;unfold bindC;rw[vN fun v hv=>(List.nodup_cons.mp nd).1 (List.of_mem_zip hv).1,Je hk];simp
 |p::P,w::vs,i+1,m,nd,h1,h2,hk=>by
  show bindC kindOf ((p,w)::P.zip vs) m x=_;unfold bindC;exact vP (i:=i) (List.nodup_cons.mp nd).2 (by simpa using h1) (by simpa using h2) hk
def start(N:List Str)(vs:List V):St:=vs.map some++List.replicate (N.length-vs.length) none
def Af(CX:Ei)(cm:Bool)(P:Program)(w:World)(K:PySem.W.Frag)(mg:Str→Option Value)(base:Heap)(N:List Str)(qual:Str)(scope:Scope)(f:Addr)(cd:Value)(A:Around)(outer:List Env)(s:Shared)(H:Hp)(E:XK):Cx where
 prog:=P
 w:=w
 K:=K
 mg:=mg
 base:=base
 A:=A.deeper (envOfC qual scope s.heap.objs.size f cd)
 N:=N
 dD:=s
 eR:=H
 env:=envOfC qual scope s.heap.objs.size f cd
 outer:=outer
 stack:=envOfC qual scope s.heap.objs.size f cd::outer
 ex:=[]
 calm:=cm
 fn:=fun _=>true
 pn:=[]
 xe:=fun e s'=>wpAny (model P w) (A.deeper (envOfC qual scope s.heap.objs.size f cd)) (leaving (envOfC qual scope s.heap.objs.size f cd) e) (fun _ wM=>CX outer H s E e wM) (fun e' wM=>CX outer H s E e' wM) s'
theorem yJ{sc:Scope}{n:Nat}{x:Str}(h:sc.names.lookup x=some .cell):∃c,(cellsFrom n sc.names []).lookup x=some c:=by
 have q:=PySem.W.cellsFrom_some sc.names n [] (.inl h);exact Option.isSome_iff_exists.mp q
theorem Cy{CX:Ei}{cm:Bool}{P:Program}{w:World}{K:PySem.W.Frag}{mg:Str→Option Value}{base:Heap}{N ps:List Str}{qual:Str}{scope:Scope}{f:Addr}{cd:Value}{A:Around}{outer:List Env}{s s1:Shared}{H:Hp}{E:XK}{us:List Value}{vs:List V}
  (S:aL N ps scope) (hd:cm=true→A.handled=none) (e0:Ad P w K mg base A outer s H) (hl:vs.length=ps.length) (r:Vals vs us)
  (x:InCallC s s.heap.objs.size (bindL (envOfC qual scope s.heap.objs.size f cd).kindOf (ps.zip us) fun _=>none) (cellsFrom (s.heap.objs.size+1) scope.names []) (bindC (envOfC qual scope s.heap.objs.size f cd).kindOf (ps.zip us) fun _=>none) s1):
  Inv (Af CX cm P w K mg base N qual scope f cd A outer s H E) [] (start N vs) H s1:=by
 have rG:ps.length≤N.length:=by have:=congrArg List.length S.pre;rw[List.length_take]at this;omega
 obtain⟨h1,tk,rfl,hk⟩:=x.done;have N8:∀b:Addr,b∉(Af CX cm P w K mg base N qual scope f cd A outer s H E).ex:=fun b z=>absurd (show b∈([]:List Addr)from z) (XC)
 refine⟨⟨e0.mod,S.kind,rfl,rfl,Nat.le_refl _,fun y z c h1 h2=>?_,fun y hy=>?_,fun y c _ h=>?_,fun z=>hd z,Around.frames_deeper e0.frames, .inr ⟨rfl,rfl⟩,fun b z=>Z1 z (N8 b),e0.bs,e0.Ki,fun b _ _=>N8 b,fun b z=>Z1 z (N8 b),e0.uT,e0.NJ⟩,
  rfl,e0.bare,Un.kept hk,⟨_,x.toInCall.ns,fun i y v h1 h2 h3=>?_⟩,fun y c h=>⟨_,x.cell y c h⟩,e0.bX.fresh ZT,fun y c h=>?_,fun p hp=>absurd (show p∈([]:List (Addr×Obj))from hp) (XC),e0.bX.kept hk,?_⟩
 ·exact name_of_addr x.apart (PySem.mem_of_lookup h1) (PySem.mem_of_lookup h2)
 ·have hy:scope.names.lookup y=some .cell∨scope.names.lookup y=some .free:=hy;rcases hy with hy|hy
  ·exact yJ hy
  ·exact absurd rfl (S.KN _ (PySem.mem_of_lookup hy))
 ·exact Nat.le_of_lt (x.above y c (PySem.mem_of_lookup h))
 ·have hi:i<vs.length:=by
   unfold start at h2;by_cases hi:i<vs.length
   ·exact hi
   ·rw[Α (by simpa using hi)]at h2;rw[List.getElem?_replicate]at h2;split at h2<;>cases h2
  have ha:vs[i]?=some v:=by
   unfold start at h2;rw[ZZ (by simpa using hi),List.getElem?_map]at h2;cases e:vs[i]? with
   |none=>rw[e]at h2;cases h2
   |some a=>rw[e]at h2;cases h2;rfl
  obtain⟨u,hu,rv⟩:=r.get ha;have hp:ps[i]?=some y:=by
   rw[←S.pre,List.getElem?_take_of_lt (ZV)];exact h1
  have Vi:ps.Nodup:=by rw[←S.pre];exact S.nd.sublist (List.take_sublist _ _)
  refine⟨u,rv,?_⟩;rcases S.par y (ZI hp)with k|k
  ·exact .inl ⟨k,vO Vi hp hu k⟩
  ·obtain⟨c,e⟩:=yJ (n:=s.heap.objs.size+1) k;refine .inr ⟨.inl k,c,e,?_⟩;have q:=x.cell y c e;rw[vP Vi hp hu (by show scope.names.lookup y≠_;rw[k];decide)]at q;exact q
 ·exact e0.bX.fresh (Nat.le_of_lt (x.above y c (PySem.mem_of_lookup h)))
 ·unfold start;show _=N.length;rw[List.length_append,List.length_map,List.length_replicate];omega
theorem Jh{CX:Ei}{cm:Bool}{P:Program}{w:World}{K:PySem.W.Frag}{mg:Str→Option Value}{base:Heap}{k:Nat}{f:Addr}{name qual:Str}{params:Arguments}{body:List Stmt}{scope:Scope}{dV kV doc pm bU ct oc:Value}{an od:Option Addr}
  {Bu:Array (Option Value)} {N ps:List Str} {sp:Sp} (lk:K.lookup f=some ⟨oc,od, .func (PySem.W.fnOf name qual params body scope dV kV doc pm an bU ct),Bu⟩) (Cq:PySem.W.codeIn K bU qual=true) (S:aL N ps scope)
  (len:∀vs H Q E,sp vs H Q E→vs.length=ps.length)
  (yK:∀(A:Around)(outer:List Env)(s:Shared)(H:Hp)(vs:List V)(Q:VK)(E:XK),eO cm k (A.deeper (envOfC qual scope s.heap.objs.size f bU))→sp vs H Q E→
   ∃t,Cp (Af CX cm P w K mg base N qual scope f bU A outer s H E) body t∧t {nx:=fun _ H'=>Q .cL H',rt:=Q} (start N vs) H):
  a7 P w K mg base CX cm (k+1) f (PySem.W.fnOf name qual params body scope dV kV doc pm an bU ct) ps sp:=by
 refine⟨len,fun A outer s H args us vs Q E hr e0 hb r Cz=>?_⟩;have hl:=len _ _ _ _ Cz;have KX:K.In s.heap:=e0.mod.MN.keeps fun b o e=>(e0.bs b o e).1
 have lim:s.heap.NoLimit:=e0.mod.nolimit.keeps fun b o e=>(e0.bs b o e).1
 have N9:∀y∈ps.zip us,scope.names.lookup y.1=some .local∨(scope.names.lookup y.1=some .cell∧((cellsFrom (s.heap.objs.size+1) scope.names []).lookup y.1).isSome=true):=fun⟨n,v⟩ hy=>by
  rcases S.par n (List.of_mem_zip hy).1 with q|q
  ·exact .inl q
  ·exact .inr ⟨q,PySem.W.cellsFrom_some _ _ _ (.inl q)⟩
 refine codeAny_call_function hr.depth (KX _ _ lk) rfl S.co S.gen rfl (PySem.W.codeRec_of KX Cq) (hb _ _ _ _ ?_);refine wpAny_newFunctionEnv_cells S.kind N9 fun env he s1 x=>?_
 subst he;refine⟨lim.keeps x.toInCall.keep,codeAny_func ?_⟩;obtain⟨t,ht,hq⟩:=yK A outer s H vs Q E (hr.deeper _) Cz;have I:Inv (Af CX cm P w K mg base N qual scope f bU A outer s H E) [] (start N vs) H s1:=Cy S hr.hd e0 hl r x;refine wpAny_mono (ht [] s1 (start N vs) H _ I hq) (fun fl s' hs=>?_) fun e s' hs=>hs
 have fin:∀{bB:St}{H':Hp}{v:V}{u:Value},Inv (Af CX cm P w K mg base N qual scope f bU A outer s H E) [] bB H' s'→RelV v u→Q v H'→CE outer P w H s Q u s':=
  fun{bB H' v u} J rv q=>⟨v,H',J.os,J.bare,J.base,J.bX,rv,q⟩
 cases fl with
 |ret u=>
  obtain⟨v,bB,H',J,rv,q⟩:=hs;exact fin J rv q
 |next=>
  obtain⟨bB,H',J,q⟩:=hs;exact fin (v:=V.cL) (u:=Value.none) J rfl q
 |brk=>
  obtain⟨_,_,_,q⟩:=hs;exact False.elim q
 |cont=>
  obtain⟨_,_,_,q⟩:=hs;exact False.elim q
section
variable{X:Cx}{x:Str}{p pos:Pos}{e:Expr}{es:List Expr}{t:TA}{id T:String}{r:List V→Hp→VK→Prop}
def Vj(r:List V→Hp→VK→Prop)(t:TA):TE:=fun σ H Q=>t σ H fun vs H1=>r vs H1 Q
theorem aO(hc:i4 X (.builtin id) r)(hg:Gl X x)(hm:X.mg x=none)(hv:bootBuiltins x=some (.builtin id))(ha:PA X (e::es) t)(hn:x≠"__name__":=by decide)(wL:(x==("__debug__":Str))=false:=by decide)
  (he:starEach (e::es) X.env=(false,eval e X.env)::starEach es X.env:=by rfl) (rG:(backTo pos (starEach es X.env)).any (·.1)=false:=by rfl):PE X (.Call (.Name x p) (e::es) [] pos) (Vj r t):=by
 intro pins s σ H Q I h;refine wpAny_Call_Name_kw (lF I hg hm hv ?_ hn wL);exact PyProof.Rows.callWith_builtin1 (cJ (ha pos pins s σ H _ I h) fun us s1 ⟨vs,H1,I1,r1,q1⟩=>hc pins s1 σ H1 vs us Q I1 r1 q1) he rG
theorem gP(hc:i4 X (.type T) r)(hg:Gl X x)(hm:X.mg x=none)(hv:bootBuiltins x=some (.type T))(ha:PA X (e::es) t)(hn:x≠"__name__":=by decide)(wL:(x==("__debug__":Str))=false:=by decide)
  (he:starEach (e::es) X.env=(false,eval e X.env)::starEach es X.env:=by rfl) (rG:(backTo pos (starEach es X.env)).any (·.1)=false:=by rfl):PE X (.Call (.Name x p) (e::es) [] pos) (Vj r t):=by
 intro pins s σ H Q I h;refine wpAny_Call_Name_kw (lF I hg hm hv ?_ hn wL);exact PyProof.Rows.callWith_type1 (cJ (ha pos pins s σ H _ I h) fun us s1 ⟨vs,H1,I1,r1,q1⟩=>hc pins s1 σ H1 vs us Q I1 r1 q1) he rG
end
section
variable{κ:Type}[DecidableEq κ]
def bA(kvs:List (κ×V))(k:κ):Option V:=(kvs.find? fun kv=>decide (kv.1=k)).map (·.2)
def putK(kvs:List (κ×V))(k:κ)(v:V):List (κ×V):=
 if (kvs.any fun kv=>decide (kv.1=k))=true then kvs.map (fun kv=>if kv.1=k then(kv.1,v)else kv)else kvs++[(k,v)]
def i5(kvs:List (κ×V))(k:κ):List (κ×V):=kvs.filter fun kv=>decide (kv.1≠k)
theorem sZ{k:κ}:bA ([]:List (κ×V)) k=none:=rfl
theorem cH{p:κ×V}{r:List (κ×V)}{k:κ}(e:p.1=k):bA (p::r) k=some p.2:=by simp[bA,List.find?_cons,e]
theorem cA{p:κ×V}{r:List (κ×V)}{k:κ}(e:¬p.1=k):bA (p::r) k=bA r k:=by simp[bA,List.find?_cons,e]
theorem ie(k:κ):∀kvs:List (κ×V),(kvs.any fun kv=>decide (kv.1=k))=(bA kvs k).isSome
 |[]=>rfl
 |p::r=>by
  rw[List.any_cons];by_cases e:p.1=k
  ·simp only[cH e,decide_eq_true e,Bool.true_or,Option.isSome_some]
  ·rw[cA e,decide_eq_false e,Bool.false_or];exact ie k r
theorem yL(k j:κ)(y:V):∀kvs:List (κ×V),bA (kvs.map fun kv=>if kv.1=k then(kv.1,y)else kv) j=(bA kvs j).map fun x=>if j=k then y else x
 |[]=>rfl
 |p::r=>by
  have ih:=yL k j y r;rw[List.map_cons];by_cases h:p.1=k
  ·rw[MJ h];by_cases e:p.1=j
   ·rw[cH (p:=(p.1,y)) e,cH e,Option.map_some,MJ (e.symm.trans h)]
   ·rw[cA (p:=(p.1,y)) e,cA e,ih]
  ·rw[Je h];by_cases e:p.1=j
   ·rw[cH (p:=p) e,cH e,Option.map_some,Je (fun z=>h (e.trans z))]
   ·rw[cA (p:=p) e,cA e,ih]
theorem vQ(k j:κ)(y:V):∀kvs:List (κ×V),bA kvs k=none→bA (kvs++[(k,y)]) j=if j=k then some y else bA kvs j
 |[],_=>by
  by_cases e:k=j
  ·rw[MJ e.symm];exact cH (p:=(k,y)) e
  ·rw[Je (fun z=>e z.symm)];exact cA (p:=(k,y)) e
 |p::r,hn=>by
  rw[List.cons_append];have hk:¬p.1=k:=fun z=>by rw[cH z]at hn;cases hn
  rw[cA hk]at hn;have ih:=vQ k j y r hn;by_cases e:p.1=j
  ·rw[cH e,cH e,Je (fun z=>hk (e.trans z))]
  ·rw[cA e,cA e,ih]
theorem i6(kvs:List (κ×V))(k j:κ)(y:V):bA (putK kvs k y) j=if j=k then some y else bA kvs j:=by
 unfold putK;by_cases a:(kvs.any fun kv=>decide (kv.1=k))=true
 ·rw[MJ a,yL];rw[ie]at a;by_cases e:j=k
  ·obtain⟨x,hx⟩:=Option.isSome_iff_exists.mp a;rw[MJ e,e,hx,Option.map_some,if_pos rfl]
  ·rw[Je e];cases bA kvs j with
   |none=>rfl
   |some x=>rw[Option.map_some,Je e]
 ·rw[Je a];refine vQ k j y kvs ?_;rw[ie]at a;cases q:bA kvs k with
  |none=>rfl
  |some x=>rw[q]at a;exact(a rfl).elim
theorem eU(kvs:List (κ×V))(k:κ)(v:V):(putK kvs k v).length≤kvs.length+1:=by
 unfold putK;split
 ·rw[List.length_map];omega
 ·rw[List.length_append,List.length_cons,List.length_nil];omega
theorem s_{kvs:List (κ×V)}{k:κ}(v:V)(h:bA kvs k=none):putK kvs k v=kvs++[(k,v)]:=by
 unfold putK;rw[ie,h];exact if_neg (WV)
theorem kx.j5{o:Option V}{u:Option Value}(r:kx o u):o.isSome=u.isSome:=by
 cases o with
 |none=>cases u with
  |none=>rfl
  |some _=>exact(show False from r).elim
 |some _=>cases u with
  |none=>exact(show False from r).elim
  |some _=>rfl
theorem kx.getD{o:Option V}{u:Option Value}{d:V}{d':Value}(r:kx o u)(rd:RelV d d'):RelV (o.getD d) (u.getD d'):=by
 cases o with
 |none=>cases u with
  |none=>exact rd
  |some _=>exact(show False from r).elim
 |some _=>cases u with
  |none=>exact(show False from r).elim
  |some _=>exact r
theorem KV.val{kvs:List (κ×V)}{vs:List (κ×Value)}(r:KV kvs vs)(k:κ):kx (bA kvs k) (valueAt vs k):=by
 unfold KV at r
 induction r with
 |nil=>exact True.intro
 |@cons p q ps qs h t ih=>
  obtain⟨h1,h2⟩:=h;by_cases e:p.1=k
  ·have e':q.1=k:=h1.symm.trans e;have b:valueAt (q::qs) k=some q.2:=by simp[valueAt,List.find?_cons,e']
   rw[cH e,b];exact h2
  ·have e':¬q.1=k:=fun z=>e (h1.trans z)
   have b:valueAt (q::qs) k=valueAt qs k:=by simp[valueAt,List.find?_cons,e']
   rw[cA e,b];exact ih
theorem KV.any{kvs:List (κ×V)}{vs:List (κ×Value)}(r:KV kvs vs)(k:κ):(kvs.any fun kv=>decide (kv.1=k))=vs.any fun kv=>decide (kv.1=k):=by
 unfold KV at r
 induction r with
 |nil=>rfl
 |cons h t ih=>rw[List.any_cons,List.any_cons,ih,h.1]
theorem KV.KO{kvs:List (κ×V)}{vs:List (κ×Value)}(r:KV kvs vs)(k:κ){y:V}{u:Value}(ry:RelV y u):
  KV (kvs.map fun kv=>if kv.1=k then(kv.1,y)else kv) (vs.map fun kv=>if kv.1=k then(kv.1,u)else kv):=by
 unfold KV at r⊢
 induction r with
 |nil=>exact .nil
 |@cons p q ps qs h t ih=>
  rw[List.map_cons,List.map_cons];refine .cons ?_ ih;obtain⟨h1,h2⟩:=h;by_cases e:p.1=k
  ·rw[MJ e,MJ (h1.symm.trans e)];exact⟨h1,ry⟩
  ·rw[Je e,Je (fun z=>e (h1.trans z))];exact⟨h1,h2⟩
theorem KV.put{kvs:List (κ×V)}{vs:List (κ×Value)}(r:KV kvs vs)(k:κ){y:V}{u:Value}(ry:RelV y u):KV (putK kvs k y) (stored vs k u):=by
 unfold putK stored;rw[r.any k];by_cases e:(vs.any fun kv=>decide (kv.1=k))=true
 ·rw[MJ e,MJ e];exact r.KO k ry
 ·rw[Je e,Je e];exact Paired.snoc r ⟨rfl,ry⟩
theorem KV.length{kvs:List (κ×V)}{vs:List (κ×Value)}(r:KV kvs vs):kvs.length=vs.length:=Paired.length r
theorem yM(kvs:List (κ×V))(k:κ):(i5 kvs k).length≤kvs.length:=List.length_filter_le _ _
end
theorem vR{P:Program}{w:World}{k:Key}{u:Value}(r:RelV (kV k) u):(cW P w).is k u=true:=by
 cases k with
 |inl i=>obtain⟨t,e⟩:=(show ∃t,u=Value.int i t from r);subst e;exact yB P w i t
 |inr x=>obtain⟨t,e⟩:=(show ∃t,u=Value.str x t from r);subst e;exact yC P w x t
theorem vS{P:Program}{w:World}:∀{ks:List Key}{us:List Value},Vals (ks.map kV) us→ItemsAre (cW P w) ks us
 |[],_,r=>by rw[List.map_nil]at r;cases r;exact .nil
 |k::ks,_,r=>by
  rw[List.map_cons]at r;cases r with
  |cons h t=>exact .cons (vR h) (vS t)
abbrev KT(H:Hp):List (List Key×V)→List (List Key×Addr×Value)→Prop:=Paired fun p q=>p.1=q.1∧H q.2.1=some (.tup (p.1.map kV))∧RelV p.2 q.2.2
theorem KT.val{H:Hp}{kvs:List (List Key×V)}{xs:List (List Key×Addr×Value)}(r:KT H kvs xs)(k:List Key):kx (bA kvs k) ((atKey xs k).map (·.2)):=by
 induction r with
 |nil=>exact True.intro
 |@cons p q ps qs h t ih=>
  obtain⟨h1,_,h2⟩:=h;by_cases e:p.1=k
  ·have e':q.1=k:=h1.symm.trans e;have b:atKey (q::qs) k=some q.2:=by simp[atKey,List.find?_cons,e']
   rw[cH e,b];exact h2
  ·have e':¬q.1=k:=fun z=>e (h1.trans z)
   have b:atKey (q::qs) k=atKey qs k:=by simp[atKey,List.find?_cons,e']
   rw[cA e,b];exact ih
theorem KT.KO{H:Hp}{kvs:List (List Key×V)}{xs:List (List Key×Addr×Value)}(r:KT H kvs xs)(k:List Key){y:V}{u:Value}(ry:RelV y u):
  KT H (kvs.map fun kv=>if kv.1=k then(kv.1,y)else kv) (xs.map (putAt k u)):=by
 induction r with
 |nil=>exact .nil
 |@cons p q ps qs h t ih=>
  rw[List.map_cons,List.map_cons];refine .cons ?_ ih;obtain⟨h1,h2,h3⟩:=h;unfold putAt;by_cases e:p.1=k
  ·rw[MJ e,MJ (h1.symm.trans e)];exact⟨h1,h2,ry⟩
  ·rw[Je e,Je (fun z=>e (h1.trans z))];exact⟨h1,h2,h3⟩
theorem KT.put{H:Hp}{kvs:List (List Key×V)}{xs:List (List Key×Addr×Value)}(r:KT H kvs xs)(k:List Key){b:Addr}{y:V}{u:Value}(hb:H b=some (.tup (k.map kV)))(ry:RelV y u):
  KT H (putK kvs k y) (storedH xs k b u):=by
 have e:(kvs.any fun kv=>decide (kv.1=k))=(atKey xs k).isSome:=by
  rw[ie,(r.val k).j5,Option.isSome_map]
 unfold putK storedH;rw[e];by_cases q:(atKey xs k).isSome=true
 ·rw[MJ q,MJ q];exact r.KO k ry
 ·rw[Je q,Je q];exact Paired.snoc r ⟨rfl,hb,ry⟩
theorem KT.keeps{H H':Hp}{kvs:List (List Key×V)}{xs:List (List Key×Addr×Value)}(r:KT H kvs xs)(ht:∀b ys,H b=some (.tup ys)→H' b=some (.tup ys)):KT H' kvs xs:=
 Paired.Kg r fun _ _ z=>⟨z.1,ht _ _ z.2.1,z.2.2⟩
section
variable{P:Program}{w:World}{H:Hp}{h:Heap}{a:Addr}
theorem Ji{u:HO}(ok:lE P w H h)(e:Rd H a u):cR P w H h a u:=e.ok ok
theorem tf{kvs:List (Key×V)}(ok:lE P w H h)(e:Rd H a (.dK kvs)):kvs.length≤sizeLine∧(a==sysModules)=false∧∃vs,KV kvs vs∧h.DictOf (cW P w) a vs:=
 show cR P w H h a (.dK kvs)from Ji ok e
theorem N_{kvs:List (Key×V)}(ok:lE P w H h)(e:H a=some (.dK kvs)):kvs.length≤sizeLine∧(a==sysModules)=false∧∃vs,KV kvs vs∧h.DictOf (cW P w) a vs:=tf ok (.inl e)
theorem nC{ks:List Key}(ok:lE P w H h)(e:H a=some (.tup (ks.map kV))):(tupleKind (cW P w)).is h ks a:=by
 obtain⟨_,its,r,o,h1,h2,n,h3⟩:=(show cR P w H h a (.tup (ks.map kV))from ok a _ e)
 exact⟨o,its.toArray,n,h1,h2,h3,by simpa using vS r⟩
theorem tm{kvs:List (List Key×V)}(ok:lE P w H h)(e:Rd H a (.dT kvs)):kvs.length≤sizeLine∧(a==sysModules)=false∧
  ∃xs,KT H kvs xs∧h.DictOfH (tupleKind (cW P w)) a xs:=by
 obtain⟨z,y,xs,r,o,es,ep,h1,h2,h3,h4,h5⟩:=(show cR P w H h a (.dT kvs)from Ji ok e)
 refine⟨z,y,xs,r,o,es,ep,h1,h2,h3,h4,fun x hx=>?_,h5⟩;have all:∀{l:List (List Key×V)}{m:List (List Key×Addr×Value)},KT H l m→∀x∈m,(tupleKind (cW P w)).is h x.1 x.2.1:=by
  intro l m q
  induction q with
  |nil=>intro x hx;exact nomatch hx
  |@cons p q ps qs hq t ih=>
   intro x hx;rcases List.mem_cons.mp hx with e|hx
   ·subst e;exact nC ok (by rw[←hq.1];exact hq.2.1)
   ·exact ih x hx
 exact all r x hx
theorem Jj{kvs:List (List Key×V)}(ok:lE P w H h)(e:H a=some (.dT kvs)):kvs.length≤sizeLine∧(a==sysModules)=false∧
  ∃xs,KT H kvs xs∧h.DictOfH (tupleKind (cW P w)) a xs:=tm ok (.inl e)
end
def j6(H:Hp)(a:Addr)(y:V)(r:Option V):Prop:=
 (∃kvs k,Rd H a (.dK kvs)∧y=kV k∧r=bA kvs k)∨∃kvs k b,Rd H a (.dT kvs)∧y= .ref b∧H b=some (.tup (k.map kV))∧r=bA kvs k
def He(H:Hp)(a:Addr)(y v:V)(H':Hp):Prop:=
 (∃kvs k,H a=some (.dK kvs)∧y=kV k∧kvs.length<sizeLine∧H'=upd H a (.dK (putK kvs k v)))∨
 ∃kvs k b,H a=some (.dT kvs)∧y= .ref b∧H b=some (.tup (k.map kV))∧kvs.length<sizeLine∧H'=upd H a (.dT (putK kvs k v))
theorem j6.t{H:Hp}{a b:Addr}{kvs:List (List Key×V)}{k:List Key}(e:H a=some (.dT kvs))(eb:H b=some (.tup (k.map kV))):j6 H a (.ref b) (bA kvs k):= .inr ⟨kvs,k,b, .inl e,rfl,eb,rfl⟩
theorem He.t{H:Hp}{a b:Addr}{kvs:List (List Key×V)}{k:List Key}{v:V}(e:H a=some (.dT kvs))(eb:H b=some (.tup (k.map kV)))(hl:kvs.length<sizeLine):
  He H a (.ref b) v (upd H a (.dT (putK kvs k v))):= .inr ⟨kvs,k,b,e,rfl,eb,hl,rfl⟩
section
variable{X:Cx}{pins:List (Addr×Obj)}{σ:St}{H:Hp}{s:Shared}{a:Addr}{y v:V}{u r:Value}{o:Option V}{A:Around}{E:Value→Shared→Prop}
theorem Inv.big(I:Inv X pins σ H s):sysModules<s.heap.objs.size:=by
 have h:mainGlobals<s.heap.objs.size:=(I.mod.glob.keeps I.bk).lt;exact Nat.lt_trans (WV) h
theorem CA{Q:Value→Shared→Prop}(hu:A.units+1<cLine)(I:Inv X pins σ H s)(g:j6 H a y (some v))(ry:RelV y u)(h:∀w' s',Inv X pins σ H s'→RelV v w'→Q w' s'):
  wpAny (model X.prog X.w) A (getItem (.ref a) u) Q E s:=by
 rcases g with⟨kvs,k,e,ey,l⟩|⟨kvs,k,b,e,ey,eb,l⟩
 ·subst ey;obtain⟨z,hd,vs,rel,dd⟩:=tf I.bX e;obtain⟨w',hw,iD⟩:=kx.some_of (v:=v) (o:=valueAt vs k) (by rw[l];exact rel.val k);exact wpAny_getItem_of (vR ry) dd.mapOf hw (h w' _ (I.tok _) iD)
 ·subst ey;cases(show u=Value.ref b from ry);obtain⟨z,hd,xs,rel,dd⟩:=tm I.bX e;obtain⟨w',hw,iD⟩:=kx.some_of (v:=v) (o:=(atKey xs k).map (·.2)) (by rw[l];exact rel.val k);obtain⟨p,hp,wN⟩:=Option.map_eq_some_iff.mp hw;refine wpAny_getItem_heap (tupleKind_room_in1 hu) (nC I.bX eb) dd hp ?_;rw[wN];exact h w' _ (I.tok _) iD
theorem Sh{Q:Value→Shared→Prop}(hu:A.units+1<cLine)(I:Inv X pins σ H s)(g:j6 H a y o)(ry:RelV y u)(h:∀s',Inv X pins σ H s'→Q (.bool o.isSome) s'):
  wpAny (model X.prog X.w) A (compareOp .In u (.ref a)) Q E s:=by
 rcases g with⟨kvs,k,e,ey,l⟩|⟨kvs,k,b,e,ey,eb,l⟩
 ·subst ey;obtain⟨z,hd,vs,rel,dd⟩:=tf I.bX e;refine wpAny_in_of (vR ry) hd dd.mapOf ?_;rw[←(rel.val k).j5,←l];exact h _ (I.tok _)
 ·subst ey;cases(show u=Value.ref b from ry);obtain⟨z,hd,xs,rel,dd⟩:=tm I.bX e;refine wpAny_in_heap (tupleKind_room_in1 hu) (nC I.bX eb) hd dd ?_;have q:=(rel.val k).j5;rw[Option.isSome_map]at q;rw[←q,←l];exact h _ (I.tok _)
theorem Hf{Q:Value→Shared→Prop}(hu:A.units+1<cLine)(I:Inv X pins σ H s)(g:j6 H a y o)(ry:RelV y u)(h:∀s',Inv X pins σ H s'→Q (.bool (!o.isSome)) s'):
  wpAny (model X.prog X.w) A (compareOp .NotIn u (.ref a)) Q E s:=by
 rcases g with⟨kvs,k,e,ey,l⟩|⟨kvs,k,b,e,ey,eb,l⟩
 ·subst ey;obtain⟨z,hd,vs,rel,dd⟩:=tf I.bX e;refine wpAny_notIn_of (vR ry) hd dd.mapOf ?_;rw[←(rel.val k).j5,←l];exact h _ (I.tok _)
 ·subst ey;cases(show u=Value.ref b from ry);obtain⟨z,hd,xs,rel,dd⟩:=tm I.bX e;refine wpAny_notIn_heap (tupleKind_room_in1 hu) (nC I.bX eb) hd dd ?_;have q:=(rel.val k).j5;rw[Option.isSome_map]at q;rw[←q,←l];exact h _ (I.tok _)
theorem wO{h':Heap}{t':Nat}{ob:HO}(I:Inv X pins σ H s)(mu:NG (H a))(hs:Heap.SameBut a s.heap h')(he:∃q,h'.get? a=some q)(new:cR X.prog X.w (upd H a ob) h' a ob):
  Inv X pins σ (upd H a ob) {s with heap:=h',toks:=t'}:=
 I.write (x:=a) (e:=a) mu (.inl rfl) (fun b q hb z=>(hs.2 b hb).trans z) he new
theorem KP{P:Program}{w:World}{H':Hp}{h':Heap}{kvs:List (Key×V)}{vs:List (Key×Value)}(z:kvs.length≤sizeLine)(hd:(a==sysModules)=false)(rel:KV kvs vs)(dd:h'.DictOf (cW P w) a vs):
  cR P w H' h' a (.dK kvs):=⟨z,hd,vs,rel,dd⟩
theorem CB{H':Hp}{Q:Unit→Shared→Prop}(hu:A.units+1<cLine)(I:Inv X pins σ H s)(g:He H a y v H')(ry:RelV y u)(rv:RelV v r)(h:∀s',Inv X pins σ H' s'→Q () s'):
  wpAny (model X.prog X.w) A (setItem (.ref a) u r) Q E s:=by
 rcases g with⟨kvs,k,e,ey,l,eH⟩|⟨kvs,k,b,e,ey,eb,l,eH⟩
 ·subst ey eH;obtain⟨z,hd,vs,rel,dd⟩:=N_ I.bX e;have hz:vs.length≤sizeLine:=by rw[←rel.length];exact z
  have hl:(putK kvs k v).length≤sizeLine:=by have:=eU kvs k v;omega
  refine wpAny_setItem_pairs (hsz:=hz) (vR ry) dd fun h' Jk hs=>h _ ?_
  have he:∃q,h'.get? a=some q:=let ⟨q,_,_,hq,_⟩:=Jk;⟨q,hq⟩
  exact wO I (by rw[e];exact True.intro) hs he (KP hl hd (rel.put k rv) Jk)
 ·subst ey eH;cases(show u=Value.ref b from ry);obtain⟨z,hd,xs,rel,dd⟩:=Jj I.bX e;have hz:xs.length≤sizeLine:=by rw[←Paired.length rel];exact z
  have hl:(putK kvs k v).length≤sizeLine:=by have:=eU kvs k v;omega
  refine wpAny_setItem_heap (hsz:=hz) (tupleKind_room_in1 hu) (nC I.bX eb) dd fun h' Jk hs=>h _ ?_
  obtain⟨q,es,ep,hq,h2,h3,h4,_,h5⟩:=Jk;refine wO I (by rw[e];exact True.intro) hs ⟨q,hq⟩ ⟨hl,hd,_,(rel.put k eb rv).keeps fun c ys ec=>?_,q,es,ep,hq,h2,h3,h4,h5⟩;rw[ao (iZ ec e (fun z=>nomatch z))];exact ec
end
section
variable{X:Cx}{pins:List (Addr×Obj)}{σ:St}{H:Hp}{s:Shared}{a:Addr}{kvs:List (Key×V)}{k:Key}{u:Value}{A:Around}{E:Value→Shared→Prop}
end
def Oa(i:Expr):Prop:=∀ov iv,subscripted i false ov iv=operate [ov,iv] (getItem ov iv)
theorem Hg{prog:Program}{w:World}{A:Around}{E:Value→Shared→Prop}{s:Shared}{env:Env}{value slice:Expr}{pos:Pos}{T id:String}{Q:Value→Shared→Prop}
  (hl:typeLookup (.type T) "__getitem__"=pure (some (.builtin id))) (hs:Oa slice)
  (h:wpAny (model prog w) A (eval value env) (fun o cn=>wpAny (model prog w) A (eval slice env) (fun i qj=>qj.TypeIs o T∧wpAny (model prog w) A (getItem o i) Q E qj) E cn) E s):
  wpAny (model prog w) A (eval (.Subscript value slice pos) env) Q E s:=by
 refine Subscript_ (wpAny_mono h (fun o cn CC=>wpAny_mono CC (fun i qj El=>?_) fun _ _ x=>x) fun _ _ x=>x);obtain⟨hT,El⟩:=El;unfold subscriptTail;refine wpAny_bind ?_;rw[getitemInPython_of_ne hT.not_modules];refine wpAny_bind (wpAny_specialOf hT hl ?_);have fin:wpAny (model prog w) A (subscripted slice false o i) (fun r CD=>wpAny (model prog w) A (letTemporaryGo value o r>>=fun _=>pure r) Q E CD) E qj:=by
  rw[hs o i];exact wpAny_operating (wpAny_mono El (fun r CD Hh=>ZN (wpAny_letTemporaryGo (ZF Hh))) fun _ _ x=>x)
 first
  |exact ZF (ZN fin)
  |exact ZN (ZF (ZN fin))
  |exact ZN fin
theorem yN{X:Cx}{pins:List (Addr×Obj)}{σ:St}{H:Hp}{s:Shared}{a:Addr}{y:V}{o:Option V}(I:Inv X pins σ H s)(g:j6 H a y o):s.TypeIs (.ref a) "dict":=by
 rcases g with⟨kvs,k,e,_,_⟩|⟨kvs,k,b,e,_,_,_⟩
 ·obtain⟨_,_,vs,_,dd⟩:=tf I.bX e;exact dd.typeIs
 ·obtain⟨_,_,xs,_,dd⟩:=tm I.bX e;exact dd.typeIs
def Ob(td ty:TE):TE:=fun σ H Q=>td σ H fun x H1=>ty σ H1 fun y H2=>∃a v,x= .ref a∧j6 H2 a y (some v)∧Q v H2
def Si(ty td:TE):TE:=fun σ H Q=>ty σ H fun y H1=>td σ H1 fun x H2=>∃a o,x= .ref a∧j6 H2 a y o∧Q (.bl o.isSome) H2
def Hi(ty td:TE):TE:=fun σ H Q=>ty σ H fun y H1=>td σ H1 fun x H2=>∃a o,x= .ref a∧j6 H2 a y o∧Q (.bl (!o.isSome)) H2
def Oc(td ty tv:TE):TS:=fun D σ H=>tv σ H fun v H1=>td σ H1 fun x H2=>ty σ H2 fun y H3=>∃a H4,x= .ref a∧He H3 a y v H4∧D.nx σ H4
section
variable{X:Cx}{o i e value:Expr}{pos pos' R_:Pos}{td ty tv:TE}
theorem iG(hu:X.A.units+1<cLine)(ho:PE X o td)(hi:PE X i ty)(hs:Oa i):PE X (.Subscript o i pos) (Ob td ty):=by
 intro pins s σ H Q I h;refine Hg PySem.F.slot_dict_getitem.lookup hs (cJ (ho pins s σ H _ I h) fun u s1 ⟨x,H1,I1,rx,q1⟩=>cJ (hi pins s1 σ H1 _ I1 q1) fun iv s2 ⟨y,H2,I2,ry,a,v,ex,g,q2⟩=>?_);subst ex;obtain rfl:u=Value.ref a:=rx;exact⟨yN I2 g,CA hu I2 g ry fun w' s3 I3 iD=>⟨v,H2,I3,iD,q2⟩⟩
theorem qr(hu:X.A.units+1<cLine)(hi:PE X i ty)(ho:PE X o td):PC X .In i o (Si ty td):=by
 intro pins s σ H Q I h;refine cJ (hi pins s σ H _ I h) fun iv s1 ⟨y,H1,I1,ry,q1⟩=>cJ (ho pins s1 σ H1 _ I1 q1) fun u s2 ⟨x,H2,I2,rx,a,ov,ex,g,q2⟩=>?_
 subst ex;obtain rfl:u=Value.ref a:=rx;exact Sh hu I2 g ry fun s3 I3=>⟨.bl ov.isSome,H2,I3,rfl,q2⟩
theorem vT(hu:X.A.units+1<cLine)(hi:PE X i ty)(ho:PE X o td):PC X .NotIn i o (Hi ty td):=by
 intro pins s σ H Q I h;refine cJ (hi pins s σ H _ I h) fun iv s1 ⟨y,H1,I1,ry,q1⟩=>cJ (ho pins s1 σ H1 _ I1 q1) fun u s2 ⟨x,H2,I2,rx,a,ov,ex,g,q2⟩=>?_
 subst ex;obtain rfl:u=Value.ref a:=rx;exact Hf hu I2 g ry fun s3 I3=>⟨.bl (!ov.isSome),H2,I3,rfl,q2⟩
theorem ky(hu:X.A.units+1<cLine)(ho:PE X o td)(hi:PE X i ty)(hv:PE X value tv)(hs:swapsWith value (some (.Subscript o i pos')) pos.line X.env=pure false):
  PS X (.Assign [.Subscript o i pos'] value pos) (Oc td ty tv):=by
 intro pins s σ H D I h;refine wpAny_Assign_Subscript (cJ (hv pins s σ H _ I h) fun r s1 ⟨v,H1,I1,rv,q1⟩=>cJ (ho pins s1 σ H1 _ I1 q1) fun u s2 ⟨x,H2,I2,rx,q2⟩=>cJ (hi pins s2 σ H2 _ I2 q2) fun iv s3 ⟨y,H3,I3,ry,a,H4,ex,g,q3⟩=>?_) hs;subst ex;obtain rfl:u=Value.ref a:=rx;exact CB hu I3 g ry rv fun s4 I4=>⟨σ,H4,I4,q3⟩
end
theorem Em{P:Program}{w:World}{H:Hp}(h:Heap)(hb:sysModules<h.objs.size):cR P w H (h.push {cls:= .type "dict",data:= .dict #[]}) h.objs.size (.dT []):=
 ⟨Nat.zero_le _,beq_eq_false_iff_ne.mpr (Ne.symm (Nat.ne_of_lt hb)),[], .nil,_,#[],0,Heap.get?_push_size _ rfl,⟨rfl,rfl,rfl⟩,rfl,rfl,List.nodup_nil⟩
def KR:TE:=fun _ H Q=>∀p,H p=none→Q (.ref p) (upd H p (.dT []))
section
variable{X:Cx}{pos:Pos}
theorem j7:PE X (.Dict [] [] pos) KR:=fun pins s σ H Q I h=>
 wpAny_Dict_empty ⟨.ref s.heap.objs.size,_,I.laid (a:=s.heap.objs.size) (o:= .dT []) (t':=s.toks) (fun _ _ q=>ZU q) (Nat.le_refl _) (Em s.heap I.big),rfl,h _ (I.bX.fresh ZT)⟩
end
structure M1(X:Cx)(o:Expr)(m:Str)(apos:Pos)(e:Expr)(eD:Pos):Prop where
 base:attributeBase o m X.env (eval o X.env)=eval o X.env
 uO:((backTo eD (starEach [e] X.env)).all (fun x=>!x.1)&&(backToKw eD (keywordEach [] X.env)).all (fun x=>x.1.isSome)
  &&decide (([e]:List Expr).length+([]:List Keyword).length+(if ([]:List Keyword).isEmpty then 0 else 1)<30))=true
 line:(apos.endLine==eD.line)=true
 trees:backTo eD (starEach [e] X.env)=[(false,eval e X.env)]
def Sj(H:Hp)(a:Addr):Prop:=(∃kvs,Rd H a (.dK kvs))∨∃kvs,Rd H a (.dT kvs)
theorem En{X:Cx}{pins:List (Addr×Obj)}{σ:St}{H:Hp}{s:Shared}{a:Addr}(I:Inv X pins σ H s)(d:Sj H a):
  s.TypeIs (.ref a) "dict"∧(∀b,Value.ref a= .ref b→∃ob,s.heap.get? b=some ob∧ob.dict=none)∧(a==sysModules)=false:=by
 rcases d with⟨kvs,e⟩|⟨kvs,e⟩
 ·obtain⟨_,hd,vs,_,dd⟩:=tf I.bX e;refine⟨dd.typeIs,fun b q=>?_,hd⟩;cases q;obtain⟨ob,_,_,h1,h2,_⟩:=dd;exact⟨ob,h1,h2.2.1⟩
 ·obtain⟨_,hd,xs,_,dd⟩:=tm I.bX e;refine⟨dd.typeIs,fun b q=>?_,hd⟩;cases q;obtain⟨ob,_,_,h1,h2,_⟩:=dd;exact⟨ob,h1,h2.2.1⟩
section
variable{X:Cx}{pins:List (Addr×Obj)}{σ:St}{H:Hp}{s:Shared}{a:Addr}{y d:V}{u r:Value}{o:Option V}{A:Around}{E:Value→Shared→Prop}
theorem KS{Q:Value→Shared→Prop}(hu:A.units+1<cLine)(I:Inv X pins σ H s)(g:j6 H a y o)(ry:RelV y u)(h:∀w' s',Inv X pins σ H s'→RelV (o.getD .cL) w'→Q w' s'):
  wpAny (model X.prog X.w) A (call (.builtin "dict.get") [.ref a,u]) Q E s:=by
 rcases g with⟨kvs,k,e,ey,l⟩|⟨kvs,k,b,e,ey,eb,l⟩
 ·subst ey;obtain⟨z,hd,vs,rel,dd⟩:=tf I.bX e;refine call_meetsIn PySem.F.slot_dict_get dd.typeIs PySem.F.entry_dict_get (PySem.F.args_dict_get_2 _ _) (meets_dict_get (cW X.prog X.w) a (vR ry) hd) ⟨_,dd.mapOf,h _ _ (I.tok _) ?_⟩;rw[l];exact(rel.val k).getD rfl
 ·subst ey;cases(show u=Value.ref b from ry);obtain⟨z,hd,xs,rel,dd⟩:=tm I.bX e;refine call_meetsIn PySem.F.slot_dict_get dd.typeIs PySem.F.entry_dict_get (PySem.F.args_dict_get_2 _ _) (meetsH_dict_get (tupleKind (cW X.prog X.w)) a b hd) ⟨tupleKind_room_in1 hu,k,xs,nC I.bX eb,dd,h _ _ (I.tok _) ?_⟩;rw[l];exact(rel.val k).getD rfl
end
def KU(td ty:TE):TE:=fun σ H Q=>td σ H fun x H1=>∃a,x= .ref a∧Sj H1 a∧ty σ H1 fun y H2=>∃o,j6 H2 a y o∧Q (o.getD .cL) H2
section
variable{X:Cx}{o e f:Expr}{apos eD:Pos}{td ty tx:TE}
theorem Eo(hu:X.A.units+1<cLine)(ho:PE X o td)(he:PE X e ty)(m:M1 X o "get" apos e eD):PE X (.Call (.Attribute o "get" apos) [e] [] eD) (KU td ty):=by
 intro pins s σ H Q I h;refine wpAny_Call_method m.base m.uO m.line PySem.F.plainAttrs_dict PySem.F.slot_dict_get PySem.F.type_dict_get (cJ (ho pins s σ H _ I h) fun u s1 ⟨x,H1,I1,rx,a,ex,d,q1⟩=>?_);subst ex;obtain rfl:u=Value.ref a:=rx;obtain⟨t1,t2,_⟩:=En I1 d;refine⟨t1,t2,?_⟩;rw[m.trees];refine Calls.callWith_builtin rfl (Calls.evalArgs_plain (Calls.spliced_cons (cJ (he pins s1 σ H1 _ I1 q1) fun iv s2 ⟨y,H2,I2,ry,ov,g,q2⟩=>Calls.spliced_nil ?_)));exact KS hu I2 g ry fun w' s3 I3 iD=>⟨_,H2,I3,iD,q2⟩
end
section
variable{X:Cx}{pins:List (Addr×Obj)}{σ:St}{H:Hp}{s:Shared}{a:Addr}{kvs:List (Key×V)}{A:Around}{E:Value→Shared→Prop}
end
section
variable{X:Cx}{pins:List (Addr×Obj)}{σ:St}{H:Hp}{s:Shared}{a:Addr}{y:V}{u:Value}{A:Around}{E:Value→Shared→Prop}
end
end L2
namespace HT
open PySem PyProof.Rows
section
open PySem.SeqAt
open PySem.AutoSeq1 (wpAny_loadPart')
open PySem.MeetsSeq PySem.MeetsSeq2 PySem.MeetsSeq3
end
section
variable{prog:Program}{w:World}{A:Around}{E:Value→Shared→Prop}{s:Shared}
def kz(n d:Nat):Option Int→Nat
 |none=>d
 |some v=>if v<0 then(v+(n:Int)).toNat else min v.toNat n
theorem Ep(n d:Nat):kz n d none=d:=rfl
theorem Es(n d:Nat)(hd:d≤n)(o:Option Int):kz n d o≤n:=by
 cases o with
 |none=>exact hd
 |some v=>
  show(if v<0 then(v+(n:Int)).toNat else min v.toNat n)≤n;by_cases hv:v<0
  ·rw[MJ hv];omega
  ·rw[Je hv];exact Nat.min_le_right _ _
end
end HT
namespace L2
open PySem PySem.Spec PyProof.Rows
abbrev TO:=St→Hp→(Option Int→Hp→Prop)→Prop
def PO(X:Cx)(e:Option Expr)(t:TO):Prop:=
 ∀(pins:List (Addr×Obj))(s:Shared)(σ:St)(H:Hp)(Q:Option Int→Hp→Prop),Inv X pins σ H s→t σ H Q→
  wpAny (model X.prog X.w) X.A (evalPart e X.env) (fun u s'=>∃o H',Inv X pins σ H' s'∧IsPart u o∧Q o H') X.xe s
def Hj:TO:=fun _ H Q=>Q none H
def Od(t:TE):TO:=fun σ H Q=>t σ H fun x H1=>∃i,x= .int i∧Q (some i) H1
section
variable{X:Cx}{e:Expr}{te:TE}{lo hi:Option Expr}{tl th:TO}{pos p2:Pos}
theorem wQ:PO X none Hj:=by
 intro pins s σ H Q I h;rw[evalPart_none];exact ZF ⟨none,H,I, .none,h⟩
theorem oC(h:PE X e te):PO X (some e) (Od te):=by
 intro pins s σ H Q I hw;rw[evalPart_some];refine cJ (h pins s σ H _ I hw) fun u s1 ⟨x,H1,I1,r1,q1⟩=>?_
 obtain⟨i,rfl,q⟩:=q1;obtain⟨t,rfl⟩:=r1;exact⟨some i,H1,I1, .int i t,q⟩
def Qx(X:Cx)(r:V→Option Int→Option Int→Hp→VK→Prop):Prop:=
 ∀(pins:List (Addr×Obj))(s:Shared)(σ:St)(H:Hp)(x:V)(v vl vu:Value)(lo hi:Option Int)(sl:Addr)(Q:VK),Inv X pins σ H s→RelV x v→s.heap.IsSliceOf sl vl vu .none→IsPart vl lo→IsPart vu hi→r x lo hi H Q→
  ∃T id,typeLookup (.type T) "__getitem__"=pure (some (.builtin id))∧s.TypeIs v T∧wpAny (model X.prog X.w) X.A (getItem v (.ref sl)) (EP X pins σ Q) X.xe s
def Xn(r:V→Option Int→Option Int→Hp→VK→Prop)(te:TE)(tl th:TO):TE:=fun σ H Q=>te σ H fun x H1=>tl σ H1 fun l H2=>th σ H2 fun u H3=>r x l u H3 Q
theorem oE{r:V→Option Int→Option Int→Hp→VK→Prop}(hr:Qx X r)(he:PE X e te)(hl:PO X lo tl)(hu:PO X hi th):PE X (.Subscript e (.Slice lo hi none p2) pos) (Xn r te tl th):=by
 intro pins s σ H Q I h;refine Subscript_ (cJ (he pins s σ H _ I h) fun v s1 ⟨x,H1,I1,r1,q1⟩=>?_);refine wpAny_Slice (cJ (hl pins s1 σ H1 _ I1 q1) fun vl s2 ⟨l,H2,I2,pl,q2⟩=>cJ (hu pins s2 σ H2 _ I2 q2) fun vu s3 ⟨u,H3,I3,pu,q3⟩=>?_);rw[evalPart_none];refine wpAny_pure ?_;have I4:Inv X pins σ H3 {s3 with heap:=s3.heap.push {cls:= .type "slice",data:= .fields #[vl,vu, .none]}}:=I3.kept (t':=s3.toks) fun b ob q=>ZU q
 obtain⟨T,id,hT,ht,hg⟩:=hr pins {s3 with heap:=s3.heap.push {cls:= .type "slice",data:= .fields #[vl,vu, .none]}} σ H3 x v vl vu l u s3.heap.objs.size Q I4 r1 (Heap.IsSliceOf.new ..) pl pu q3;show wpAny (model X.prog X.w) X.A (subscriptTail e (.Slice lo hi none p2) v (.ref s3.heap.objs.size)) (EP X pins σ Q) X.xe {s3 with heap:=s3.heap.push {cls:= .type "slice",data:= .fields #[vl,vu, .none]}};exact tail_any (ops:=[.ref s3.heap.objs.size,v]) ht hT hg (by with_unfolding_all rfl)
def CH(xs:List V)(lo hi:Option Int):List V:=(xs.drop (HT.kz xs.length 0 lo)).take (HT.kz xs.length xs.length hi-HT.kz xs.length 0 lo)
theorem yO(xs:List V)(lo hi:Option Int):(CH xs lo hi).length≤xs.length:=by
 unfold CH;rw[List.length_take,List.length_drop];omega
end
def Et(n:Nat)(i:Int):Option Nat:=if 0≤i then(if i<n then some i.toNat else none)else if-(n:Int)≤i then some (i+n).toNat else none
def rV{α:Type}(xs:List α)(i:Int):Option α:=(Et xs.length i).bind fun j=>xs[j]?
theorem Bv{n:Nat}{i:Int}{j:Nat}(h:Et n i=some j):seqIndex? i n=some j∧j<n∧-(n:Int)≤i∧i<n:=by
 unfold Et at h;by_cases h0:0≤i
 ·rw[MJ h0]at h;by_cases h1:i<n
  ·rw[MJ h1]at h;have e:i.toNat=j:=ZO h;exact⟨by rw[seqIndex_of h0 h1,e],ZV,ZV,h1⟩
  ·rw[Je h1]at h;cases h
 ·rw[Je h0]at h;by_cases h1:-(n:Int)≤i
  ·rw[MJ h1]at h;have e:(i+n).toNat=j:=ZO h;exact⟨by rw[seqIndex_neg (ZV) h1,e],ZV,h1,ZV⟩
  ·rw[Je h1]at h;cases h
theorem wR{α:Type}{xs:List α}{i:Int}{v:α}(h:rV xs i=some v):∃j,seqIndex? i xs.length=some j∧xs[j]?=some v∧j<xs.length∧-(xs.length:Int)≤i∧i<xs.length:=by
 unfold rV at h;cases e:Et xs.length i with
 |none=>rw[e]at h;cases h
 |some j=>
  rw[e]at h;obtain⟨h1,h2,h3,h4⟩:=Bv e;exact⟨j,h1,h,h2,h3,h4⟩
theorem ar{α:Type}{xs:List α}{j:Nat}{v:α}(h:xs[j]?=some v):rV xs (j:Int)=some v:=by
 have hj:j<xs.length:=(YG h).1;have e:Et xs.length (j:Int)=some j:=by
  unfold Et;rw[if_pos (ZV),if_pos (ZV)];simp
 unfold rV;rw[e];exact h
theorem yP{α:Type}(xs:List α)(v:α):rV (xs++[v]) (-1)=some v:=by
 have hl:(xs++[v]).length=xs.length+1:=XC;have e:Et (xs++[v]).length (-1)=some xs.length:=by
  unfold Et;rw[hl,if_neg (WV),if_pos (ZV)]
  congr 1
  omega
 unfold rV;rw[e];show(xs++[v])[xs.length]?=some v;simp
def Hk(b:Expr):Prop:=∀o i,subscripted b false o i=operate [o,i] (getItem o i)
def MT(X:Cx)(r:R2):Prop:=
 ∀(value slice:Expr)(pins:List (Addr×Obj))(s:Shared)(σ:St)(H:Hp)(x y:V)(v u:Value)(Q:VK),Inv X pins σ H s→RelV x v→RelV y u→r x y H Q→
  subscripted slice false v u=operate [v,u] (getItem v u)→wpAny (model X.prog X.w) X.A (subscriptTail value slice v u) (EP X pins σ Q) X.xe s
def Qy(X:Cx)(id:String)(r:V→List V→Hp→VK→Prop):Prop:=
 ∀(pins:List (Addr×Obj))(s:Shared)(σ:St)(H:Hp)(x:V)(xs:List V)(v:Value)(us:List Value)(Q:VK),Inv X pins σ H s→RelV x v→Vals xs us→r x xs H Q→
  wpAny (model X.prog X.w) X.A (call (.builtin id) (v::us)) (EP X pins σ Q) X.xe s
section
variable{X:Cx}{a b:Expr}{ta tb:TE}{pos:Pos}
theorem aB{r:R2}(hr:MT X r)(ha:PE X a ta)(hb:PE X b tb)(hs:Hk b):PE X (.Subscript a b pos) (Qv r ta tb):=by
 intro pins s σ H Q I h;exact Subscript_ (KC ha hb I h fun v u s2 x y H2 I2 rx ry q=>hr a b pins s2 σ H2 x y v u Q I2 rx ry q (hs _ _))
inductive KW(K:PySem.W.Frag)(x:V)(y:V)(H:Hp)(Q:VK):Prop
 |mk (p:_) (xs:_) (i:_) (v:_) (_:x= .ref p) (_:y= .int i) (_:ir K H p xs) (_:rV xs i=some v) (_:Q v H):KW K x y H Q
inductive KY(K:PySem.W.Frag)(x:V)(y:V)(H:Hp)(Q:VK):Prop
 |mk (p:_) (xs:_) (i:_) (v:_) (_:x= .ref p) (_:y= .int i) (_:DM K H p xs) (_:rV xs i=some v) (_:Q v H):KY K x y H Q
inductive Oe(x:V)(y:V)(H:Hp)(Q:VK):Prop
 |mk (z:_) (i:_) (c:_) (_:x= .str z) (_:y= .int i) (_:z.length≤sizeLine) (_:rV z.cps.toList i=some c) (_:Q (.str ⟨#[c]⟩) H):Oe x y H Q
theorem Hl:MT X (KW X.K):=by
 intro value slice pins s σ H x y v u Q I rx ry h hs;obtain⟨p,xs,i,z,rfl,rfl,hq,he,q⟩:=h;cases rx;obtain⟨t,rfl⟩:=ry;obtain⟨its,r,pl,hz⟩:=I.list hq;obtain⟨j,h1,h2,h3,h4,h5⟩:=wR he;obtain⟨w,ew,iD⟩:=r.get h2;have hl:=r.length;have hn:=qk;have fin:EP X pins σ Q w s:=⟨z,H,I,iD,q⟩
 by_cases h0:0≤i
 ·have hj:i.toNat=j:=by
   rw[seqIndex_of h0 h5]at h1;exact ZO h1
  exact item_listR pl.isList h0 (ZV) (by rw[hj];simpa using ew) fin hs
 ·have hj:(i+(its.toArray.size:Int)).toNat=j:=by
   rw[seqIndex_neg (ZV) h4]at h1;rw[List.size_toArray,←hl];exact ZO h1
  exact subscriptTail_builtinR (x:=w) pl.isList.typeIs slot_list_getitem.lookup
   (wpAny_getItem_list_neg (Q:=fun r s'=>r=w∧EP X pins σ Q r s') pl.isList (ZV) (by rw[List.size_toArray]<;>omega) (ZV) (by rw[hj];simpa using ew) ⟨rfl,fin⟩) hs
theorem KZ:MT X (KY X.K):=by
 intro value slice pins s σ H x y v u Q I rx ry h hs;obtain⟨p,xs,i,z,rfl,rfl,hq,he,q⟩:=h;cases rx;obtain⟨t,rfl⟩:=ry;obtain⟨its,r,pl,hz⟩:=I.tuple hq;obtain⟨j,h1,h2,h3,h4,h5⟩:=wR he;obtain⟨w,ew,iD⟩:=r.get h2;have hl:=r.length;have hn:=qk;have fin:EP X pins σ Q w s:=⟨z,H,I,iD,q⟩
 exact subscriptTail_builtinR (x:=w) pl.typeIs slot_tuple_getitem.lookup
  (getItem_tuple (j:=j) (Q:=fun r s'=>r=w∧EP X pins σ Q r s') pl (ZV) (ZV) (by rw[List.size_toArray,←hl];exact h1) (by simpa using ew) ⟨rfl,fin⟩) hs
theorem Eu:MT X Oe:=by
 intro value slice pins s σ H x y v u Q I rx ry h hs;obtain⟨z,i,c,rfl,rfl,hz,he,q⟩:=h;obtain⟨t,rfl⟩:=rx;obtain⟨t',rfl⟩:=ry;obtain⟨j,h1,h2,h3,h4,h5⟩:=wR he;have hl:z.cps.toList.length=z.length:=by simp[Str.length]
 rw[hl]at h1 h4 h5;have hn:=qk;exact tail_any (typeIs_str s z t) slot_str_getitem.lookup (getItem_str (c:=c) (by
  have e1:decide (i< -(2^63:Int))=false:=decide_eq_false (ZV);have e2:decide (i≥2^63)=false:=decide_eq_false (ZV);rw[e1,e2,Bool.or_false]) (by rw[h1];simpa using h2) ⟨.str ⟨#[c]⟩,H,I.tok _,⟨_,rfl⟩,q⟩) hs
theorem Ag(its:List Value)(n j:Nat)(u:Value):Obj.mapSeq (·.setIfInBounds j u) {cls:= .type "list",data:= .seq its.toArray n}={cls:= .type "list",data:= .seq (its.set j u).toArray n}:=by
 simp[Obj.mapSeq]
theorem Inv.lst{pins:List (Addr×Obj)}{σ:St}{H:Hp}{s:Shared}{p:Addr}{xs:List V}(I:Inv X pins σ H s)(h:H p=some (.lst xs)):
  ∃(its:List Value)(n:Nat),Vals xs its∧s.heap.get? p=some {cls:= .type "list",data:= .seq its.toArray n}∧xs.length≤sizeLine:=by
 obtain⟨z,its,n,r,e⟩:=I.bX p _ h;exact⟨its,n,r,e,z⟩
theorem Inv.K0{pins:List (Addr×Obj)}{σ:St}{H:Hp}{s:Shared}{p:Addr}{xs ys:List V}{its its':List Value}{n n':Nat}{f:Obj→Obj}(I:Inv X pins σ H s)(h:H p=some (.lst xs))
  (ho:s.heap.get? p=some {cls:= .type "list",data:= .seq its.toArray n}) (hf:f {cls:= .type "list",data:= .seq its.toArray n}={cls:= .type "list",data:= .seq its'.toArray n'}) (r:Vals ys its') (hz:ys.length≤sizeLine) (t:Nat):
  Inv X pins σ (upd H p (.lst ys)) {s with heap:=s.heap.update p f,toks:=t}:=by
 have e:(s.heap.update p f).get? p=some {cls:= .type "list",data:= .seq its'.toArray n'}:=by
  rw[Heap.get?_update_self f ho (by rw[hf]<;>rfl),hf]
 refine I.write (x:=p) (e:=p) (by rw[h];trivial) (.inl rfl) (fun b u hb q=>(Heap.get?_update_other _ _ (Ne.symm hb)).trans q) ⟨_,e⟩ ?_;exact⟨hz,its',n',r,e⟩
inductive Jl(o:V)(i:V)(v:V)(H:Hp)(Q:(Hp→Prop)):Prop
 |mk (p:_) (xs:_) (k:_) (j:_) (_:o= .ref p) (_:i= .int k) (_:H p=some (.lst xs)) (_:Et xs.length k=some j) (_:Q (upd H p (.lst (xs.set j v)))):Jl o i v H Q
theorem set_list:NX X Jl:=by
 intro pins s σ H o i v ov iv u Q I ro ri rv h;obtain⟨p,xs,k,j,rfl,rfl,hp,hj,q⟩:=h;cases ro;obtain⟨t,rfl⟩:=ri;obtain⟨its,n,r,ho,hz⟩:=I.lst hp;obtain⟨h1,h2,h3,h4⟩:=Bv hj;have hl:=r.length;have hn:=qk;have I':Inv X pins σ (upd H p (.lst (xs.set j v))) {s with heap:=s.heap.update p (Obj.mapSeq (·.setIfInBounds j u))}:=
  I.K0 hp ho (Ag its n j u) (r.set rv j) (by rw[List.length_set];exact hz) s.toks
 by_cases h0:0≤k
 ·have hk:k.toNat=j:=by
   rw[seqIndex_of h0 h4]at h1;exact ZO h1
  exact PySem.W.ki_setAt ho h0 (ZV) (by rw[List.size_toArray,←hl];exact h4) (by rw[hk];exact⟨_,I',q⟩)
 ·have hk:(k+(its.toArray.size:Int)).toNat=j:=by
   rw[seqIndex_neg (ZV) h3]at h1;rw[List.size_toArray,←hl];exact ZO h1
  exact PySem.W.ki_setBack ho (ZV) (by rw[List.size_toArray,←hl];exact h3) (ZV) (by rw[hk];exact⟨_,I',q⟩)
theorem wU(lo hi:Option Int)(n:Nat):(sliceBounds lo hi none n).1=((HT.kz n 0 lo:Nat):Int)∧(sliceBounds lo hi none n).2.1=((HT.kz n n hi:Nat):Int)∧(sliceBounds lo hi none n).2.2=1:=by
 refine⟨?_,?_,rfl⟩
 ·cases lo with
  |none=>simp[sliceBounds,HT.kz]
  |some i=>
   simp only[sliceBounds,HT.kz,Option.getD_none,show(1:Int)>0 by decide,if_true];by_cases h:i<0
   ·simp only[h,if_true]<;>lia
   ·simp only[h,if_false]<;>lia
 ·cases hi with
  |none=>simp[sliceBounds,HT.kz]
  |some i=>
   simp only[sliceBounds,HT.kz,Option.getD_none,show(1:Int)>0 by decide,if_true];by_cases h:i<0
   ·simp only[h,if_true]<;>lia
   ·simp only[h,if_false]<;>lia
theorem uV(its:List Value)(lo hi:Option Int):slicePick its.toArray lo hi none=((its.drop (HT.kz its.length 0 lo)).take (HT.kz its.length its.length hi-HT.kz its.length 0 lo)).toArray:=by
 obtain⟨h1,h2,h3⟩:=wU lo hi its.toArray.size;unfold slicePick;rw[h1,h2,h3];simp only[sliceRange_one,pick_run,List.size_toArray]<;>rfl
inductive K1(K:PySem.W.Frag)(x:V)(lo:Option Int)(hi:Option Int)(H:Hp)(Q:VK):Prop
 |mk (a:_) (xs:_) (_:x= .ref a) (_:ir K H a xs) (_:∀p,H p=none→Q (.ref p) (upd H p (.lst (CH xs lo hi)))):K1 K x lo hi H Q
theorem Hm:Qx X (K1 X.K):=by
 intro pins s σ H x v vl vu lo hi sl Q I rx hs pl pu h;obtain⟨a,xs,rfl,hx,q⟩:=h;cases rx;obtain⟨its,r,ht,hz⟩:=I.list hx;have hlen:=r.length;refine⟨"list",_,slot_list_getitem.lookup,ht.isList.typeIs,?_⟩;refine wpAny_getItem_list_slice ht.isList hs pl pu .none (XC) ?_ (by rw[List.size_toArray]<;>omega);rw[uV,←hlen];refine⟨.ref s.heap.objs.size,_,I.laid (t':=s.toks) (o:= .lst (CH xs lo hi)) (fun b ob q=>ZU q) (Nat.le_refl _) ?_,rfl,q _ (I.bX.fresh ZT)⟩;exact⟨Nat.le_trans (yO xs lo hi) hz,_,0,(r.drop (HT.kz xs.length 0 lo)).take (HT.kz xs.length xs.length hi-HT.kz xs.length 0 lo),Heap.get?_push_size _ rfl⟩
def i7:V→Bool
 | .cL=>true
 | .bl _=>true
 | .int _=>true
 | .str _=>true
 | _=>false
def qt:V→V→Bool
 | .cL, .cL=>true
 | .bl a, .bl b=>a==b
 | .bl a, .int b=>(if a then 1 else 0)==b
 | .int a, .bl b=>a==(if b then 1 else 0)
 | .int a, .int b=>a==b
 | .str a, .str b=>a==b
 | _,_=>false
theorem tq{A:Around}{s:Shared}{y x:V}{u v:Value}(ry:RelV y u)(rx:RelV x v)(fy:i7 y=true)(fx:i7 x=true):SeqAt.EqAt A s u v (qt y x):=by
 cases y with
 |cL=>
  cases ry;cases x with
  |cL=>cases rx;exact SeqAt.EqAt.same _
  |bl b=>cases rx;exact SeqAt.EqAt.none_bool b
  |int b=>obtain⟨t,rfl⟩:=rx;exact SeqAt.EqAt.none_int b t
  |str b=>obtain⟨t,rfl⟩:=rx;exact SeqAt.EqAt.none_str b t
  | _=>exact Υ (show false=true from fx)
 |bl a=>
  cases ry;cases x with
  |cL=>cases rx;exact SeqAt.EqAt.bool_none a
  |bl b=>cases rx;exact SeqAt.EqAt.bool_bool a b
  |int b=>obtain⟨t,rfl⟩:=rx;exact SeqAt.EqAt.bool_int a b t
  |str b=>obtain⟨t,rfl⟩:=rx;exact SeqAt.EqAt.bool_str a b t
  | _=>exact Υ (show false=true from fx)
 |int a=>
  obtain⟨t',rfl⟩:=ry;cases x with
  |cL=>cases rx;exact SeqAt.EqAt.int_none a t'
  |bl b=>cases rx;exact SeqAt.EqAt.int_bool a t' b
  |int b=>obtain⟨t,rfl⟩:=rx;exact SeqAt.EqAt.int_int a t' b t
  |str b=>obtain⟨t,rfl⟩:=rx;exact SeqAt.EqAt.int_str a t' b t
  | _=>exact Υ (show false=true from fx)
 |str a=>
  obtain⟨t',rfl⟩:=ry;cases x with
  |cL=>cases rx;exact SeqAt.EqAt.str_none a t'
  |bl b=>cases rx;exact SeqAt.EqAt.str_bool a t' b
  |int b=>obtain⟨t,rfl⟩:=rx;exact SeqAt.EqAt.str_int a t' b t
  |str b=>obtain⟨t,rfl⟩:=rx;exact SeqAt.EqAt.str_str a t' b t
  | _=>exact Υ (show false=true from fx)
 | _=>exact Υ (show false=true from fy)
def Hn(x:V)(u:Value):Bool:=match u with
 | .none=>qt .cL x
 | .bool b=>qt (.bl b) x
 | .int i _=>qt (.int i) x
 | .str z _=>qt (.str z) x
 | _=>false
theorem Ew{x y:V}{u:Value}(r:RelV y u)(f:i7 y=true):Hn x u=qt y x:=by
 cases y with
 |cL=>cases r;rfl
 |bl b=>cases r;rfl
 |int i=>obtain⟨t,rfl⟩:=r;rfl
 |str z=>obtain⟨t,rfl⟩:=r;rfl
 | _=>exact Υ (show false=true from f)
theorem wV{x:V}:∀{xs:List V}{us:List Value},Vals xs us→xs.all i7=true→us.any (Hn x)=xs.any fun y=>qt y x
 | _,_, .nil,_=>rfl
 |y::xs,u::us, .cons r t,f=>by
  rw[List.all_cons,Bool.and_eq_true]at f;rw[List.any_cons,List.any_cons,Ew r f.1,wV t f.2]
theorem tw{A:Around}{s:Shared}{x:V}{v:Value}(rx:RelV x v)(fx:i7 x=true):∀{xs:List V}{us:List Value},Vals xs us→xs.all i7=true→∀u∈us,SeqAt.EqAt A s u v (Hn x u)
 | _,_, .nil,_=>fun u hu=>by cases hu
 |y::xs,u::us, .cons r t,f=>fun u' hu=>by
  rw[List.all_cons,Bool.and_eq_true]at f;rcases List.mem_cons.mp hu with rfl|hu
  ·rw[Ew r f.1];exact tq r rx f.1 fx
  ·exact tw rx fx t f.2 u' hu
def Qz(x:V)(xs:List V):Bool:=xs.any fun y=>qt y x
def Vk(K:PySem.W.Frag)(neg:Bool):R2:=fun x y H Q=>∃p xs,y= .ref p∧(ir K H p xs∨DM K H p xs)∧i7 x=true∧xs.all i7=true∧Q (.bl (if neg then !Qz x xs else Qz x xs)) H
theorem wX:qg X (compareOp .NotIn) (Vk X.K true):=by
 intro pins s σ H x y v u Q I rx ry h;obtain⟨p,xs,rfl,hq,fx,fs,q⟩:=h;cases ry;rcases hq with hq|hq
 ·obtain⟨its,r,pl,hz⟩:=I.list hq;refine SeqAt.notIn_listAt (Hn x) pl.isList (fun w hw=>tw rx fx r fs w (by simpa using hw)) ⟨.bl _,H,I,rfl,?_⟩;rw[show its.toArray.any (Hn x)=its.any (Hn x) by simp,wV r fs];exact q
 ·obtain⟨its,r,pl,hz⟩:=I.tuple hq;refine SeqAt.notIn_tupleAt (Hn x) pl (fun w hw=>tw rx fx r fs w (by simpa using hw)) ⟨.bl _,H,I,rfl,?_⟩;rw[show its.toArray.any (Hn x)=its.any (Hn x) by simp,wV r fs];exact q
theorem wY:i4 X (.builtin "len") (fun xs H Q=>∃p ys,xs=[.ref p]∧(ir X.K H p ys∨DM X.K H p ys)∧Q (.int ys.length) H):=by
 intro pins s σ H xs us Q I r h;obtain⟨p,ys,rfl,hq,q⟩:=h;obtain⟨u,rfl,rx⟩:=vals1 r;cases rx;have hn:=qk;rcases hq with hq|hq
 ·obtain⟨its,r',pl,hz⟩:=I.list hq;have hlen:=r'.length;exact Calls.call_len_list pl.isList (by simp only[List.size_toArray]<;>omega) ⟨.int ys.length,H,I.tok _,⟨s.toks+1,by rw[List.size_toArray,hlen]⟩,q⟩
 ·obtain⟨its,r',pl,hz⟩:=I.tuple hq;have hlen:=r'.length;exact len_tuple pl (by simp only[List.size_toArray]<;>omega) ⟨.int ys.length,H,I.tok _,⟨s.toks+1,by rw[List.size_toArray,hlen]⟩,q⟩
theorem oF:i4 X (.builtin "len") (fun xs H Q=>∃z,xs=[.str z]∧z.length≤sizeLine∧Q (.int z.length) H):=by
 intro pins s σ H xs us Q I r h;obtain⟨z,rfl,hz,q⟩:=h;obtain⟨u,rfl,t,rfl⟩:=vals1 r;have hn:=qk;exact len_str (ZV) ⟨.int z.length,H,I.tok _,⟨_,rfl⟩,q⟩
theorem wZ:i4 X (.type "list") (fun xs H Q=>∃p ys,xs=[.ref p]∧(ir X.K H p ys∨DM X.K H p ys)∧∀l,H l=none→Q (.ref l) (upd H l (.lst ys))):=by
 intro pins s σ H xs us Q I r h;obtain⟨p,ys,rfl,hq,q⟩:=h;obtain⟨u,rfl,rx⟩:=vals1 r;cases rx;have fin:∀(its:List Value),Vals ys its→ys.length≤sizeLine→∀(h':Heap)(c':Nat),(∀b o',s.heap.get? b=some o'→h'.get? b=some o')→
   h'.get? s.heap.objs.size=some {cls:= .type "list",dict:=none,data:= .seq its.toArray c',slots:=#[]}→EP X pins σ Q (.ref s.heap.objs.size) {s with heap:=h'}:=fun its r' hz h' c' kp e=>
  ⟨.ref s.heap.objs.size,_,I.laid (t':=s.toks) kp ZT (show cR X.prog X.w _ h' _ (.lst ys)from⟨hz,its,c',r',e⟩),rfl,q _ (I.bX.fresh ZT)⟩
 rcases hq with hq|hq
 ·obtain⟨its,r',pl,hz⟩:=I.list hq;have hlen:=r'.length;obtain⟨o,ho,hc,n,hd⟩:=pl.isList;exact call_list_seq p (.inl rfl) ho hc hd (fun h' c' kp e=>fin its r' hz h' c' kp e) (by simp only[List.size_toArray]<;>omega)
 ·obtain⟨its,r',pl,hz⟩:=I.tuple hq;have hlen:=r'.length;obtain⟨o,ho,hc,n,hd⟩:=pl;exact call_list_seq p (.inr rfl) ho hc hd (fun h' c' kp e=>fin its r' hz h' c' kp e) (by simp only[List.size_toArray]<;>omega)
def Sk(K:PySem.W.Frag)(T:String)(x:V)(H:Hp):Prop:=match x with
 | .str _=>T="str"
 | .int _=>T="int"
 | .ref p=>(T="list"∧∃xs,ir K H p xs)∨(T="tuple"∧∃o,K.lookup p=some o∧o.cls= .type "tuple"∧o.dict=none)∨
   (T="dict"∧((∃kvs,H p=some (.dK kvs))∨∃kvs,H p=some (.dT kvs)))∨(T="set"∧∃S n,H p=some (.set S n))
 | _=>False
theorem Ex{pins:List (Addr×Obj)}{σ:St}{H:Hp}{s:Shared}{T:String}{x:V}{v:Value}(I:Inv X pins σ H s)(r:RelV x v)(ty:Sk X.K T x H):
  s.TypeIs v T∧∀a,v= .ref a→∃ob,s.heap.get? a=some ob∧ob.dict=none:=by
 cases x with
 |str z=>
  obtain⟨t,rfl⟩:=r;cases(show T="str" from ty);exact⟨typeIs_str s z t,fun _ e=>nomatch e⟩
 |int i=>
  obtain⟨t,rfl⟩:=r;cases(show T="int" from ty);exact⟨typeIs_int s i t,fun _ e=>nomatch e⟩
 |ref p=>
  cases r;rcases ty with⟨rfl,xs,hq⟩|⟨rfl,o,hk,hc,hd⟩|⟨rfl,hk⟩|⟨rfl,S,n,hk⟩
  ·obtain⟨its,_,pl,_⟩:=I.list hq;refine⟨pl.isList.typeIs,fun a e=>?_⟩;cases e;obtain⟨o,n,e,c,hd,_⟩:=pl;exact⟨o,e,hd⟩
  ·refine⟨⟨o,I.qi p o hk,hc⟩,fun a e=>?_⟩;cases e;exact⟨o,I.qi _ o hk,hd⟩
  ·have z:∃o,s.heap.get? p=some o∧o.ExactDict:=by
    rcases hk with⟨kvs,hk⟩|⟨kvs,hk⟩
    ·obtain⟨_,_,_,_,o,_,_,e,ex,_⟩:=I.bX p _ hk;exact⟨o,e,ex⟩
    ·obtain⟨_,_,_,_,o,_,_,e,ex,_⟩:=I.bX p _ hk;exact⟨o,e,ex⟩
   obtain⟨o,e,ex⟩:=z;refine⟨⟨o,e,ex.1⟩,fun a e2=>?_⟩;cases e2;exact⟨o,e,ex.2.1⟩
  ·obtain⟨o,_,_,_,e,ex,_⟩:=I.bX p _ hk;refine⟨⟨o,e,ex.1⟩,fun a e2=>?_⟩;cases e2;exact⟨o,e,ex.2.1⟩
 | _=>exact False.elim ty
def Of(K:PySem.W.Frag)(T:String)(r:V→List V→Hp→VK→Prop)(to:TE):TE:=fun σ H Q=>to σ H fun x H1=>Sk K T x H1∧r x [] H1 Q
def Vl(K:PySem.W.Frag)(T:String)(r:V→List V→Hp→VK→Prop)(to:TE)(t:TA):TE:=fun σ H Q=>to σ H fun x H1=>Sk K T x H1∧t σ H1 fun xs H2=>r x xs H2 Q
variable{o e:Expr}{es:List Expr}{to:TE}{t:TA}{name:Str}{apos eD:Pos}{T id:String}{r:V→List V→Hp→VK→Prop}
theorem K2(pa:PlainAttrs T)(slot:Slot T name id)(DO:typeOf (.builtin id)=pure (.type "method_descriptor"))(hm:Qy X id r)(ho:PE X o to)
  (oG:attributeBase o name X.env (eval o X.env)=eval o X.env:=by rfl) (oH:(apos.endLine==eD.line)=true:=by rfl):PE X (.Call (.Attribute o name apos) [] [] eD) (Of X.K T r to):=by
 intro pins s σ H Q I h;refine wpAny_Call_method0_late oG oH (cJ (ho pins s σ H _ I h) fun v s1 ⟨x,H1,I1,r1,ty,q1⟩=>?_);obtain⟨h1,h2⟩:=Ex I1 r1 ty;exact⟨T,id,pa,slot,DO,h1,h2,Calls.callWith_builtin rfl (PySem.evalArgs_none (hm pins s1 σ H1 x [] v [] Q I1 r1 .nil q1))⟩
theorem Og(pa:PlainAttrs T)(slot:Slot T name id)(DO:typeOf (.builtin id)=pure (.type "method_descriptor"))(hm:Qy X id r)(ho:PE X o to)(ha:PA X (e::es) t)
  (oG:attributeBase o name X.env (eval o X.env)=eval o X.env:=by rfl)
  (Ey:((backTo eD (starEach (e::es) X.env)).all (fun x=>!x.1)&&(backToKw eD (keywordEach [] X.env)).all (fun x=>x.1.isSome)
   &&decide ((e::es).length+([]:List Keyword).length+(if ([]:List Keyword).isEmpty then 0 else 1)<30))=true:=by rfl)
  (oH:(apos.endLine==eD.line)=true:=by rfl) (hs:starEach (e::es) X.env=(false,eval e X.env)::starEach es X.env:=by rfl) (Ah:(backTo eD (starEach es X.env)).any (·.1)=false:=by rfl):
  PE X (.Call (.Attribute o name apos) (e::es) [] eD) (Vl X.K T r to t):=by
 intro pins s σ H Q I h;refine wpAny_Call_method_late oG Ey oH rfl (cJ (ho pins s σ H _ I h) fun v s1 ⟨x,H1,I1,r1,ty,q1⟩=>?_);obtain⟨h1,h2⟩:=Ex I1 r1 ty;refine⟨T,id,pa,slot,DO,h1,h2,?_⟩;have hA:=ha eD pins s1 σ H1 _ I1 q1;rw[hs]at hA⊢;refine Calls.callWith_builtin (by show(false||(backTo eD (starEach es X.env)).any (·.1))=false;rw[Ah]<;>rfl) (Calls.evalArgs_plain ?_);exact cJ hA fun us s2 ⟨vs,H2,I2,r2,q2⟩=>hm pins s2 σ H2 x vs v us Q I2 r1 r2 q2
end
def Sl(X:Cx)(id:String)(r:V→List V→Hp→VK→Prop):Prop:=
 ∀(pins:List (Addr×Obj))(s:Shared)(σ:St)(H:Hp)(x:V)(xs:List V)(v:Value)(us:List Value)(Q:VK),Inv X pins σ H s→RelV x v→Vals xs us→r x xs H Q→
  wpAny (model X.prog X.w) X.A (call (.builtin id) (v::us)) (EP X pins σ Q) X.xe s
theorem Vals.one:∀{x:V}{us:List Value},Vals [x] us→∃u,us=[u]∧RelV x u
 | _,_, .cons r .nil=>⟨_,rfl,r⟩
theorem Vals.zero:∀{us:List Value},Vals [] us→us=[]
 | _, .nil=>rfl
theorem Vals.reverse{xs:List V}{us:List Value}(h:Vals xs us):Vals xs.reverse us.reverse:=by
 induction h with
 |nil=>exact .nil
 |cons r t ih=>rw[List.reverse_cons,List.reverse_cons];exact Vals.append ih (.cons r .nil)
theorem Vals.rep{xs:List V}{us:List Value}(h:Vals xs us):∀k:Nat,Vals (List.replicate k xs).flatten (List.replicate k us).flatten
 |0=> .nil
 |k+1=>by
  rw[List.replicate_succ,List.replicate_succ,List.flatten_cons,List.flatten_cons];exact Vals.append h (Vals.rep h k)
theorem foldl_rep(its:List Value):∀(k:Nat)(acc:List Value),
  List.foldl (fun x1 x2=>x1++x2) acc.toArray (List.replicate k its.toArray)=(acc++(List.replicate k its).flatten).toArray
 |0,acc=>XC
 |k+1,acc=>by
  have e:acc.toArray++its.toArray=(acc++its).toArray:=XC;have e2:(acc++its)++(List.replicate k its).flatten=acc++(List.replicate (k+1) its).flatten:=by
   rw[List.replicate_succ,List.flatten_cons,List.append_assoc]
  rw[←e2,←foldl_rep its k (acc++its),←e,List.replicate_succ,List.foldl_cons]
section
variable{X:Cx}{pins:List (Addr×Obj)}{σ:St}{H:Hp}{s:Shared}{l b:Addr}{xs ys zs:List V}
theorem Inv.K3{its its':List Value}{n:Nat}{f:Array Value→Array Value}{t':Nat}(I:Inv X pins σ H s)(hH:H l=some (.lst xs))
  (e:s.heap.get? l=some {cls:= .type "list",data:= .seq its.toArray n}) (hf:f its.toArray=its'.toArray) (hv:Vals ys its') (hz:ys.length≤sizeLine):
  Inv X pins σ (upd H l (.lst ys)) {s with heap:=s.heap.update l (Obj.mapSeq f),toks:=t'}:=by
 have q:=PySem.IsL.update e f;rw[hf]at q;refine I.write (x:=l) (e:=l) (by rw[hH];exact trivial) (.inl rfl) (fun b' u hb hu=>(Heap.get?_update_other s.heap (Obj.mapSeq f) (Ne.symm hb)).trans hu) ⟨_,q⟩ ?_;exact⟨hz,its',_,hv,q⟩
theorem Inv.Oh{its:List Value}{t':Nat}(I:Inv X pins σ H s)(hv:Vals ys its)(hz:ys.length≤sizeLine):
  Inv X pins σ (upd H s.heap.objs.size (.lst ys)) {s with heap:=s.heap.push {cls:= .type "list",data:= .seq its.toArray},toks:=t'}:=
 I.laid (fun _ _ q=>ZU q) (Nat.le_refl _) ⟨hz,its,0,hv,Heap.get?_push_size _ rfl⟩
theorem Inv.fresh(I:Inv X pins σ H s):H s.heap.objs.size=none:=I.bX.fresh ZT
theorem Inv.Ai(I:Inv X pins σ H s)(hH:H l=some (.lst xs)):xs.length≤sizeLine∧∃(its:List Value)(n:Nat),Vals xs its∧xs.length=its.length∧s.heap.get? l=some {cls:= .type "list",data:= .seq its.toArray n}:=by
 obtain⟨z,its,n,r,e⟩:=I.bX l _ hH;exact⟨z,its,n,r,r.length,e⟩
theorem yQ{n:Nat}(h:n≤sizeLine):Builtin.List.listTooLong n=false:=by
 unfold Builtin.List.listTooLong;exact decide_eq_false (ZV)
end
section
variable{X:Cx}
inductive Bw(x:V)(vs:List V)(H:Hp)(Q:VK):Prop
 |mk (l:_) (xs:_) (y:_) (_:x= .ref l) (_:vs=[y]) (_:H l=some (.lst xs)) (_:xs.length<sizeLine) (_:Q .cL (upd H l (.lst (xs++[y])))):Bw x vs H Q
theorem bT:Sl X "list.append" Bw:=by
 intro pins s σ H x vs v us Q I rx rv h;obtain⟨l,xs,y,rfl,rfl,hH,hz,q⟩:=h;cases rx;obtain⟨u,rfl,ru⟩:=rv.one;obtain⟨z,its,n,r,hl,e⟩:=I.Ai hH;refine call_meets F.slot_list_append ⟨_,e,rfl⟩ F.entry_list_append (F.args_list_append_2 _ _) (PySem.list_append l its.toArray n u (by rw[List.size_toArray];omega)) ⟨e,?_⟩;refine⟨.cL,_,I.K3 (its':=its++[u]) hH e Vs (r.append (.cons ru .nil)) ?_,rfl,q⟩;rw[List.length_append,List.length_singleton];omega
def Ho:V→List V→Hp→VK→Prop:=fun x vs H Q=>∃l b xs zs,x= .ref l∧vs=[.ref b]∧H l=some (.lst xs)∧H b=some (.lst zs)∧xs.length+zs.length≤sizeLine∧Q .cL (upd H l (.lst (xs++zs)))
theorem vU:Sl X "list.extend" Ho:=by
 intro pins s σ H x vs v us Q I rx rv h;obtain⟨l,b,xs,zs,rfl,rfl,hH,hB,hz,q⟩:=h;cases rx;obtain⟨u,rfl,ru⟩:=rv.one;cases ru;obtain⟨z,its,n,r,hl,e⟩:=I.Ai hH;obtain⟨z2,dQ,n2,r2,uW,e2⟩:=I.Ai hB;have hsz:its.toArray.size+dQ.toArray.size≤sizeLine:=by rw[List.size_toArray,List.size_toArray];omega
 have Ez:¬(!its.toArray.isEmpty&&Builtin.List.listTooLong (its.toArray.size+dQ.toArray.size))=true:=by
  rw[yQ hsz,Bool.and_false];exact Bool.false_ne_true
 refine call_meets F.slot_list_extend ⟨_,e,rfl⟩ F.entry_list_extend (F.args_list_extend_2 _ _)
  (AutoSeq1.list_extend_list_list_0 l its.toArray n b dQ.toArray n2 Ez (by rw[List.size_toArray];omega) (ZV)) ⟨e,e2,?_⟩
 refine⟨.cL,_,I.K3 (its':=its++dQ) hH e Vs (r.append r2) ?_,rfl,q⟩;rw[List.length_append];omega
def EA:V→List V→Hp→VK→Prop:=fun x vs H Q=>∃l xs,x= .ref l∧vs=[]∧H l=some (.lst xs)∧Q .cL (upd H l (.lst xs.reverse))
theorem Aj:Sl X "list.reverse" EA:=by
 intro pins s σ H x vs v us Q I rx rv h;obtain⟨l,xs,rfl,rfl,hH,q⟩:=h;cases rx;have Sn:=rv.zero;subst Sn;obtain⟨z,its,n,r,hl,e⟩:=I.Ai hH;refine call_meets F.slot_list_reverse ⟨_,e,rfl⟩ F.entry_list_reverse (F.args_list_reverse_1 _) (AutoSeq1.list_reverse_list_0 l its.toArray n (by rw[List.size_toArray];omega)) ⟨e,?_⟩;refine⟨.cL,_,I.K3 (its':=its.reverse) hH e Vs r.reverse ?_,rfl,q⟩;rw[List.length_reverse];omega
inductive Oi(x:V)(y:V)(H:Hp)(Q:VK):Prop
 |mk (l:_) (b:_) (xs:_) (zs:_) (_:x= .ref l) (_:y= .ref b) (_:H l=some (.lst xs)) (_:H b=some (.lst zs)) (_:xs.length+zs.length≤sizeLine) (_:∀p,H p=none→Q (.ref p) (upd H p (.lst (xs++zs)))):Oi x y H Q
theorem qu:qg X (binaryOp .Add) Oi:=by
 intro pins s σ H x y v u Q I rx ry h;obtain⟨l,b,xs,zs,rfl,rfl,hH,hB,hz,q⟩:=h;cases rx;cases ry;obtain⟨z,its,n,r,hl,e⟩:=I.Ai hH;obtain⟨z2,dQ,n2,r2,uW,e2⟩:=I.Ai hB;refine PySem.P.add_list e e2 ?_ (by rw[List.size_toArray,List.size_toArray];omega);have ea:its.toArray++dQ.toArray=(its++dQ).toArray:=XC;rw[ea];exact⟨.ref _,_,I.Oh (t':=s.toks) (r.append r2) (by rw[List.length_append];omega),rfl,q _ I.fresh⟩
def So:R2:=fun x y H Q=>∃l k xs,x= .ref l∧y= .int k∧H l=some (.lst xs)∧-(2^63)≤k∧k<2^63∧xs.length*k.toNat≤sizeLine∧
 ∀p,H p=none→Q (.ref p) (upd H p (.lst (List.replicate k.toNat xs).flatten))
theorem len_rep{α:Type}(xs:List α)(k:Nat):(List.replicate k xs).flatten.length=k*xs.length:=by
 induction k with
 |zero=>simp
 |succ k ih=>rw[List.replicate_succ,List.flatten_cons,List.length_append,ih,Nat.succ_mul,Nat.add_comm]
theorem tD:qg X (binaryOp .Mult) So:=by
 intro pins s σ H x y v u Q I rx ry h;obtain⟨l,k,xs,rfl,rfl,hH,h1,h2,hz,q⟩:=h;cases rx;obtain⟨t,rfl⟩:=ry;obtain⟨z,its,n,r,hl,e⟩:=I.Ai hH;have hlen:its.toArray.size*k.toNat≤sizeLine:=by rw[List.size_toArray,←hl];exact hz
 have Sq:¬its.toArray.size*k.toNat>(2^63-1)/8:=by
  have:(sizeLine:Nat)≤(2^63-1)/8:=WV;omega
 have Sr:¬(!Builtin.List.listFitsIndex k)=true:=by
  rw[fitsIndex_both h1 h2];exact Bool.false_ne_true
 have Ez:¬Builtin.List.listTooLong (its.toArray.size*k.toNat)=true:=by
  rw[yQ hlen];exact Bool.false_ne_true
 have CI:List.foldl (fun x1 x2=>x1++x2) #[] (List.replicate (if its.toArray.isEmpty=true then 0 else k.toNat) its.toArray)=(List.replicate k.toNat its).flatten.toArray:=by
  have f0:∀m:Nat,List.foldl (fun x1 x2=>x1++x2) #[] (List.replicate m its.toArray)=(List.replicate m its).flatten.toArray:=fun m=>by
   have:=foldl_rep its m [];rw[List.nil_append]at this;exact this
  rw[f0];cases its with
  |nil=>simp
  |cons a r'=>rw[if_neg Vs]
 refine wpAny_binaryOp_repeat_ref (T:="list") (U:="int") (WV) ⟨_,e,rfl⟩ (fun s'=>typeIs_int s' k t) noFill_list_mul F.fills_int_mul F.slot_int_rmul repeat_list F.slot_int_index.lookup
  (call_meets F.slot_int_rmul (typeIs_int s k t) F.entry_int_rmul (F.args_int_rmul_2 _ _) (int___rmul___int_list k t l its.toArray n)
   ⟨e,rfl,⟨_,e,rfl⟩,call_meets F.slot_list_mul ⟨_,e,rfl⟩ F.entry_list_mul (F.args_list_mul_2 _ _) (AutoListH.list___mul___list_int_3 l its.toArray n k t Sr Sq Ez) ⟨e,?_⟩⟩)
 rw[CI];exact⟨.ref _,_,I.Oh (t':=s.toks) (r.rep k.toNat) (by rw[len_rep,Nat.mul_comm];exact hz),rfl,q _ I.fresh⟩
end
section
variable{prog:Program}{w:World}{A:Around}{E:Value→Shared→Prop}{s:Shared}
end
section
variable{X:Cx}
end
end L2
namespace Vm
open PySem PySem.W PySem.Calls PyProof.Rows
theorem rW{P:Params}{h:Heap}:∀(ns:List Int)(vs:List Value),WellAll P h vs (ns.map WData.int)→IntsAre vs ns:=by
 intro ns
 induction ns with
 |nil=>
  intro vs w;rw[List.map_nil]at w;cases w;exact .nil
 |cons n ns ih=>
  intro vs w;rw[List.map_cons]at w;cases w with
  |cons a b=>
   cases a;exact .cons _ _ (ih _ b)
theorem CJ{l:OpenLaw}{n:Nat}(hn:l.most=some n){P:Params}{h:Heap}{args:List WData}{vals:List Value}
  (Hq:l.row.toRowW.claim.pre args=true) (Oj:WellAll P h vals args):
  ∃a vs ns,vals=[Value.ref a]∧args=[WData.list (ns.map WData.int)]∧h.get? a=some {cls:= .type "list",data:= .seq vs.toArray}∧IntsAre vs ns∧ns.length≤n:=by
 have Ol:WShape.hasAll [] args [.list .int]=true:=(pre_splitW Hq).1;have hc:l.pre.holds [] {args:=args}=true:=(pre_splitW Hq).2;obtain⟨d,r,rfl,h1,h2⟩:=hasAllW_cons Ol;obtain rfl:=hasAllW_nil h2;obtain⟨xs,rfl,h3⟩:=hasW_list h1;obtain⟨ns,rfl⟩:=items_int h3;have hlen:ns.length≤n:=by
  unfold OpenLaw.pre at hc;have h4:(WTm.not (.lt (.lit (.int (n:Int))) (.len (.arg 0)))).holds [] {args:=[.list (ns.map .int)]}=true:=by
   have h4:=(holds_andW hc).1;rw[hn]at h4;exact h4
  have h5:=condW_of h4 (w_not (w_lt w_lit (w_len_list (w_arg rfl))));rw[List.length_map]at h5;refine Nat.le_of_not_lt fun q=>?_
  have q':(n:Int)<((ns.length:Nat):Int):=ZV;first
   |(rw[decide_eq_true q']at h5;exact absurd h5 (WV))
   |(simp at h5;omega)
 cases Oj with
 |cons w1 w2=>
  cases w2;cases w1 with
  |list ho Ss=>exact⟨_,_,ns,rfl,rfl,ho,rW ns _ Ss,hlen⟩
theorem CK(l:OpenLaw)(args:List WData):l.row.toRowW.claim.post args (.bool true) args=true:=
 postW_of (r:=l.row.toRowW) (X:=(true==true))
  (show WShape.has [] (.bool true) .bool=true by first|rfl|decide|simp[WShape.has,WShape.arms,WShape.armsAll])
  (show(WTm.eq .res (.lit (.bool true))).value [] {args:=args,res:=some (.bool true),after:=args}=some (.bool (true==true))from w_eq_bool (w_res rfl) w_lit) rfl
theorem yR{l:OpenLaw}{n:Nat}{q:Program}{loose:List Str}{XP:(Str→Option Value)→Heap→Prop}{YP:World→Heap→Prop}{d:DefRec}
  (hn:l.most=some n) (Om:d.params.defaults=[])
  (call:∀(w:World)(dD cn:Shared)(mg mb:Str→Option Value)(fa:Addr)(o:Obj)(pm cd doc:Value)(a:Addr)(vs:List Value)(ns:List Int),
   Ground q loose [] XP w dD mg mb cn.heap→YP w cn.heap→
   cn.heap.get? fa=some o→o.data= .func (docDef d.name d.params d.body d.scope pm cd doc)→cn.heap.CodeRec cd d.name→mg d.name=some (.ref fa)→
   cn.heap.get? a=some {cls:= .type "list",data:= .seq vs.toArray}→IntsAre vs ns→ns.length≤n→cn.gens=#[]→
   codeAny (model l.prog w) callerA (.call (.ref fa) ⟨[.ref a],[]⟩) (fun r s'=>r= .ok (.ret (.bool true))∧OldK cn.heap s'.heap∧s'.os=cn.os∧AllBare s'.gens) cn):
  WalkO q loose XP YP l.row.toRowW d [] (fun f vs=>PySem.call f vs):=by
 intro w dD cn mg mb G Y fa o pm cd doc dV kV ho hd Cq hD Oo hg args vals as Hq aac aaO Oj MU;obtain rfl:dV= .none:=Dflts.none hD Om;obtain rfl:kV= .none:=Dflts.noKw hD;obtain⟨a,vs,ns,rfl,rfl,K4,hints,hlen⟩:=CJ hn Hq Oj;refine enter_call (codeAny_mono (call w dD cn mg mb fa o pm cd doc a vs ns G Y ho (fd_plain hd) Cq Oo K4 hints hlen hg) fun r s' hq=>?_);obtain⟨rfl,h2,h3,h4⟩:=hq;exact⟨.inl ⟨.bool true, .bool true,[],rfl,fun _=>rfl, .bool true,CK l _,fun _=>⟨List.Pairwise.nil,fun _ hm=>(nomatch hm)⟩⟩,h2,h3,h4⟩
section
variable{prog:Program}{w:World}{A:Around}{E:Value→Shared→Prop}{s:Shared}{K:Frag}
def ledger(h:Heap)(L d:Addr):List (Addr×Obj):=(ZR h.objs.size).filterMap fun a=>if a=L∨a=d then none else(h.get? a).map fun o=>(a,o)
end
end Vm
namespace L2
open PySem PySem.Spec PyProof.Rows
theorem vV:∀{vs:List Value}{ns:List Int},IntsAre vs ns→Vals (ns.map V.int) vs
 | _,_, .nil=> .nil
 | _,_, .cons n t h=> .cons ⟨t,rfl⟩ (vV h)
def K5(H:Hp):Prop:=∀b,H b=none∨∃o xs,H b=some (.sE o (.lst xs))
theorem EB{cm:Bool}{P:Program}{w:World}{K:PySem.W.Frag}{mg mb:Str→Option Value}{CX:Ei}{k:Nat}{fa a:Addr}{fd:FuncData}{x:Str}{sp:Sp}{cn:Shared}{vs:List Value}{ns:List Int}
  (KX:K.In cn.heap) (QA:cn.heap.Ns mainGlobals mg) (hb:cn.heap.Ns builtinsNs mb) (Xp:∀x:Str,x≠"__name__"→mb x=bootBuiltins x) (Su:cn.heap.NoLimit) (hg:cn.gens=#[])
  (ha:cn.heap.get? a=some {cls:= .type "list",data:= .seq vs.toArray}) (hi:IntsAre vs ns) (hl:ns.length≤sizeLine) (hr:eO cm k callerA)
  (F:∀base:Heap,K.In base→base.Ns mainGlobals mg→a7 P w K mg base CX cm k fa fd [x] sp) (Oq:∀(s:Shared)(u:Value),BindsTo s fd ⟨[u],[]⟩ [(x,u)])
  (Cz:∀H:Hp,K5 H→ir K H a (ns.map V.int)→sp [.ref a] H (fun v _=>v= .bl true) fun _ _ _=>False)
  (Sx:∀H e s',CX [] H cn (fun _ _ _=>False) e s'→False):
  codeAny (model P w) callerA (.call (.ref fa) ⟨[.ref a],[]⟩) (fun r s'=>r= .ok (.ret (.bool true))∧OldK cn.heap s'.heap∧s'.os=cn.os∧AllBare s'.gens) cn:=by
 have rv:=vV hi;have Sy:=hi.length;have core:∀H:Hp,K5 H→ir K H a (ns.map V.int)→lE P w H cn.heap→(∀b,H b≠none→b=a)→(H a≠none→K.lookup a=none)→
   codeAny (model P w) callerA (.call (.ref fa) ⟨[.ref a],[]⟩) (fun r s'=>r= .ok (.ret (.bool true))∧OldK cn.heap s'.heap∧s'.os=cn.os∧AllBare s'.gens) cn:=by
  intro H hO hS bX hA hK;have Bx:∀{b:Addr}{o:Obj},cn.heap.get? b=some o→H b=none→(wG cn.heap H).get? b=some o:=fun e n=>D7 e n
  have N8:∀{b:Addr}{o:Obj}{es:Array DictEntry}{ep:Nat},cn.heap.get? b=some o→o.data= .dict es ep→H b=none:=fun{b o es ep} e d=>by
   cases q:H b with
   |none=>rfl
   |some u=>
    have e':b=a:=hA b (by rw[q];simp);subst e';rw[ha]at e;cases e;have d':Data.seq vs.toArray _=Data.dict es ep:=d;cases d'
  have QB:∀{b:Addr}{m:Str→Option Value},cn.heap.Ns b m→(wG cn.heap H).Ns b m:=fun{b m} ⟨o,es,ep,e,d,r⟩=>⟨o,es,ep,Bx e (N8 e d),d,r⟩
  have Vn:K.In (wG cn.heap H):=fun b o e=>Bx (KX b o e) (by
   cases q:H b with
   |none=>rfl
   |some u=>
    have e':b=a:=hA b (by rw[q];simp);subst e';rw[hK (by rw[q];simp)]at e;cases e)
  have hM:Mod K mg (wG cn.heap H):=⟨Vn,QB QA,⟨mb,QB hb,Xp⟩,let ⟨mc,h1,h2⟩:=Su;⟨mc,QB h1,h2⟩⟩
  have e0:Ad P w K mg (wG cn.heap H) callerA [] cn H:=⟨rfl,hM,fun b o e=>GW e,Nat.le_of_eq (Co _ _),trivial,fun b hb=>absurd (show b∈([]:List Addr)from hb) (XC),bX, .of_eq hg⟩
  refine codeAny_mono ((F _ Vn (QB QA)).run callerA [] cn H ⟨[.ref a],[]⟩ [.ref a] [.ref a] _ _ hr e0 (Oq cn (.ref a)) (.cons rfl .nil) (Cz H hO hS)) fun r s' h=>?_
  cases r with
  |error e=>exact(Sx H e s' h).elim
  |ok fl=>
   cases fl with
   |next=>exact False.elim h
   |brk=>exact False.elim h
   |cont=>exact False.elim h
   |ret u=>
    obtain⟨v,H',os,bare,un,Sz,r',q⟩:=h;have q':v= .bl true:=q;subst q';obtain rfl:u=Value.bool true:=r';refine⟨rfl,OldK.of_keep fun b o e=>?_,os,bare⟩;cases q:H b with
    |none=>exact un.keep b o e q (by intro z;exact absurd (show b∈([]:List Addr)from z) (XC)) (XC)
    |some u=>
     rcases hO b with z|⟨ob,xs,z⟩
     ·rw[q]at z;cases z
     ·have z2:=un.ot b ob _ z;obtain⟨e1,_⟩:=bX b _ z;obtain⟨e2,_⟩:=Sz b _ z2;rw[e]at e1;cases e1;exact e2
 cases hk:K.lookup a with
 |some o=>
  have e:=KX a o hk;rw[ha]at e;cases e;refine core (fun _=>none) (fun _=> .inl rfl) (.inr ⟨_,vs.toArray,_,hk,rfl,rfl,rfl,by rw[List.size_toArray,Sy];exact hl,by simpa using rv⟩) (fun b u z=>by have z':(none:Option HO)=some u:=z;cases z') (fun b z=>absurd rfl z) fun z=>absurd rfl z
 |none=>
  refine core (fun b=>if b=a then some (.sE {cls:= .type "list",data:= .seq vs.toArray} (.lst (ns.map V.int)))else none) (fun b=>?_) (.inl (.inr ⟨{cls:= .type "list",data:= .seq vs.toArray},if_pos rfl⟩)) (fun b u z=>?_) (fun b z=>?_) fun _=>hk
  ·by_cases hb:b=a
   ·exact .inr ⟨_,_,MJ hb⟩
   ·exact .inl (Je hb)
  ·by_cases hb:b=a
   ·have z':=(MJ hb).symm.trans z;cases z';subst hb;exact⟨ha,by rw[List.length_map];exact hl,vs,_,rv,ha⟩
   ·have z':=(Je hb).symm.trans z;cases z'
  ·by_cases hb:b=a
   ·exact hb
   ·exact Z1 (Je hb) z
theorem Hr{cm:Bool}{l:PySem.W.OpenLaw}{n k:Nat}{q:Program}{loose:List Str}{XP:(Str→Option Value)→Heap→Prop}{YP:World→Heap→Prop}{d:DefRec}{K:Params→PySem.W.Frag}{CX:World→Ei}{sp:World→Sp}{x:Str}
  (hn:l.most=some n) (yr:n≤sizeLine) (Om:d.params.defaults=[]) (hr:eO cm k callerA)
  (hY:∀(w:World)(h:Heap),YP w h→(K w.params).In h)
  (F:∀(w:World)(mg:Str→Option Value)(fa:Addr)(h:Heap),(K w.params).In h→h.Ns mainGlobals mg→mg d.name=some (.ref fa)→
   ∃fd:FuncData,(∀(s:Shared)(u:Value),BindsTo s fd ⟨[u],[]⟩ [(x,u)])∧
    ∀base:Heap,(K w.params).In base→base.Ns mainGlobals mg→a7 l.prog w (K w.params) mg base (CX w) cm k fa fd [x] (sp w))
  (Cz:∀(w:World)(H:Hp)(a:Addr)(ns:List Int),ns.length≤n→K5 H→ir (K w.params) H a (ns.map V.int)→sp w [.ref a] H (fun v _=>v= .bl true) fun _ _ _=>False)
  (Sx:∀(w:World)(H:Hp)(s:Shared)(e:Value)(s':Shared),CX w [] H s (fun _ _ _=>False) e s'→False):
  PySem.W.WalkO q loose XP YP l.row.toRowW d [] (fun f vs=>PySem.call f vs):=by
 refine Vm.yR hn Om fun w dD cn mg mb fa o pm cd doc a vs ns G Y ho hd Cq Oo K4 hints hlen hg=>?_
 have KX:=hY w _ Y;obtain⟨fd,hb,hF⟩:=F w mg fa _ KX G.T.g Oo;exact EB KX G.T.g G.T.b G.T.builtins G.T.nolimit hg K4 hints (Nat.le_trans hlen yr) hr hF hb (fun H hO hS=>Cz w H a ns hlen hO hS) fun H e s'=>Sx w H cn e s'
def inClass(s:Stmt)(j:Nat):Stmt:=match s with
 | .ClassDef _ _ _ body _ _ _ _ _ _ _=>body.getD j (.Pass ⟨0,0,0,0⟩)
 | _=> .Pass ⟨0,0,0,0⟩
def fL(s:Stmt):Arguments:=match s with
 | .FunctionDef _ a _ _ _ _ _ _ _ _=>a
 | _=>{posonlyargs:=[],args:=[],vararg:=none,kwonlyargs:=[],kw_defaults:=[],kwarg:=none,defaults:=[]}
def eG(s:Stmt):List Stmt:=match s with
 | .FunctionDef _ _ b _ _ _ _ _ _ _=>b
 | _=>[]
def au(s:Stmt):Scope:=match s with
 | .FunctionDef _ _ _ _ _ _ sc _ _ _=>sc
 | _=>{kind:= .function,names:=[],isGenerator:=false,isCoroutine:=false}
abbrev E0:XK:=fun _ _ _=>False
structure ju(K:PySem.W.Frag)(x qual:Str)(st:Stmt)(f:Addr)(fd:FuncData):Prop where
 ex:∃(oc:Value)(od:Option Addr)(kV doc pm:Value)(an:Option Addr)(bU ct:Value)(Bu:Array (Option Value)),
  fd=PySem.W.fnOf x qual (fL st) (eG st) (au st) .none kV doc pm an bU ct∧K.lookup f=some ⟨oc,od, .func fd,Bu⟩∧PySem.W.codeIn K bU qual=true
 kp:PySem.W.keepIn K (.ref f)=true
section
variable{P:Program}{w:World}{K:PySem.W.Frag}{mg:Str→Option Value}{base:Heap}
theorem ju.binds{x qual:Str}{st:Stmt}{f:Addr}{fd:FuncData}{ps:List Str}(F:ju K x qual st f fd)
  (h:∀(kV doc pm:Value)(an:Option Addr)(bU ct:Value)(us:List Value),us.length=ps.length→bindArgs (PySem.W.fnOf x qual (fL st) (eG st) (au st) .none kV doc pm an bU ct) ⟨us,[]⟩=pure (ps.zip us)):Binds K fd ps []:=by
 obtain⟨oc,od,kV,doc,pm,an,bU,ct,Bu,rfl,lk,Cq⟩:=F.ex;exact .all (h kV doc pm an bU ct)
theorem EC{x qual:Str}{st:Stmt}{f:Addr}{oc:Value}{od an:Option Addr}{Bu:Array (Option Value)}{kV doc pm bU ct:Value}(l:K.lookup f=some ⟨oc,od, .func (PySem.W.fnOf x qual (fL st) (eG st) (au st) .none kV doc pm an bU ct),Bu⟩)
  (c:PySem.W.codeIn K bU qual=true) (k:PySem.W.keepIn K (.ref f)=true):ju K x qual st f (PySem.W.fnOf x qual (fL st) (eG st) (au st) .none kV doc pm an bU ct):=⟨⟨oc,od,kV,doc,pm,an,bU,ct,Bu,rfl,l,c⟩,k⟩
end
section
variable{X:Cx}
theorem pv(i:Nat){x:Str}{pos:Pos}(hN:X.N[i]?=some x:=by rfl)(hv:RO X.env.scope x:=by first|exact Or.inl rfl|exact Or.inr (Or.inl rfl)|exact Or.inr (Or.inr rfl))(hd:(x==("__debug__":Str))=false:=by decide)
  (Cq:(x==("__classdict__":Str))=false:=by decide):PE X (.Name x pos) (Kn i):=Ko hN hv hd Cq
end
theorem gc{A B:Prop}(h:B):if false=true then A else B:=by
 rw[Je Bool.false_ne_true];exact h
theorem jS{A B:Prop}(h:A):if true=true then A else B:=by
 rw[if_pos rfl];exact h
theorem bb{c A B:Prop}[Decidable c](h1:c→A)(h2:¬c→B):if c then A else B:=by
 by_cases h:c
 ·rw[MJ h];exact h1 h
 ·rw[Je h];exact h2 h
def av(H H':Hp):Prop:=∀b o,H b=some o→H' b=some o
theorem av.refl(H:Hp):av H H:=fun _ _ h=>h
theorem av.trans{H H1 H2:Hp}(a:av H H1)(b:av H1 H2):av H H2:=fun c o h=>b c o (a c o h)
theorem av.free{H H':Hp}(e:av H H'){l:Addr}(h:H' l=Option.none):H l=Option.none:=by
 cases q:H l with
 |none=>rfl
 |some o=>
  rw[e l o q]at h;cases h
theorem av.seq{K:PySem.W.Frag}{H H':Hp}{a:Addr}{xs:List V}(e:av H H')(h:ir K H a xs):ir K H' a xs:=by
 rcases h with(h|⟨o,h⟩)|h
 ·exact .inl (.inl (e _ _ h))
 ·exact .inl (.inr ⟨o,e _ _ h⟩)
 ·exact .inr h
section
variable{κ:Type}[DecidableEq κ]
theorem yS{kvs:List (κ×V)}{k:κ}(h:bA kvs k=none):¬k∈kvs.map (·.1):=by
 intro m;obtain⟨p,hp,e⟩:=List.mem_map.mp m;have q:(kvs.any fun kv=>decide (kv.1=k))=true:=List.any_eq_true.mpr ⟨p,hp,decide_eq_true e⟩;rw[ie,h]at q;exact absurd q Vs
theorem By{kvs:List (κ×V)}{k:κ}{v:V}(h:bA kvs k=some v):k∈kvs.map (·.1):=by
 have q:(kvs.any fun kv=>decide (kv.1=k))=true:=by
  rw[ie,h];all_goals rfl
 obtain⟨p,hp,e⟩:=List.any_eq_true.mp q;exact List.mem_map.mpr ⟨p,hp,of_decide_eq_true e⟩
end
end L2
namespace L2
open PySem PySem.Spec PyProof.Rows PySem.W
def cX(P:Program)(w:World):Ei:=fun outer H s E e s'=>
 ∃(ea:Addr)(cls a0:Value)(B:Heap)(H':Hp),e= .ref ea∧s'.os=s.os∧AllBare s'.gens∧Heap.FlyingW B outer ea cls a0 s'.heap∧
  Un (oj outer) [] H H' s.heap s'.heap∧lE P w H' B∧(∀b o,s.heap.get? b=some o→H b=none→b∉oj outer→B.get? b=some o)∧(∀b o,s.heap.get? b=some o→b∉oj outer→∃o',B.get? b=some o')∧E cls none H'
theorem aQ{P:Program}{w:World}{X:Cx}:Passes (cX P w) X (fun _=>E0):=fun _ _ _ _ _ _ _ ⟨_,_,_,_,_,_,_,_,_,_,_,_,_,h⟩=>h.elim
structure QC(X:Cx)(E:St→XK):Prop where
 raise:∀(pins:List (Addr×Obj))(σ:St)(H:Hp)(s:Shared)(h':Heap)(e:Addr)(cls:Value)(args:List Value),Inv X pins σ H s→Heap.MadeExcOf s.heap h' e cls args→E σ cls none H→X.xe (.ref e) {s with heap:=h'}
 pass:Passes (cX X.prog X.w) X E
 own:PassesOwn (model X.prog X.w) X.A X.env X.xe
theorem lE.hide{P:Program}{w:World}{H:Hp}{h:Heap}{as:List Addr}(ok:lE P w H h)(hf:∀b∈as,H b=none):lE P w H (hideAll h as):=fun a o e=>
 (ok a o e).wF (fun b u hb q=>hideAll_get _ q fun hm=>by
  rcases hb with rfl|hb
  ·rw[hf _ hm]at e;cases e
  ·rw[hf _ hm]at hb;cases hb) (fun b q=>q) fun b xs q=>q
section
variable{P:Program}{w:World}{K:PySem.W.Frag}{mg:Str→Option Value}{base:Heap}{N:List Str}{qual:Str}{scope:Scope}{f:Addr}{cd:Value}{A:Around}{outer:List Env}{s:Shared}{H:Hp}{E:XK}{cm:Bool}
theorem Ak{P:Program}{w:World}{H:Hp}{h:Heap}{a:Addr}{o:HO}(x:cR P w H h a o):∃q,h.get? a=some q:=by
 cases o with
 |lst xs=>obtain⟨_,its,n,_,e⟩:=x;exact⟨_,e⟩
 |tup xs=>obtain⟨_,its,_,o,e,_⟩:=x;exact⟨_,e⟩
 |dK kvs=>obtain⟨_,_,vs,_,o,es,ep,e,_⟩:=x;exact⟨_,e⟩
 |dT kvs=>obtain⟨_,_,xs,_,o,es,ep,e,_⟩:=x;exact⟨_,e⟩
 |set S n=>obtain⟨o,es,ep,t,e,_⟩:=x;exact⟨_,e⟩
 |ins C dx fs=>obtain⟨_,_,_,e,_⟩:=x;exact⟨_,e⟩
 |own y=>exact x
 |xd fs=>obtain⟨mA,⟨o,es,ep,e,_⟩,_⟩:=x;exact⟨_,e⟩
 |met f y=>exact⟨_,x⟩
 |Qp lo hi=>obtain⟨t,u,v,e⟩:=x;exact⟨_,e⟩
 |sE o u=>exact⟨_,x.1⟩
 |GV ps=>exact⟨_,x⟩
 |ext φ=>exact x.2.1
theorem Bz:QC (Af (cX P w) cm P w K mg base N qual scope f cd A outer s H E) (fun _=>E):=by
 refine⟨?_,?_,PassesOwn.leaving⟩
 ·intro pins σ H1 s1 h' e cls args I hx hE;have SA:(A.deeper (envOfC qual scope s.heap.objs.size f cd)).frames=some (envOfC qual scope s.heap.objs.size f cd::outer):=I.ok.frames;have uN:s1.heap.FunFrames base (envOfC qual scope s.heap.objs.size f cd::outer):=I.stack;have lJ:∀env∈(envOfC qual scope s.heap.objs.size f cd::outer),∀b,env.frame=some b→b∈(envOfC qual scope s.heap.objs.size f cd::outer).filterMap (·.frame):=fun env he b hb=>List.mem_filterMap.mpr ⟨env,he,hb⟩
  have Bj:∀b∈(envOfC qual scope s.heap.objs.size f cd::outer).filterMap (·.frame),H1 b=none:=I.wH;show wpAny (model P w) (A.deeper (envOfC qual scope s.heap.objs.size f cd)) (leaving (envOfC qual scope s.heap.objs.size f cd) (.ref e)) (fun _ wM=>cX P w outer H s E (.ref e) wM) (fun e' wM=>cX P w outer H s E e' wM) {s1 with heap:=h'};have Al:∀b o,s.heap.get? b=some o→b∉oj outer→b∉(envOfC qual scope s.heap.objs.size f cd::outer).filterMap (·.frame):=fun b o q hb hm=>by
   obtain⟨env,he,hf⟩:=List.mem_filterMap.mp hm;rcases List.mem_cons.mp he with rfl|he
   ·have z:s.heap.objs.size=b:=Option.some.inj hf;exact Z1 (ZS q) (by rw[z];exact Nat.lt_irrefl _)
   ·exact hb (List.mem_filterMap.mpr ⟨env,he,hf⟩)
  refine wpAny_leaves_madeW (s:={s1 with heap:=h'}) (h:=s1.heap) (base:=hideAll s1.heap ((envOfC qual scope s.heap.objs.size f cd::outer).filterMap (·.frame))) (L:=s.heap.objs.size) SA rfl (fun b o q=>of_hideAll _ q) (funFrames_hide uN lJ) hx fun h2 t x1 x2 x3 x4=>?_
  have bs:Un (oj outer) [] H H1 s.heap s1.heap:=I.base;have kB:∀b o,s.heap.get? b=some o→H b=none→b∉oj outer→(hideAll s1.heap ((envOfC qual scope s.heap.objs.size f cd::outer).filterMap (·.frame))).get? b=some o:=fun b o q hn hb=>
   hideAll_get _ (bs.keep b o q hn hb Vs) (Al b o q hb)
  have hB:lE P w H1 (hideAll s1.heap ((envOfC qual scope s.heap.objs.size f cd::outer).filterMap (·.frame))):=I.bX.hide Bj;refine⟨e,cls, .ref t,_,H1,rfl,I.os,I.bare,x1,?_,hB,kB,fun b o q hb=>?_,hE⟩
  rotate_left
  ·obtain⟨o',e1⟩:=bs.there b o q Vs;exact⟨o',hideAll_get _ e1 (Al b o q hb)⟩
  refine⟨fun b o q hn hb _=>x1.1 b o (kB b o q hn hb),fun b o q hn hb _=>?_,fun b o q hn _=>bs.free b o q hn Vs,fun b o q _=>?_,bs.cD,bs.ot,bs.rT⟩
  ·obtain⟨sl,e1⟩:=bs.slot b o q hn hb Vs;have Jm:s1.heap.FunFrames base outer:=uN.2.2;obtain⟨_,o2,e2,Hs⟩:=Jm.mem hb;rw[e1]at e2;cases e2;obtain⟨yt,e3⟩:=x4 b _ (hx.keeps _ _ e1) Hs;exact⟨yt,e3⟩
  ·cases q1:H1 b with
   |some u=>
    obtain⟨oo,z⟩:=Ak (hB b u q1);exact⟨oo,x1.1 b oo z⟩
   |none=>
    cases q0:H b with
    |none=>
     by_cases hb:b∈oj outer
     ·obtain⟨sl,e1⟩:=bs.slot b o q q0 hb Vs;have Jm:s1.heap.FunFrames base outer:=uN.2.2;obtain⟨_,o2,e2,Hs⟩:=Jm.mem hb;rw[e1]at e2;cases e2;obtain⟨yt,e3⟩:=x4 b _ (hx.keeps _ _ e1) Hs;exact⟨_,e3⟩
     ·exact⟨o,x1.1 b o (kB b o q q0 hb)⟩
    |some u=>
     obtain⟨o',e1⟩:=bs.there b o q Vs;by_cases hb:b∈oj outer
     ·have Jm:s1.heap.FunFrames base outer:=uN.2.2;obtain⟨_,o2,e2,Hs⟩:=Jm.mem hb;obtain⟨yt,e3⟩:=x4 b _ (hx.keeps _ _ e2) Hs;exact⟨_,e3⟩
     ·exact⟨o',x1.1 b o' (hideAll_get _ e1 (Al b o q hb))⟩
 ·rintro pins σ H1 s1 e s2 I ⟨ea,cls,a0,B,H',rfl,os,bare,K6,un,hB,kB,tB,hE⟩;have SA:(A.deeper (envOfC qual scope s.heap.objs.size f cd)).frames=some (envOfC qual scope s.heap.objs.size f cd::outer):=I.ok.frames;show wpAny (model P w) (A.deeper (envOfC qual scope s.heap.objs.size f cd)) (leaving (envOfC qual scope s.heap.objs.size f cd) (.ref ea)) (fun _ wM=>cX P w outer H s E (.ref ea) wM) (fun e' wM=>cX P w outer H s E e' wM) s2;have K6:Heap.FlyingW B (envOfC qual scope s.heap.objs.size f cd::outer) ea cls a0 s2.heap:=K6;have un:Un (oj (envOfC qual scope s.heap.objs.size f cd::outer)) [] H1 H' s1.heap s2.heap:=un;have kB:∀b o,s1.heap.get? b=some o→H1 b=none→b∉oj (envOfC qual scope s.heap.objs.size f cd::outer)→B.get? b=some o:=kB;have Al:∀b o,s.heap.get? b=some o→b∉oj outer→b∉oj (envOfC qual scope s.heap.objs.size f cd::outer):=fun b o q hb hm=>by
   obtain⟨env,he,hf⟩:=List.mem_filterMap.mp hm;rcases List.mem_cons.mp he with rfl|he
   ·have z:s.heap.objs.size=b:=Option.some.inj hf;exact Z1 (ZS q) (by rw[z];exact Nat.lt_irrefl _)
   ·exact hb (List.mem_filterMap.mpr ⟨env,he,hf⟩)
  have SD:∀b,b∈oj outer→b∈oj (envOfC qual scope s.heap.objs.size f cd::outer):=fun b hb=>by
   obtain⟨env,he,hf⟩:=List.mem_filterMap.mp hb;exact List.mem_filterMap.mpr ⟨env,Θ he,hf⟩
  have bs:Un (oj outer) [] H H1 s.heap s1.heap:=I.base;refine wpAny_leaves_onW (L:=s.heap.objs.size) SA rfl K6 fun h2 x1 x4=>?_
  have Vo:∀b o,s.heap.get? b=some o→H b=none→b∉oj outer→B.get? b=some o:=fun b o q hn hb=>kB b o (bs.keep b o q hn hb Vs) (bs.free b o q hn Vs) (Al b o q hb)
  have Jm:s2.heap.FunFrames B outer:=K6.2.2.1.2.2;refine⟨ea,cls,a0,B,H',rfl,os.trans I.os,bare,x1,?_,hB,Vo,fun b o q hb=>?_,hE⟩
  rotate_left
  ·obtain⟨o',e1⟩:=bs.there b o q Vs;exact tB b o' e1 (Al b o q hb)
  refine⟨fun b o q hn hb _=>x1.1 b o (Vo b o q hn hb),fun b o q hn hb _=>?_,fun b o q hn _=>?_,fun b o q _=>?_,fun b xs q=>un.cD b xs (bs.cD b xs q),fun b o u q=>un.ot b o u (bs.ot b o u q),fun b ps q=>?_⟩
  ·obtain⟨sl,e1⟩:=bs.slot b o q hn hb Vs;obtain⟨aaZ,e2⟩:=un.slot b _ e1 (bs.free b o q hn Vs) (SD b hb) (XC);obtain⟨_,o2,e3,Hs⟩:=Jm.mem hb;rw[e2]at e3;cases e3;obtain⟨yt,e4⟩:=x4 b _ e2 Hs;exact⟨yt,e4⟩
  ·by_cases hb:b∈oj outer
   ·obtain⟨sl,e1⟩:=bs.slot b o q hn hb Vs;exact un.free b _ e1 (bs.free b o q hn Vs) (XC)
   ·exact un.free b o (bs.keep b o q hn hb Vs) (bs.free b o q hn Vs) (XC)
  ·obtain⟨o',e1⟩:=bs.there b o q Vs;obtain⟨o2,e2⟩:=un.there b o' e1 Vs;by_cases hb:b∈oj outer
   ·obtain⟨_,o3,e3,Hs⟩:=Jm.mem hb;obtain⟨yt,e4⟩:=x4 b _ e3 Hs;exact⟨_,e4⟩
   ·obtain⟨o3,e3⟩:=tB b o' e1 (Al b o q hb);exact⟨o3,x1.1 b o3 e3⟩
  ·obtain⟨more,z⟩:=bs.rT b ps q;obtain⟨Ot,z2⟩:=un.rT b _ z;exact⟨more++Ot,by rw[z2,Array.append_assoc]⟩
end
end L2
namespace L2
open PySem PySem.Spec PyProof.Rows PySem.W PySem.Calls Builtin Builtin.ObjectAttr Builtin.Getset_descriptor
section
variable{prog:Program}{w:World}{A:Around}{E:Value→Shared→Prop}{K:Frag}{x C:Addr}{o:Obj}{hh:Heap}{g:Array GenState}{d:Drawn}{t:Nat}{os:OsState}
end
structure Ou(K:Frag)(C:Addr):Prop where
 ex:excIn K C [.type "ValueError", .type "Exception", .type "BaseException", .type "object"] "ValueError.__new__"=true
 cl:findIn K (.ref C) "__class__"=some (some (.builtin "object.__class__"))
 ob:mroIn K C (.type "object")=some true
 be:mroIn K C (.type "BaseException")=some true
 ga:findIn K (.ref C) "__getattribute__"=some (some (.builtin "BaseException.__getattribute__"))
 gn:findIn K (.ref C) "__getattr__"=some none
 tu:instIn K (.ref C) (.type "tuple")=some false
 kp:keepIn K (.ref C)=true
end L2
namespace L2
open PySem PySem.Spec PyProof.Rows PySem.W PySem.Calls
theorem Ht{K:Frag}{h:Heap}{C:Addr}{Vp:List Value}{newId:String}(X:K.In h)(q:excIn K C Vp newId=true):
  ∃bm N nm qn bs hdct sn sub ab col dd k0 k1 k2 k3 k5 mN,h.get? C=some (excClassObj nm qn C N bs bm hdct sn sub ab col dd k0 k1 k2 k3 k5 newId)∧h.Ns N mN∧mN "__init__"=none∧OwnTail h Vp bm:=by
 unfold excIn at q;split at q
 ·rename_i dd cd sl ho
  split at q
  ·rename_i C' bm k0 k1 k2 k3 n k5 hm hs
   simp only[Bool.and_eq_true,beq_iff_eq,Bool.not_eq_true']at q;obtain⟨⟨⟨⟨⟨rfl,rfl⟩,Ov⟩,ht⟩,bX⟩,QD⟩:=q;obtain⟨nm,bs,mro,ns,qn,hd,sn,sub,ab,col,del⟩:=cd;dsimp only at hm Ov bX QD;subst hm Ov;have SE:sl=#[k0,k1,k2,k3,some (.builtin n),k5]:=by
    obtain⟨l⟩:=sl;simp only at hs;rw[hs]
   subst SE;exact⟨bm,ns,nm,qn,bs,hd,sn,sub,ab,col,dd,k0,k1,k2,k3,k5,_,X _ _ ho, .of_isNs (isNs_of_in X bX),nsMap_none_of_in X bX QD,tail_of_in X ht⟩
  ·cases q
 ·cases q
section
variable{X:Cx}{x:Str}{np eD pos:Pos}{e:Expr}{es:List Expr}{t:TA}{C:Addr}{E:St→XK}
def K7(C:Addr)(E:St→XK)(t:TA):TS:=fun _ σ H=>t σ H fun vs H1=>vs.length≤sizeLine∧E σ (.ref C) none H1
theorem i8(hX:QC X E)(hc:X.calm=true)(hg:Gl X x)(hm:X.mg x=some (.ref C))(c:Ou X.K C)(ha:PA X (e::es) t)(wL:(x==("__debug__":Str))=false:=by decide)
  (he:starEach (e::es) X.env=(false,eval e X.env)::starEach es X.env:=by rfl) (rG:(backTo eD (starEach es X.env)).any (·.1)=false:=by rfl):
  PS X (.Raise (some (.Call (.Name x np) (e::es) [] eD)) none pos) (K7 C E t):=by
 intro pins s σ H D I h;obtain⟨bm,N,nm,qn,bs,hdct,sn,sub,ab,col,dd,k0,k1,k2,k3,k5,mN,hC,hN,QD,T⟩:=Ht I.ok.mod.MN c.ex;refine wpAny_Raise_call_subT (C:=C) (nm:=nm) (q:=qn) (N:=N) (bs:=bs) (bm:=bm) (hdct:=hdct) (sn:=sn) (sub:=sub) (ab:=ab) (col:=col) (dd:=dd) (k0:=k0) (k1:=k1) (k2:=k2) (k3:=k3) (k5:=k5)
  F.excBase_ValueError (mN:=mN) (T.hasType F.excBase_ValueError.hasBase) (I.ok.hd hc) (by rw[he];show(false||(backTo eD (starEach es X.env)).any (·.1))=false;rw[rG];rfl) QD (ow I hg hm ⟨rfl,?_⟩ wL)
 have hq:=cJ (ha eD pins s σ H _ I h) fun us s2 ⟨vs,H2,I2,r2,q2⟩=>show us.length≤sizeLine∧(∀b o,X.base.get? b=some o→s2.heap.get? b=some o)∧∀h' e,Heap.MadeExcOf s2.heap h' e (.ref C) us→X.xe (.ref e) {s2 with heap:=h'}from
  ⟨by rw[←r2.length];exact q2.1,I2.bk,fun h' e hx=>hX.raise pins σ H2 s2 h' e (.ref C) us I2 hx q2.2⟩
 rw[he]at hq⊢;exact evalArgs_plain (wpAny_mono hq (fun vs s2 h2=>⟨rfl,h2.1,h2.2.1 _ _ hC,hN.keeps h2.2.1,T.keeps h2.2.1,h2.2.2⟩) fun _ _ y=>y)
end
section
variable{X:Cx}{e v1 v2:Expr}{es:List Expr}{te:TE}{pos:Pos}
def SF(te:TE):TE:=fun σ H Q=>te σ H fun x H1=>(∃y,x= .str y∧y.length≤sizeLine∧Q (.str y) H1)∨∃i:Int,x= .int i∧i.natAbs.log2<1920∧Q (.str (toString i)) H1
theorem qv(h:PE X e te):PE X (.FormattedValue e (-1) none pos) (SF te):=by
 intro pins s σ H Q I hq;refine FormattedValue_plain (cJ (h pins s σ H _ I hq) fun u s1 ⟨x,H1,I1,r1,q1⟩=>?_);rcases q1 with⟨y,rfl,hy,q⟩|⟨i,rfl,hi,q⟩
 ·obtain⟨t,rfl⟩:=r1;exact formatField_str (fun t' tk=>⟨.str y,H1,I1.tok _,⟨_,rfl⟩,q⟩) hy
 ·obtain⟨t,rfl⟩:=r1;exact formatField_int_small hi ⟨.str (toString i),H1,I1.tok _,⟨_,rfl⟩,q⟩
abbrev TJ:=Str→TE
def PJ(X:Cx)(es:List Expr)(t:TJ):Prop:=
 ∀(acc:Str)(pins:List (Addr×Obj))(s:Shared)(σ:St)(H:Hp)(Q:VK),Inv X pins σ H s→t acc σ H Q→wpAny (model X.prog X.w) X.A (joinParts acc (evalEach es X.env)) (EP X pins σ Q) X.xe s
def Ow:TJ:=fun acc _ H Q=>acc.length≤sizeLine∧Q (.str acc) H
def K8(te:TE)(t:TJ):TJ:=fun acc σ H Q=>te σ H fun x H1=>∃y,x= .str y∧(acc++y).length≤sizeLine∧t (acc++y) σ H1 Q
theorem w6:PJ X [] Ow:=fun acc _ s σ H Q I h=>joinParts_nil ⟨.str acc,H,I.tok _,⟨_,rfl⟩,h.2⟩ h.1
theorem fu{t:TJ}(h1:PE X e te)(h2:PJ X es t):PJ X (e::es) (K8 te t):=by
 intro acc pins s σ H Q I h;refine joinParts_cons (cJ (h1 pins s σ H _ I h) fun u s1 ⟨x,H1,I1,r1,y,e,hl,q⟩=>?_);subst e;obtain⟨tk,rfl⟩:=r1;exact⟨hl,h2 _ pins s1 σ H1 Q I1 q⟩
theorem mn{t:TJ}(h:PJ X (v1::v2::es) t):PE X (.JoinedStr (v1::v2::es) pos) (t Str.empty):=fun pins s σ H Q I hq=>JoinedStr_many (h Str.empty pins s σ H Q I hq)
end
abbrev Cx.Ox(X:Cx)(e:Addr):Cx:={X with A:=X.A.mark (some (.ref e)),calm:=false,xe:=fun _ _=>False}
section
variable{X:Cx}{pins:List (Addr×Obj)}{σ:St}{H:Hp}{s:Shared}{ea C:Addr}{B:Heap}{a0:Value}
end
abbrev TH:=Addr→TS
def Ends.drop(D:Ends)(i:Nat):Ends:={nx:=fun σ H=>D.nx (σ.set i none) H,rt:=D.rt,bk:=fun σ H=>D.bk (σ.set i none) H,ct:=fun σ H=>D.ct (σ.set i none) H}
section
variable{X:Cx}{x n:Str}{np pos:Pos}{b0:Stmt}{Ox:List Stmt}{rest:List ExceptHandler}{ts:TS}{tr:TH}{Dc:Addr}{i:Nat}
end
def fS(env:Env):List (Str×NameKind)→List (Str×Addr)→List (Str×Addr)
 |[],acc=>acc
 |(n,k)::r,acc=>if k= .free then fS env r ((n,(env.cells.lookup n).getD 0)::acc)else fS env r acc
theorem w8{env:Env}{scope:Scope}(h:∀x∈scope.names,x.2= .free→∃c,env.cells.lookup x.1=some c):closureFor scope env=pure (fS env scope.names []):=by
 unfold closureFor
 suffices H:∀(l:List (Str×NameKind))(acc:List (Str×Addr)),(∀x∈l,x.2= .free→∃c,env.cells.lookup x.1=some c)→
   (forIn l acc fun(x:Str×NameKind)(cs:List (Str×Addr))=>if (x.2==NameKind.free)=true then do let c←cellOf env x.1;pure (ForInStep.yield ((x.1,c)::cs))else pure (ForInStep.yield cs):Sem (List (Str×Addr)))=pure (fS env l acc) by
  have:=H scope.names [] h;simpa using this
 intro l
 induction l with
 |nil=>intro acc _;rfl
 |cons x r ih=>
  intro acc hl;obtain⟨n,k⟩:=x;rw[List.forIn_cons];by_cases hk:k= .free
  ·subst hk;obtain⟨c,hc⟩:=hl (n, .free) List.mem_cons_self rfl;have Km:env.cells.lookup n=some c:=hc;simp only[beq_self_eq_true,if_true,cellOf,Km,fS,Option.getD_some];show(pure _>>=_)=_;rw[pure_bind];exact ih _ fun y hy=>hl y (Θ hy)
  ·have hb:(k==NameKind.free)=false:=by simpa using hk
   simp only[hb,Bool.false_eq_true,if_false,fS,hk];rw[pure_bind];exact ih _ fun y hy=>hl y (Θ hy)
theorem j8{env:Env}{x:Str}{c:Addr}:∀{l:List (Str×NameKind)}{acc:List (Str×Addr)},(∀y∈l,y.2= .free→∃c,env.cells.lookup y.1=some c)→
  (∀y d,acc.lookup y=some d→env.cells.lookup y=some d)→(fS env l acc).lookup x=some c→env.cells.lookup x=some c
 |[],acc,_,ha,h=>ha x c h
 |(n,k)::r,acc,hl,ha,h=>by
  unfold fS at h;have hr:∀y∈r,y.2= .free→∃c,env.cells.lookup y.1=some c:=fun y hy=>hl y (Θ hy)
  split at h
  ·rename_i hk
   obtain⟨d,hd⟩:=hl (n,k) List.mem_cons_self hk;refine j8 hr (fun y e he=>?_) h;rw[List.lookup_cons]at he;split at he
   ·rename_i q
    have q':y=n:=by simpa using q
    subst q';have MO:env.cells.lookup y=some d:=hd;rw[MO,Option.getD_some]at he;cases he;exact MO
   ·exact ha y e he
  ·exact j8 hr ha h
theorem oI{env:Env}{x:Str}:∀{l:List (Str×NameKind)}{acc:List (Str×Addr)},((x,NameKind.free)∈l∨∃c,acc.lookup x=some c)→∃c,(fS env l acc).lookup x=some c
 |[],acc,h=>by
  rcases h with h|h
  ·simp at h
  ·exact h
 |(n,k)::r,acc,h=>by
  unfold fS;split
  ·rename_i hk
   refine oI ?_;rcases h with h|⟨c,h⟩
   ·rcases List.mem_cons.mp h with e|e
    ·injection e with e1 e2;subst e1;exact .inr ⟨(env.cells.lookup x).getD 0,by simp[List.lookup_cons]⟩
    ·exact .inl e
   ·by_cases q:x=n
    ·subst q;exact .inr ⟨(env.cells.lookup x).getD 0,by simp[List.lookup_cons]⟩
    ·refine .inr ⟨c,?_⟩;rw[List.lookup_cons];have:(x==n)=false:=by simpa using q
     rw[this];exact h
  ·rename_i hk
   refine oI ?_;rcases h with h|h
   ·rcases List.mem_cons.mp h with e|e
    ·injection e with e1 e2;exact Z1 e2.symm hk
    ·exact .inl e
   ·exact .inr h
theorem oJ{env:Env}{x:Str}:∀{names:List (Str×NameKind)},names.lookup x=some .free→
  (names.map fun(n,k)=>if (k==NameKind.free&&env.scope.kind== .function&&env.kindOf n==some .cell)then(n,NameKind.cell)else(n,k)).lookup x=some .cell∨
  (names.map fun(n,k)=>if (k==NameKind.free&&env.scope.kind== .function&&env.kindOf n==some .cell)then(n,NameKind.cell)else(n,k)).lookup x=some .free
 |[],h=>by simp at h
 |(n,k)::r,h=>by
  have ih:=@oJ env x r;show List.lookup x ((if (k==NameKind.free&&env.scope.kind== .function&&env.kindOf n==some .cell)=true then(n,NameKind.cell)else(n,k))::_)=_∨List.lookup x ((if (k==NameKind.free&&env.scope.kind== .function&&env.kindOf n==some .cell)=true then(n,NameKind.cell)else(n,k))::_)=_;rw[List.lookup_cons]at h;by_cases hc:(k==NameKind.free&&env.scope.kind== .function&&env.kindOf n==some .cell)=true
  ·rw[MJ hc,List.lookup_cons];cases hx:x==n with
   |true=>exact .inl rfl
   |false=>rw[hx]at h;exact ih h
  ·rw[Je hc,List.lookup_cons];cases hx:x==n with
   |true=>rw[hx]at h;exact .inr h
   |false=>rw[hx]at h;exact ih h
theorem oK{env:Env}{x:Str}:∀{names:List (Str×NameKind)},(∀y∈names,y.2≠ .cell)→
  ((names.map fun(n,k)=>if (k==NameKind.free&&env.scope.kind== .function&&env.kindOf n==some .cell)then(n,NameKind.cell)else(n,k)).lookup x=some .cell∨
  (names.map fun(n,k)=>if (k==NameKind.free&&env.scope.kind== .function&&env.kindOf n==some .cell)then(n,NameKind.cell)else(n,k)).lookup x=some .free)→(x,NameKind.free)∈names
 |[],_,h=>by simp at h
 |(n,k)::r,hc,h=>by
  have ih:=@oK env x r fun y hy=>hc y (Θ hy)
  have h2:List.lookup x ((if (k==NameKind.free&&env.scope.kind== .function&&env.kindOf n==some .cell)=true then(n,NameKind.cell)else(n,k))::_)=_∨List.lookup x ((if (k==NameKind.free&&env.scope.kind== .function&&env.kindOf n==some .cell)=true then(n,NameKind.cell)else(n,k))::_)=_:=h;clear h;by_cases hq:(k==NameKind.free&&env.scope.kind== .function&&env.kindOf n==some .cell)=true
  ·rw[MJ hq,List.lookup_cons]at h2;cases hx:x==n with
   |true=>
    have e:x=n:=by simpa using hx
    subst e;have hk:k= .free:=by
     rw[Bool.and_eq_true,Bool.and_eq_true]at hq;simpa using hq.1.1
    subst hk;exact List.mem_cons_self
   |false=>rw[hx]at h2;exact Θ (ih h2)
  ·rw[Je hq,List.lookup_cons]at h2;cases hx:x==n with
   |true=>
    rw[hx]at h2;have e:x=n:=by simpa using hx
    subst e;rcases h2 with h|h
    ·have h':some k=some NameKind.cell:=h;exact Z1 (ZO h') (hc (x,k) List.mem_cons_self)
    ·have h':some k=some NameKind.free:=h;rw[ZO h'];exact List.mem_cons_self
   |false=>rw[hx]at h2;exact Θ (ih h2)
def gh(X:Cx)(scope:Scope)(N:List Str)(dD:Shared)(eR:Hp)(C:Addr)(fp:List Addr)(pn:List (Addr×Obj)):Cx:=
 {X with N:=N,dD:=dD,eR:=eR,env:=compEnvC scope (fS X.env scope.names []) C X.env,outer:=X.stack,ex:=fp,fn:=fun _=>false,pn:=pn,xe:=fun _ _=>False}
structure bh(N:List Str)(sc:Scope)(scope:Scope)(ls:List Str)(js:List Nat)(cs:List Str):Prop where
 kind:scope.kind= .function
 Jn:∀x∈scope.names,x.2≠ .cell
 names:∀x∈scope.names,x.2= .local→scope.names.lookup x.1=some .local
 loc:∀x∈ls,scope.names.lookup x=some .local
 at_:cs=js.filterMap (N[·]?)
 len:cs.length=js.length
 SG:∀x∈cs,scope.names.lookup x=some .free∧(sc.names.lookup x=some .cell∨sc.names.lookup x=some .free)
 free:∀x∈scope.names,x.2= .free→(sc.names.lookup x.1=some .cell∨sc.names.lookup x.1=some .free)
 nd:(ls++cs).Nodup
section
variable{X:Cx}{pins:List (Addr×Obj)}{σ:St}{H:Hp}{s:Shared}{scope:Scope}{ls cs:List Str}{js:List Nat}{fp:List Addr}
theorem bh.has(S:bh X.N X.env.scope scope ls js cs)(ok:X.Ok):∀x∈scope.names,x.2= .free→∃c,X.env.cells.lookup x.1=some c:=fun x hx hf=>ok.has x.1 (S.free x hx hf)
def lK(ls:List Str)(js:List Nat)(σ:St):St:=ls.map (fun _=>none)++js.map fun j=>(σ[j]?).join
theorem Hu(S:bh X.N X.env.scope scope ls js cs)(I:Inv X pins σ H s)(hf:∀b∈fp,iu X pins H b)(hl:∀b∈fp,b<s.heap.objs.size):(gh X scope (ls++cs) s H s.heap.objs.size fp (X.pn++pins)).Ok:=by
 have tE:∀{x:Str}{c:Addr},(fS X.env scope.names []).lookup x=some c→X.env.cells.lookup x=some c:=fun{x c} h=>j8 (S.has I.ok) (fun y d h=>by simp at h) h
 refine⟨I.ok.mod,S.kind,I.ok.glob,I.ok.blt,Nat.le_refl _,fun x y c h1 h2=>I.ok.inj x y c (tE h1) (tE h2),fun x h=>oI (.inl (oK S.Jn h)),(fun x c h=>Bool.noConfusion (show false=true from h)),I.ok.hd,I.ok.frames, .inl rfl,fun b hb=>⟨Nat.ne_of_lt (hl b hb),fun x c h=>(hf b hb).2.2.2.2.1 x c (tE h)⟩,
  I.bs,Nat.le_trans I.ok.Ki I.sz,fun b o e hb=>?_,fun b hb hm=>?_,I.stack,I.wH⟩
 ·rcases(hf b hb).2.2.2.1 with z|z
  ·exact I.ok.Kj b o e z
  ·exact Z1 (Nat.lt_of_lt_of_le (ZS e) I.ok.Ki) (Nat.not_lt.mpr z)
 ·rcases List.mem_cons.mp (I.sW b hm)with z|z
  ·exact(hf b hb).2.1 z
  ·exact(hf b hb).2.2.1 z
theorem ED{h1:Heap}{m:Str→Option Value}(S:bh X.N X.env.scope scope ls js cs)(I:Inv X pins σ H s)(hf:∀b∈fp,iu X pins H b)(hl:∀b∈fp,b<s.heap.objs.size)
  (hn:h1.Ns s.heap.objs.size m) (hk:∀b o,s.heap.get? b=some o→h1.get? b=some o):
  Inv (gh X scope (ls++cs) s H s.heap.objs.size fp (X.pn++pins)) [] (lK ls js σ) H {s with heap:=h1}:=by
 have tE:∀{x:Str}{c:Addr},(fS X.env scope.names []).lookup x=some c→X.env.cells.lookup x=some c:=fun{x c} h=>j8 (S.has I.ok) (fun y d h=>by simp at h) h
 have len:(lK ls js σ).length=(ls++cs).length:=by
  unfold lK;rw[List.length_append,List.length_append,List.length_map,List.length_map,S.len]
 refine⟨Hu S I hf hl,rfl,I.bare,Un.kept hk,⟨m,hn,fun i x v e1 e2 e3=>?_⟩,fun x c e=>?_,I.bX.fresh ZT,fun x c e=>I.mU x c (tE e),fun p hp=>?_,I.bX.kept hk,len⟩
 ·have e1:(ls++cs)[i]?=some x:=e1;unfold lK at e2;by_cases hi:i<ls.length
  ·rw[ZZ (by simpa using hi),List.getElem?_map]at e2;cases q:ls[i]? with
   |none=>rw[q]at e2;cases e2
   |some y=>rw[q]at e2;cases e2
  ·have BB:ls.length≤i:=Nat.not_lt.mp hi;rw[Α (by simpa using BB),List.getElem?_map,List.length_map]at e2;rw[Α BB]at e1;obtain⟨Vq,uP⟩:=S.SG x (ZI e1);cases q:js[i-ls.length]? with
   |none=>rw[q]at e2;cases e2
   |some j=>
    rw[q]at e2;have e2:(σ[j]?).join=some v:=ZO e2;have eN:X.N[j]?=some x:=by
     have aux:∀(js:List Nat)(cs:List Str)(i:Nat),cs=js.filterMap (X.N[·]?)→cs.length=js.length→∀j x,js[i]?=some j→cs[i]?=some x→X.N[j]?=some x:=by
      intro js
      induction js with
      |nil=>intro cs i _ _ j x hj _;simp at hj
      |cons a r ih=>
       intro cs i he hl j x hj hx;rw[List.filterMap_cons]at he;cases qa:X.N[a]? with
       |none=>
        rw[qa]at he;have hle:=List.length_filterMap_le (X.N[·]?) r;simp only at he;rw[he,List.length_cons]at hl
        lia
       |some y=>
        rw[qa]at he;simp only at he;subst he;cases i with
        |zero=>
         simp at hj hx;subst hj hx;exact qa
        |succ i=>exact ih _ i rfl (by simpa using hl) j x (by simpa using hj) (by simpa using hx)
     exact aux js cs _ S.at_ S.len j x q e1
    obtain⟨mX,_,Xq⟩:=I.loc;have Oy:σ[j]?=some (some v):=by
     cases z:σ[j]? with
     |none=>rw[z]at e2;cases e2
     |some w=>rw[z]at e2;rw[show w=some v from e2]
    obtain⟨u,r,l⟩:=Xq j x v eN Oy (uP.elim (fun z=> .inr (.inl z)) fun z=> .inr (.inr z));refine⟨u,r,?_⟩;rcases l with⟨z,_⟩|⟨_,c,z1,o,z2,z3⟩
    ·have z:X.env.scope.names.lookup x=some .local:=z;rcases uP with w|w<;>(rw[z]at w;cases w)
    ·refine .inr ⟨oJ Vq,c,?_,o,hk c o z2,z3⟩;obtain⟨c',Km⟩:=oI (env:=X.env) (l:=scope.names) (acc:=[]) (x:=x) (.inl (PySem.mem_of_lookup Vq));have:=tE Km;rw[z1]at this;cases this;exact Km
 ·obtain⟨v,o,z1,z2⟩:=I.cell x c (tE e);exact⟨v,o,hk c o z1,z2⟩
 ·have hp:p∈X.pn++pins:=by simpa[gh]using hp
  obtain⟨e,n,ne,nf,d⟩:=I.pin p hp;refine⟨hk _ _ e,n,Nat.ne_of_lt (ZS e),fun hm=>?_,d⟩;rcases List.mem_cons.mp (I.sW p.1 hm)with z|z
  ·exact ne z
  ·exact nf z
end
section
variable{prog:Program}{w:World}{A:Around}{R:Result→Shared→Prop}{s:Shared}
theorem w9{elt target iter:Expr}{ifs:List Expr}{scope:Scope}{pos:Pos}{it acc:Value}{env:Env}(L:Nat→Shared→Prop)
  (turn:∀n s,L n s→wpAny (model prog w) A (pyNext it) (fun r cn=>match r with
   |none=>R (.ok .next) cn
   |some v=>wpAny (model prog w) A (letOwnedTupleGo target it v) (fun _ Jo=>wpAny (model prog w) A (assign target env v) (fun _ qj=>
     wpAny (model prog w) A (forIn ifs true fun c r=>if r=true then do let ok←isTrue c env (eval c env);pure (ForInStep.yield ok)else pure (ForInStep.yield r)) (fun ok CD=>
      if ok=true then wpAny (model prog w) A (eval elt env) (fun x Oz=>
       wpAny (model prog w) A (call (.builtin "list.append") [acc,x]) (fun _ OA=>∃m,m<n∧L m OA) (fun _ _=>False) Oz) (fun _ _=>False) CD
      else ∃m,m<n∧L m CD) (fun _ _=>False) qj) (fun _ _=>False) Jo) (fun _ _=>False) cn) (fun _ _=>False) s)
  (n:Nat) (h:L n s):codeAny (model prog w) A (.compLoop (.ListComp elt [⟨target,iter,ifs,0⟩] scope pos) 0 it acc env) R s:=by
 refine codeAny_loop rfl L (fun n s hI=>?_) n h;show wpAny _ A ((compTurn (.ListComp elt [⟨target,iter,ifs,0⟩] scope pos) 0 it acc env).onRaise (fun x=>do noteFrame x env;theTreesLotGoes x)) _ _ s;refine wpAny_noted ?_;rw[compTurn_list];refine wpAny_mono (E:=fun _ _=>False) ?_ (fun _ _ q=>q) fun _ _ z=>False.elim z
 refine wpAny_bind (wpAny_standAt (ZN (wpAny_mono (turn n s hI) (fun r cn CC=>?_) fun _ _ h'=>h')));cases r with
 |none=>exact ZF CC
 |some v=>
  refine wpAny_bind (wpAny_mono CC (fun _ Jo CC=>?_) fun _ _ h'=>h');refine wpAny_bind (wpAny_mono CC (fun _ qj El=>ZN (wpAny_mono El (fun ok CD Hh=>?_) fun _ _ h'=>h')) fun _ _ h'=>h');cases ok with
  |false=>exact ZF ⟨rfl,Hh⟩
  |true=>
   exact ZN (ZN (wpAny_mono Hh (fun x Oz SH=>ZN (wpAny_mono SH (fun _ OA SI=>ZF (ZF ⟨rfl,SI⟩)) fun _ _ h'=>h')) fun _ _ h'=>h'))
end
def OB(X:Cx)(ifs:List Expr)(t:TT):Prop:=
 ∀(pins:List (Addr×Obj))(s:Shared)(σ:St)(H:Hp)(Q:Bool→Hp→Prop),Inv X pins σ H s→t σ H Q→
  wpAny (model X.prog X.w) X.A (forIn ifs true fun c r=>if r=true then do let ok←isTrue c X.env (eval c X.env);pure (ForInStep.yield ok)else pure (ForInStep.yield r)) (TP X pins σ Q) X.xe s
def K9:TT:=fun _ H Q=>Q true H
theorem gX{X:Cx}:OB X [] K9:=fun _ _ _ H _ I h=>wpAny_tests_nil ⟨H,I,h⟩
theorem w_{X:Cx}{c:Expr}{t:TT}(h:PT X c t):OB X [c] t:=fun pins s σ H Q I hq=>wpAny_tests_one (h pins s σ H Q I hq)
def tF(J:It)(ls:List Str)(js:List Nat)(g:TG)(tt:TT)(te:TE)(σ:St)(H1:Hp)(D:Addr)(Q:VK):Prop:=
 ∃W:Nat→Nat→List V→St→Hp→Prop,(∃m,W 0 m [] (lK ls js σ) (upd H1 D (.lst [])))∧∀i m ys bB H',W i m ys bB H'→
 (J.stop i H'∧Q (.ref D) H')∨(J.go i H'∧∃N:List V→St→Hp→Prop,(∀Jp fG H2,N Jp fG H2→∃m',m'<m∧W (i+1) m' Jp fG H2)∧∀x H2,J.GY i H' x H2→g x bB H2 fun fG H3=>tt fG H3 fun b H4=>
  if b=true then te fG H4 fun y H5=>H5 D=some (.lst ys)∧ys.length<sizeLine∧N (ys++[y]) fG (upd H5 D (.lst (ys++[y])))else N ys fG H4)
def EE(wi:TI)(ls:List Str)(js:List Nat)(g:TG)(tt:TT)(te:TE):TE:=fun σ H Q=>wi σ H fun J H1=>∀D,H1 D=none→tF J ls js g tt te σ H1 D Q
section
variable{X:Cx}{tg iter elt:Expr}{ifs:List Expr}{scope:Scope}{pos:Pos}{wi:TI}{g:TG}{tt:TT}{te:TE}{ls cs:List Str}{js:List Nat}
theorem vW{pins:List (Addr×Obj)}{s:Shared}{σ:St}{H:Hp}{Q:VK}{use:Option (Value→Sem Unit)}{QQ:Value→Shared→Prop}(hc:X.calm=true)(S:bh X.N X.env.scope scope ls js cs)(hi:PI X tg iter wi)
  (hg:∀dD eR C fp pn,PG (gh X scope (ls++cs) dD eR C fp pn) tg g) (ht:∀dD eR C fp pn,OB (gh X scope (ls++cs) dD eR C fp pn) ifs tt) (he:∀dD eR C fp pn,PE (gh X scope (ls++cs) dD eR C fp pn) elt te)
  (I:Inv X pins σ H s) (h:EE wi ls js g tt te σ H Q)
  (SJ:∀(D C:Addr)(H':Hp)(s':Shared)(m:Str→Option Value),Inv X pins σ H' s'→Q (.ref D) H'→s'.heap.Ns C m→iu X pins H' C→compPost (model X.prog X.w) X.A X.xe use QQ (.ref D) C (.ok .next) s')
  (hs:∀x,foldedSetIterable iter X.env x=pure x:=by intro _;rfl):
  wpAny (model X.prog X.w) X.A (comprehension (.ListComp elt [⟨tg,iter,ifs,0⟩] scope pos) scope X.env (firstIterPos [⟨tg,iter,ifs,0⟩] pos) (newList []) false (eval iter X.env) use) QQ X.xe s:=by
 refine wpAny_comprehension_free rfl hs (w8 (S.has I.ok)) S.kind S.names (cJ (hi pins s σ H _ I h) fun v s1 h1=>cJ h1 fun R6 s2 h2=>?_);obtain⟨it,fp,tn,J,H2,rfl,I2,T,dP,f2,hW⟩:=h2;have SK:∀b∈fp,b<s2.heap.objs.size:=fun b hb=>by
  obtain⟨o,e,_⟩:=T.obj 0 _ dP b hb;exact ZS e
 refine wpAny_newObj_type ?_;have hD:H2 s2.heap.objs.size=none:=I2.bX.fresh ZT;obtain⟨W,⟨m0,w0⟩,turn⟩:=hW _ hD;have I3:Inv X pins σ (upd H2 s2.heap.objs.size (.lst [])) {s2 with heap:=s2.heap.push {cls:= .type "list",dict:=none,data:= .seq ([]:List Value).toArray}}:=
  I2.laid (t':=s2.toks) (fun b u e=>ZU e) (Nat.le_refl _) ⟨Nat.zero_le _,[],0, .nil,Heap.get?_push_size _ rfl⟩
 have f3:∀b∈fp,iu X pins (upd H2 s2.heap.objs.size (.lst [])) b:=fun b hb=>⟨by rw[ao (Nat.ne_of_lt (SK b hb))];exact(f2 b hb).1,(f2 b hb).2⟩
 generalize ZM:upd H2 s2.heap.objs.size (.lst [])=H3 at I3 f3 w0;generalize OC:({s2 with heap:=s2.heap.push {cls:= .type "list",dict:=none,data:= .seq ([]:List Value).toArray}}:Shared)=s3 at I3;have Vr:∀b∈fp,b<s3.heap.objs.size:=fun b hb=>by
  rw[←OC];show b<(s2.heap.push _).objs.size;rw[Heap.size_push];exact Nat.lt_succ_of_lt (SK b hb)
 have Ea:tn 0 s3.heap:=T.keep 0 _ _ dP fun b hb o e=>by rw[←OC];exact ZU e
 refine wpAny_newFunctionEnv S.Jn (by intro y hy;simp at hy) (fun h4 QA OD=>?_) S.kind;have k4:∀b o,s3.heap.get? b=some o→h4.get? b=some o:=fun b o e=>OD.extBut b o (Nat.ne_of_lt (ZS e)) (ZU e)
 have I4:=ED (h1:=h4) S I3 f3 Vr QA k4;have Xr:=I4.tok (s3.toks+([]:List (Str×Value)).length);have QE:tn 0 h4:=T.keep 0 _ _ Ea fun b hb o e=>k4 b o e
 show codeAny (model X.prog X.w) X.A (.compStart (.ListComp elt [⟨tg,iter,ifs,0⟩] scope pos) 0 (.ref it) (.ref s2.heap.objs.size) (compEnvC scope (fS X.env scope.names []) s3.heap.objs.size X.env)) (compPost (model X.prog X.w) X.A X.xe use QQ (.ref s2.heap.objs.size) s3.heap.objs.size) _;have zZ:∀{H':Hp},(∀b∈fp,H' b=none)→∀b∈fp,iu ο [] H' b:=fun{H'} hn b hb=>by
  obtain⟨q1,q2,q3,q4,q5,q6⟩:=f3 b hb;refine⟨hn b hb,Nat.ne_of_lt (Vr b hb),fun hm=>?_, .inl hb,fun x c e=>q5 x c (j8 (S.has I.ok) (fun y d z=>by simp at z) e),fun p hp=>q6 p (by simpa[gh]using hp)⟩;rcases List.mem_cons.mp (I3.sW b hm)with z|z
  ·exact q2 z
  ·exact q3 z
 have loop:codeAny (model X.prog X.w) X.A (.compLoop (.ListComp elt [⟨tg,iter,ifs,0⟩] scope pos) 0 (.ref it) (.ref s2.heap.objs.size) (compEnvC scope (fS X.env scope.names []) s3.heap.objs.size X.env)) (compPost (model X.prog X.w) X.A X.xe use QQ (.ref s2.heap.objs.size) s3.heap.objs.size)
   {s3 with heap:=h4,toks:=s3.toks+([]:List (Str×Value)).length}:=by
  refine w9 (fun n s'=>∃i bB H',Inv ο [] bB H' s'∧tn i s'.heap∧(∀b∈fp,H' b=none)∧∃ys,W i n ys bB H') ?_ m0 ⟨0,_,_,Xr,QE,fun b hb=>(f3 b hb).1,[],w0⟩;rintro n s5 ⟨i,QG,H5,I5,MS,Qu,ys,w5⟩;rcases turn i n ys QG H5 w5 with⟨stop,qn⟩|⟨go,N,hN,step⟩
  ·refine cJ (T.done ο rfl rfl rfl hc i [] s5 QG H5 (fun _ _=>False) I5 (zZ Qu) MS stop) fun r s6 ⟨hr,I6⟩=>?_
   subst hr;obtain⟨m,hm,_⟩:=id I6.loc;have un:Un (oj X.stack) fp H3 H5 s3.heap s6.heap:=I6.base;have I7:Inv X pins σ H5 s6:=I3.NN (ch:=fp) I6.os un I6.bX I6.bare fun b hb=>by
    obtain⟨q1,q2,q3,q4,q5,q6⟩:=f3 b hb;exact⟨q4,q2,q5,q6⟩
   have fc:iu X pins H5 s3.heap.objs.size:=I3.uU ZT I6.free;exact SJ _ _ H5 s6 m I7 qn hm fc
  ·refine cJ (T.item ο rfl rfl rfl hc i [] s5 QG H5 (fun _ _=>False) I5 (zZ Qu) MS go) fun r s6 ⟨u,hr,h6⟩=>?_
   subst hr;refine cJ h6 fun _ s7 ⟨x,H7,I7,r7,y7,SM,Xs⟩=>?_
   have Xu:=I7.pinned (zZ Xs) (T.obj _ _ SM);refine cJ (hg _ _ _ _ _ _ s7 QG H7 x u _ Xu r7 (step x H7 y7)) fun _ s8 ⟨QH,H8,I8,q8⟩=>?_
   refine cJ (ht _ _ _ _ _ _ s8 QH H8 _ I8 q8) fun b s9 ⟨H9,I9,q9⟩=>?_
   have again:∀{Jp:List V}{bB:St}{H':Hp}{s':Shared},Inv ο ([]++sY fp s7.heap) bB H' s'→N Jp bB H'→
     ∃m,m<n∧∃i bB H',Inv ο [] bB H' s'∧tn i s'.heap∧(∀b∈fp,H' b=none)∧∃ys,W i m ys bB H':=fun{Jp bB H' s'} I' n'=>by
    obtain⟨m',CL,w'⟩:=hN Jp bB H' n';refine⟨m',CL,i+1,bB,H',I'.lH,T.keep _ _ _ SM fun b hb o e=>(I'.pin (b,o) (Δ (Δ (gO hb e)))).1,fun b hb=>?_,Jp,w'⟩;obtain⟨o,e,d⟩:=T.obj _ _ SM b hb;exact(I'.pin (b,o) (Δ (Δ (gO hb e)))).2.1
   cases b with
   |false=>exact again I9 q9
   |true=>
    refine cJ (he _ _ _ _ _ _ s9 QH H9 _ I9 q9) fun u2 Jq ⟨y,GF,Xv,Xw,Xx,hz,Xy⟩=>?_
    refine cJ (bT _ Jq QH GF (.ref s2.heap.objs.size) [y] (.ref s2.heap.objs.size) [u2] (fun _ H'=>N (ys++[y]) QH H') Xv rfl (.cons Xw .nil) ⟨_,ys,y,rfl,rfl,Xx,hz,Xy⟩) fun _ BC ⟨_,Jr,Xz,_,XA⟩=>?_
    exact again Xz XA
 exact codeAny_compStart_list loop (T.self _ 0 _ _ _ QE loop)
theorem mq(hc:X.calm=true)(S:bh X.N X.env.scope scope ls js cs)(hi:PI X tg iter wi)
  (hg:∀dD eR C fp pn,PG (gh X scope (ls++cs) dD eR C fp pn) tg g) (ht:∀dD eR C fp pn,OB (gh X scope (ls++cs) dD eR C fp pn) ifs tt) (he:∀dD eR C fp pn,PE (gh X scope (ls++cs) dD eR C fp pn) elt te)
  (hs:∀x,foldedSetIterable iter X.env x=pure x:=by intro _;rfl):PE X (.ListComp elt [⟨tg,iter,ifs,0⟩] scope pos) (EE wi ls js g tt te):=by
 intro pins s σ H Q I h;rw[eval_ListComp];refine vW (use:=none) hc S hi hg ht he I h (fun D C H' s' m I' q hm fc=>⟨m,hm,fun h' OD=>?_⟩) hs;obtain⟨q1,q2,q3,q4,q5,q6⟩:=fc;exact⟨.ref D,H',I'.turned (t':=s'.toks) (fun b o hb e=>OD.extBut b o hb e) q1 (Ne.symm (Ne.symm q2)) q4 q5 q6,rfl,q⟩
theorem kC{x:Str}{i:Nat}{pos' OE:Pos}(hc:X.calm=true)(hN:X.N.Nodup)(BB:X.N[i]?=some x)(hx:X.env.scope.names.lookup x=some .local)(S:bh X.N X.env.scope scope ls js cs)(hi:PI X tg iter wi)
  (hg:∀dD eR C fp pn,PG (gh X scope (ls++cs) dD eR C fp pn) tg g) (ht:∀dD eR C fp pn,OB (gh X scope (ls++cs) dD eR C fp pn) ifs tt) (he:∀dD eR C fp pn,PE (gh X scope (ls++cs) dD eR C fp pn) elt te)
  (SN:swapsWith (.ListComp elt [⟨tg,iter,ifs,0⟩] scope pos) (some (.Name x pos')) OE.line X.env=pure true:=by rfl)
  (hs:∀x,foldedSetIterable iter X.env x=pure x:=by intro _;rfl):PS X (.Assign [.Name x pos'] (.ListComp elt [⟨tg,iter,ifs,0⟩] scope pos) OE) (Kx (EE wi ls js g tt te) (Bl i)):=by
 intro pins s σ H D I h;rw[exec_Assign_Name_used _ _ _ _ SN];refine wpAny_bind (wpAny_standAt (ZN ?_));show wpAny _ X.A (do let _←comprehension (.ListComp elt [⟨tg,iter,ifs,0⟩] scope pos) scope X.env (firstIterPos [⟨tg,iter,ifs,0⟩] pos) (newList []) false (eval iter X.env) (some (assign (.Name x pos') X.env))) _ _ s;refine wpAny_bind (wpAny_mono (vW (use:=some (assign (.Name x pos') X.env)) (QQ:=fun _ s'=>SP X pins D .next s') hc S hi hg ht he I h (fun Dl C H' s' m I' q hm fc=>?_) hs) (fun _ s' hq=>ZF (ZF hq)) fun _ _ e=>e);show wpAny _ X.A (assign (.Name x pos') X.env (.ref Dl)) _ _ _;obtain⟨q1,q2,q3,q4,q5,q6⟩:=fc;refine wpAny_assign_Name (vK (v:= .ref Dl) I' hN BB (.inl hx) rfl (fun s2 I2 ⟨a,OD,ha⟩=>?_) (.inr hx));have eQ:C≠a:=by
  rcases ha with rfl|ha
  ·exact q2
  ·exact fun z=>q5 x a ha z.symm
 refine⟨m,hm.sameBut OD eQ,fun h' SO=>?_⟩;exact⟨_,H',I2.turned (t':=s2.toks) (fun b o hb e=>SO.extBut b o hb e) q1 q2 q4 q5 q6,q⟩
end
def QI(z:Str):It:=⟨fun i _=>i<z.length,fun i H x H'=>H'=H∧∃c,z.cps.toList[i]?=some c∧x= .str ⟨#[c]⟩,fun i _=>z.length≤i⟩
theorem EF{P:Program}{w:World}{K:Frag}{tg:Expr}{it:Addr}{z:Str}{ty:String}{t:Tok}(DO:ty="str_ascii_iterator"∨ty="str_iterator"):Turn P w K tg (QI z) [it] it (fun i h=>h.IsStrIter it ty z t i) where
 mem:=XC
 obj:=fun i h st b hb=>by
  have e:b=it:=by simpa using hb
  subst e;obtain⟨o,e,c,d⟩:=st;exact⟨o,e,fun v z=>by rw[d]at z;cases z⟩
 keep:=fun i h h' st k=>let ⟨o,ho,r⟩:=st;⟨o,k it (XC) o ho,r⟩
 item:=by
  intro X hP hw hK hc i pins s σ H E I hf st hg;subst hP hw hK;obtain⟨f0,f1,f2,f3,f4,f5⟩:=hf it (XC);have hg:i<z.cps.size:=hg;have key:∀h',h'.IsStrIter it ty z t (i+1)→Heap.SameBut it s.heap h'→∃u,some (Value.str ⟨#[z.cps[i]]⟩ s.toks)=some u∧
    wpAny (model X.prog X.w) X.A (letOwnedTupleGo tg (.ref it) u) (fun _ s2=>∃x H',Inv X pins σ H' s2∧RelV x u∧(QI z).GY i H x H'∧s2.heap.IsStrIter it ty z t (i+1)∧∀b∈[it],H' b=none) E {s with heap:=h',toks:=s.toks+1}:=fun h' aT sb=>by
   have I1:Inv X pins σ H {s with heap:=h',toks:=s.toks+1}:=I.turned (fun b o hb e=>(sb.2 b hb).trans e) f0 f1 f3 f4 f5;obtain⟨o,e,c,d⟩:=id aT;refine⟨_,rfl,yH (s:={s with heap:=h',toks:=s.toks+1}) e c d (by rcases DO with rfl|rfl<;>decide) ⟨.str ⟨#[z.cps[i]]⟩,H,I1,⟨_,rfl⟩,⟨rfl,z.cps[i],by simp[hg],rfl⟩,aT,fun b hb=>(hf b hb).1⟩⟩
  rcases DO with rfl|rfl
  ·exact wpAny_pyNext_ascii_item st (c:=z.cps[i]) (by simp[hg]) key
  ·exact wpAny_pyNext_wide_item st (c:=z.cps[i]) (by simp[hg]) key
 done:=by
  intro X hP hw hK hc i pins s σ H E I hf st hg;subst hP hw hK;obtain⟨f0,f1,f2,f3,f4,f5⟩:=hf it (XC);have hg:z.cps.size≤i:=hg;rcases DO with rfl|rfl
  ·exact wpAny_pyNext_ascii_end (I.ok.hd hc) st (by simp[hg]) fun h' eb=>⟨rfl,I.turned (t':=s.toks) (fun b o hb e=>eb b o hb e) f0 f1 f3 f4 f5⟩
  ·exact wpAny_pyNext_wide_end (I.ok.hd hc) st (by simp[hg]) fun h' eb=>⟨rfl,I.turned (t':=s.toks) (fun b o hb e=>eb b o hb e) f0 f1 f3 f4 f5⟩
 self:=fun _ _ _ _ _ st h=>by
  rcases DO with rfl|rfl
  ·exact wpAny_pyIter_striter_ascii st h
  ·exact wpAny_pyIter_striter_wide st h
section
variable{X:Cx}{tg:Expr}
def SQ(tl:TE):TI:=fun σ H R=>tl σ H fun x H1=>∃z,x= .str z∧R (QI z) H1
theorem K_{l:Expr}{tl:TE}(hl:PE X l tl):PI X tg l (SQ tl):=by
 intro pins s σ H R I h;refine cJ (hl pins s σ H _ I h) fun v s1 ⟨x,H1,I1,r1,q1⟩=>?_
 obtain⟨z,e,q⟩:=q1;subst e;obtain⟨t,rfl⟩:=r1;refine wpAny_pyIter_strU ?_;refine⟨s1.heap.objs.size,[s1.heap.objs.size],_,_,H1,rfl,I1.kept (t':=s1.toks) fun b o e=>ZU e,EF (ty:=strIterType z) (t:=t) (by unfold strIterType;split<;>simp),⟨_,Heap.get?_push_size _ rfl,rfl,rfl⟩,fun b hb=>?_,q⟩;have e:b=s1.heap.objs.size:=by simpa using hb
 subst e;exact I1.uU ZT (I1.bX.fresh ZT)
end
theorem oM{J:It}{n:Nat}{ls:List Str}{js:List Nat}{g:TG}{tt:TT}{te:TE}{σ:St}{H1:Hp}{D:Addr}{Q:VK}(Pv:Nat→List V→St→Hp→Prop)
  (h0:Pv 0 [] (lK ls js σ) (upd H1 D (.lst []))) (Hv:∀i ys σ H,i<n→Pv i ys σ H→J.go i H) (uN:∀ys σ H,Pv n ys σ H→J.stop n H)
  (hs:∀i ys σ H x H2,i<n→Pv i ys σ H→J.GY i H x H2→g x σ H2 fun fG H3=>tt fG H3 fun b H4=>if b=true then te fG H4 fun y H5=>H5 D=some (.lst ys)∧ys.length<sizeLine∧Pv (i+1) (ys++[y]) fG (upd H5 D (.lst (ys++[y])))else Pv (i+1) ys fG H4)
  (hd:∀ys σ H,Pv n ys σ H→Q (.ref D) H):
  tF J ls js g tt te σ H1 D Q:=by
 refine⟨fun i m ys σ H=>m=n-i∧i≤n∧Pv i ys σ H,⟨n,XC,Nat.zero_le _,h0⟩,?_⟩;rintro i m ys σ H ⟨rfl,hi,p⟩;by_cases ic:i<n
 ·exact .inr ⟨Hv i ys σ H ic p,Pv (i+1),fun Jp fG H2 p'=>⟨n-(i+1),by lia,rfl,ic,p'⟩,fun x H2 y=>hs i ys σ H x H2 ic p y⟩
 ·have e:i=n:=by lia
  subst e;exact .inl ⟨uN ys σ H p,hd ys σ H p⟩
theorem f6{K:Frag}{a:Addr}{xs:List V}{ls:List Str}{js:List Nat}{g:TG}{tt:TT}{te:TE}{σ:St}{H1:Hp}{D:Addr}{Q:VK}(Pv:Nat→List V→St→Hp→Prop)
  (h0:Pv 0 [] (lK ls js σ) (upd H1 D (.lst []))) (hl:∀i ys σ H,i≤xs.length→Pv i ys σ H→ir K H a xs)
  (hs:∀i x ys σ H,xs[i]?=some x→Pv i ys σ H→g x σ H fun fG H3=>tt fG H3 fun b H4=>if b=true then te fG H4 fun y H5=>H5 D=some (.lst ys)∧ys.length<sizeLine∧Pv (i+1) (ys++[y]) fG (upd H5 D (.lst (ys++[y])))else Pv (i+1) ys fG H4)
  (hd:∀ys σ H,Pv xs.length ys σ H→Q (.ref D) H):
  tF (MQ K a) ls js g tt te σ H1 D Q:=
 oM (n:=xs.length) Pv h0 (fun i ys σ H hi p=>⟨xs,xs[i],hl i ys σ H (Nat.le_of_lt hi) p,by simp[hi]⟩) (fun ys σ H p=>⟨xs,hl _ ys σ H ZT p,Nat.le_refl _⟩)
  (fun i ys σ H x H2 hi p y=>by
   obtain⟨e,y⟩:=y;subst e;exact hs i x ys σ _ (y xs (hl i ys σ _ (Nat.le_of_lt hi) p)) p) hd
theorem Am{lo:Int}{n:Nat}{ls:List Str}{js:List Nat}{g:TG}{tt:TT}{te:TE}{σ:St}{H1:Hp}{D:Addr}{Q:VK}(Pv:Nat→List V→St→Hp→Prop)
  (h0:Pv 0 [] (lK ls js σ) (upd H1 D (.lst [])))
  (hs:∀i ys σ H,i<n→Pv i ys σ H→g (.int (lo+i)) σ H fun fG H3=>tt fG H3 fun b H4=>if b=true then te fG H4 fun y H5=>H5 D=some (.lst ys)∧ys.length<sizeLine∧Pv (i+1) (ys++[y]) fG (upd H5 D (.lst (ys++[y])))else Pv (i+1) ys fG H4)
  (hd:∀ys σ H,Pv n ys σ H→Q (.ref D) H):
  tF (KA lo n) ls js g tt te σ H1 D Q:=
 oM (n:=n) Pv h0 (fun i ys σ H hi p=>hi) (fun ys σ H p=>Nat.le_refl _)
  (fun i ys σ H x H2 hi p y=>by
   obtain⟨e,y⟩:=y;subst e y;exact hs i ys σ _ hi p) hd
theorem EG{z:Str}{ls:List Str}{js:List Nat}{g:TG}{tt:TT}{te:TE}{σ:St}{H1:Hp}{D:Addr}{Q:VK}(Pv:Nat→List V→St→Hp→Prop)
  (h0:Pv 0 [] (lK ls js σ) (upd H1 D (.lst [])))
  (hs:∀i c ys σ H,z.cps.toList[i]?=some c→Pv i ys σ H→g (.str ⟨#[c]⟩) σ H fun fG H3=>tt fG H3 fun b H4=>if b=true then te fG H4 fun y H5=>H5 D=some (.lst ys)∧ys.length<sizeLine∧Pv (i+1) (ys++[y]) fG (upd H5 D (.lst (ys++[y])))else Pv (i+1) ys fG H4)
  (hd:∀ys σ H,Pv z.length ys σ H→Q (.ref D) H):
  tF (QI z) ls js g tt te σ H1 D Q:=
 oM (n:=z.length) Pv h0 (fun i ys σ H hi p=>hi) (fun ys σ H p=>Nat.le_refl _)
  (fun i ys σ H x H2 hi p y=>by
   obtain⟨e,c,hc,ex⟩:=y;subst e ex;exact hs i c ys σ _ hc p) hd
theorem vX(z:Str)(lo hi:Option Int):(Txt.slice z lo hi).cps.toList=(z.cps.toList.drop (HT.kz z.length 0 lo)).take (HT.kz z.length z.length hi-HT.kz z.length 0 lo):=by
 have XB:=HT.Es z.length 0 (Nat.zero_le _) lo;have aaW:=HT.Es z.length z.length ZT hi;have ix:Builtin.Str.strSliceIndices lo hi 1 z.length=(ZR (HT.kz z.length z.length hi-HT.kz z.length 0 lo)).map (HT.kz z.length 0 lo+·):=by
  rw[←sliceRange_one];have pos:(1:Int)>0:=WV;cases lo with
  |none=>
   cases hi with
   |none=>rfl
   |some j=>
    simp only[Builtin.Str.strSliceIndices,HT.kz,pos,if_true]
    congr 1
    by_cases h:j<0
    ·simp only[h,if_true];lia
    ·simp only[h,if_false];lia
  |some i=>
   have e1:max 0 (min (if i<0 then i+(z.length:Int)else i) (z.length:Int))=((HT.kz z.length 0 (some i):Nat):Int):=by
    simp only[HT.kz];by_cases h:i<0
    ·simp only[h,if_true];lia
    ·simp only[h,if_false];lia
   cases hi with
   |none=>
    simp only[Builtin.Str.strSliceIndices,pos,if_true];rw[e1];rfl
   |some j=>
    have e2:max 0 (min (if j<0 then j+(z.length:Int)else j) (z.length:Int))=((HT.kz z.length z.length (some j):Nat):Int):=by
     simp only[HT.kz];by_cases h:j<0
     ·simp only[h,if_true];lia
     ·simp only[h,if_false];lia
    simp only[Builtin.Str.strSliceIndices,pos,if_true];rw[e1,e2]
 have hp:=pick_run z.cps (HT.kz z.length 0 lo) (HT.kz z.length z.length hi-HT.kz z.length 0 lo);unfold Txt.slice;rw[ix];split
 ·rename_i h
  simp only[List.length_map,List.length_range,beq_self_eq_true,Bool.true_and,beq_iff_eq]at h;have h0:HT.kz z.length 0 lo=0:=by lia
  have h1:HT.kz z.length z.length hi=z.length:=by lia
  rw[h0,h1,List.drop_zero,Nat.sub_zero,List.take_of_length_le (by simp[Str.length])]
 ·rw[←hp]
theorem vY(z:Str)(lo hi:Option Int):(Txt.slice z lo hi).length≤z.length:=Txt.slice_le z lo hi
section
variable{X:Cx}
def SR:V→Option Int→Option Int→Hp→VK→Prop:=fun x lo hi H Q=>∃z,x= .str z∧z.length≤sizeLine∧Q (.str (Txt.slice z lo hi)) H
theorem An:Qx X SR:=by
 intro pins s σ H x v vl vu lo hi sl Q I rx hs pl pu h;obtain⟨z,rfl,hz,q⟩:=h;obtain⟨t,rfl⟩:=rx;refine⟨"str",_,F.slot_str_getitem.lookup,typeIs_str _ _ _,?_⟩;have go:∀l u:Option (Int×Tok),vl=partValue l→vu=partValue u→l.map (·.1)=lo→u.map (·.1)=hi→wpAny (model X.prog X.w) X.A (getItem (.str z t) (.ref sl)) (EP X pins σ Q) X.xe s:=by
  rintro l u rfl rfl rfl rfl;obtain⟨o,h1,h2,h3⟩:=hs;refine wpAny_getItem_str_slice (l:=l) (u:=u) (st:=none) ⟨o,h1,h2,h3⟩ rfl ?_;exact post_val_or_str ⟨Nat.le_trans (Txt.slice_le z _ _) hz,fun t' k=>⟨.str (Txt.slice z (l.map (·.1)) (u.map (·.1))),H,I.tok _,⟨_,rfl⟩,q⟩⟩
 cases pl with
 |none=>
  cases pu with
  |none=>exact go none none rfl rfl rfl rfl
  |int j tj=>exact go none (some (j,tj)) rfl rfl rfl rfl
 |int i ti=>
  cases pu with
  |none=>exact go (some (i,ti)) none rfl rfl rfl rfl
  |int j tj=>exact go (some (i,ti)) (some (j,tj)) rfl rfl rfl rfl
theorem vZ:qg X (compareOp .LtE) (fun x y H Q=>∃i j,x= .str i∧y= .str j∧Q (.bl (!decide (j.cps.toList<i.cps.toList))) H):=by
 intro pins s σ H x y v u Q I rx ry h;obtain⟨i,j,rfl,rfl,q⟩:=h;obtain⟨t,rfl⟩:=rx;obtain⟨t',rfl⟩:=ry;exact P.le_str (bI I q rfl)
theorem Hw{bs:List Bool}{us:List Value}(r:Vals (bs.map V.bl) us)(i:Nat)(v:Value)(h:us[i]?=some v):v= .bool (bs.getD i false):=by
 induction bs generalizing us i with
 |nil=>cases r;simp at h
 |cons b r' ih=>
  cases r with
  |cons r0 rr=>
   cases i with
   |zero=>
    have h0:some _=some v:=h;cases h0;exact r0
   |succ i=>simpa using ih rr i (by simpa using h)
theorem all_range(bs:List Bool):(ZR bs.length).all (fun i=>bs.getD i false)=bs.all id:=by
 rw[Bool.eq_iff_iff,List.all_eq_true,List.all_eq_true];constructor
 ·intro h b hb;obtain⟨i,hi,rfl⟩:=List.mem_iff_getElem.mp hb;have:=h i (by simpa using hi);simpa[hi]using this
 ·intro h i hi;have hi:i<bs.length:=by simpa using hi
  simpa[hi]using h bs[i] (List.getElem_mem hi)
def OF(K:Frag)(f:List Bool→Bool):List V→Hp→VK→Prop:=fun xs H Q=>∃a bs,xs=[.ref a]∧ir K H a (bs.map V.bl)∧Q (.bl (f bs)) H
theorem EH(hc:X.calm=true):i4 X (.builtin "all") (OF X.K fun bs=>bs.all id):=by
 intro pins s σ H xs us Q I r h;obtain⟨a,bs,rfl,hq,q⟩:=h;cases r with
 |cons r rr=>
  cases rr;cases r;obtain⟨its,rv,p,hz⟩:=I.list hq;have hl:=rv.length;rw[List.length_map]at hl;refine call_all_walk (wpAny_pyIter_list p.isList ?_);have eQ:a≠s.heap.objs.size:=by
   obtain⟨o,n,e,_⟩:=p;exact Nat.ne_of_lt (ZS e)
  refine⟨s.heap.objs.size,_,_,_,_,_,fun i=>bs.getD i false,rfl,Walks.list (A:=X.A.in1) (show X.A.in1.handled=none from I.ok.hd hc) _ a eQ its.toArray,⟨⟨_,Heap.get?_push_size _ rfl,rfl,rfl⟩,p.isList.at fun o e=>ZU e⟩,fun i v s1 Q1 E1 hv q1=>?_,fun h' tk hk=>?_⟩
  ·have hv:=Hw rv i v (by simpa using hv);subst hv;exact wpAny_truthy_bool q1
  ·rw[List.size_toArray,←hl,all_range];refine⟨.bl (bs.all id),H,I.kept fun b o e=>hk b o (fun z=>?_) (ZU e),rfl,q⟩;have z:b=s.heap.objs.size:=by simpa using z
   exact Z1 (z▸ZS e) (Nat.lt_irrefl _)
def Js:V→Option Value
 | .ty n=>some (.type n)
 | .ref C=>some (.ref C)
 | _=>none
theorem CM{c:V}{cv u:Value}(h:Js c=some cv)(r:RelV c u):u=cv:=by
 cases c<;>first
  |(cases h;done)
  |(cases h;exact r)
inductive K'(K:Frag)(xs:List V)(H:Hp)(Q:VK):Prop
 |mk (x:_) (c:_) (t:_) (b:_) (cv:_) (_:xs=[x,c]) (_:Js c=some cv) (_:qp K H x t) (_:kitOne K t cv=some b) (_:Q (.bl b) H):K' K xs H Q
theorem EI:i4 X (.builtin "isinstance") (K' X.K):=by
 intro pins s σ H xs us Q I r h;obtain⟨x,c,t,b,cv,rfl,rc,ty,hk,q⟩:=h;cases r with
 |cons r1 rr=>
  cases rr with
  |cons r2 rr=>
   cases rr;cases CM rc r2;exact Cw I r1 ty hk fun tk=>⟨.bl b,H,I.tok _,rfl,q⟩
end
section
variable{P:Program}{w:World}{K:Frag}{mg:Str→Option Value}{base:Heap}
abbrev QJ(P:Program)(w:World)(K:Frag)(mg:Str→Option Value)(base:Heap)(cm:Bool)(N:List Str)(qual:Str)(scope:Scope)(f:Addr)(cd:Value)(A:Around)(outer:List Env)(s:Shared)(H:Hp)(E:XK):Cx:=
 Af (cX P w) cm P w K mg base N qual scope f cd A outer s H E
theorem ju.gL{cm:Bool}{x qual:Str}{st:Stmt}{f:Addr}{fd:FuncData}{N ps:List Str}{k:Nat}{sp:Sp}(F:ju K x qual st f fd)(S:aL N ps (au st))(len:∀vs H Q E,sp vs H Q E→vs.length=ps.length)
  (yK:∀(bU:Value)(A:Around)(outer:List Env)(s:Shared)(H:Hp)(vs:List V)(Q:VK)(E:XK),eO cm k (A.deeper (envOfC qual (au st) s.heap.objs.size f bU))→sp vs H Q E→
   QC (QJ P w K mg base cm N qual (au st) f bU A outer s H E) (fun _=>E)→
   ∃t,Cp (QJ P w K mg base cm N qual (au st) f bU A outer s H E) (eG st) t∧t {nx:=fun _ H'=>Q .cL H',rt:=Q} (start N vs) H):a7 P w K mg base (cX P w) cm (k+1) f fd ps sp:=by
 obtain⟨oc,od,kV,doc,pm,an,bU,ct,Bu,rfl,lk,Cq⟩:=F.ex;exact Jh lk Cq S len fun A outer s H vs Q E hr Cz=>yK bU A outer s H vs Q E hr Cz Bz
end
def bK(P:Program)(w:World)(K:Frag)(mg:Str→Option Value)(base:Heap)(cm:Bool)(k:Nat)(x:Str)(ps:List Str)(sp:Sp):Prop:=
 ∃f fd,a7 P w K mg base (cX P w) cm k f fd ps sp∧mg x=some (.ref f)∧keepIn K (.ref f)=true∧Binds K fd ps []
theorem EJ{P:Program}{w:World}{K:Frag}{mg:Str→Option Value}{base:Heap}{cm:Bool}{k:Nat}{x y:Str}{ps:List Str}{sp:Sp}{st:Stmt}{f:Addr}{fd:FuncData}(F:ju K x y st f fd)(hm:mg x=some (.ref f))(b:Binds K fd ps [])
  (ok:a7 P w K mg base (cX P w) cm k f fd ps sp):bK P w K mg base cm k x ps sp:=⟨f,fd,ok,hm,F.kp,b⟩
section
variable{X:Cx}{cm:Bool}{k:Nat}{x:Str}{ps:List Str}{sp:Sp}{E:St→XK}{e:Expr}{es:List Expr}{t:TA}{p pos:Pos}
theorem aN(D:bK X.prog X.w X.K X.mg X.base cm k x ps sp)(hr:eO cm k X.A)(hx:Passes (cX X.prog X.w) X E)(ha:PA X (e::es) t)(hg:Gl X x:=by rfl)(wL:(x==("__debug__":Str))=false:=by decide)
  (he:starEach (e::es) X.env=(false,eval e X.env)::starEach es X.env:=by rfl) (rG:(backTo pos (starEach es X.env)).any (·.1)=false:=by rfl):PE X (.Call (.Name x p) (e::es) [] pos) (Jg sp [] E t):=by
 obtain⟨f,fd,ok,hm,hk,hb⟩:=D;exact Ha ok hr hg hm hk hb .nil hx ha wL he rG
theorem fM{v:V}(h:∃u,X.mg x=some u∧RelV v u)(hg:Gl X x:=by rfl)(hd:(x==("__debug__":Str))=false:=by decide):PE X (.Name x pos) (tC v):=by
 obtain⟨u,h1,h2⟩:=h;exact Bk hg h1 h2 hd
end
theorem sG{σ:St}{H:Hp}{A B:Hp→Prop}(h:A H):K9 σ H (fun b H4=>if b=true then A H4 else B H4):=by
 show if true=true then A H else B H
 exact jS h
theorem qw{i:Nat}{x:V}{σ:St}{H:Hp}{A B:St→Hp→Prop}(h:A (σ.set i (some x)) H):Bl i x σ H (fun fG H3=>K9 fG H3 (fun b H4=>if b=true then A fG H4 else B fG H4)):=by
 show if true=true then A (σ.set i (some x)) H else B (σ.set i (some x)) H
 exact jS h
theorem aA{n:Nat}(h:n≤100000):n≤sizeLine:=Nat.le_trans h (WV)
theorem bf{n:Nat}(h:n≤100000):n<sizeLine:=Nat.lt_of_le_of_lt h (WV)
def SS(t u:TS):TS:=fun D σ H=>∃Pm:St→Hp→Prop,t {D with nx:=Pm} σ H∧∀bB H',Pm bB H'→u D bB H'
theorem aD{X:Cx}{st:Stmt}{rest:List Stmt}{t u:TS}(h1:PS X st t)(h2:Cp X rest u):Cp X (st::rest) (SS t u):=by
 intro pins s σ H D I h;obtain⟨Pm,ht,hu⟩:=h;refine wpAny_execs_cons (cJ (h1 pins s σ H {D with nx:=Pm} I ht) fun f s1 q=>?_);cases f with
 |next=>obtain⟨bB,H',I',p⟩:=q;exact h2 pins s1 bB H' D I' (hu bB H' p)
 |brk=>exact q
 |cont=>exact q
 |ret v=>exact q
theorem av.upd{H:Hp}{a:Addr}{o:HO}(h:H a=none):av H (upd H a o):=fun b u e=>by rw[ao (aF e h)];exact e
theorem av.eP{H H':Hp}{a:Addr}{o:HO}(s:av H H')(h:H a=none):av H (L2.upd H' a o):=fun b u e=>by rw[ao (aF e h)];exact s b u e
end L2
namespace QF
open PySem L2
theorem qh{n:Nat}{P:List Value→Prop}(h:∀a us,us.length=n→P (a::us)):∀us:List Value,us.length=n+1→P us:=fun us e=>by
 cases us with
 |nil=>cases e
 |cons a r=>exact h a r (Nat.succ.inj e)
theorem Lb{P:List Value→Prop}(h:P []):∀us:List Value,us.length=0→P us:=fun us e=>by
 cases us with
 |nil=>exact h
 |cons a r=>cases e
theorem XD{P:List Value→Prop}(h:∀a,P [a]):∀us:List Value,us.length=1→P us:=qh fun a=>Lb (h a)
theorem XE{P:List Value→Prop}(h:∀a b,P [a,b]):∀us:List Value,us.length=2→P us:=qh fun a=>qh fun b=>Lb (h a b)
theorem XF{P:List Value→Prop}(h:∀a b c,P [a,b,c]):∀us:List Value,us.length=3→P us:=qh fun a=>qh fun b=>qh fun c=>Lb (h a b c)
theorem XG{P:List Value→Prop}(h:∀a b c d,P [a,b,c,d]):∀us:List Value,us.length=4→P us:=qh fun a=>qh fun b=>qh fun c=>qh fun d=>Lb (h a b c d)
theorem XH{P:List Value→Prop}(h:∀a b c d e,P [a,b,c,d,e]):∀us:List Value,us.length=5→P us:=qh fun a=>qh fun b=>qh fun c=>qh fun d=>qh fun e=>Lb (h a b c d e)
theorem XI{P:List Value→Prop}(h:∀a b c d e f,P [a,b,c,d,e,f]):∀us:List Value,us.length=6→P us:=qh fun a=>qh fun b=>qh fun c=>qh fun d=>qh fun e=>qh fun f=>Lb (h a b c d e f)
theorem XJ{P:List Value→Prop}(h:∀a b c d e f g,P [a,b,c,d,e,f,g]):∀us:List Value,us.length=7→P us:=qh fun a=>qh fun b=>qh fun c=>qh fun d=>qh fun e=>qh fun f=>qh fun g=>Lb (h a b c d e f g)
theorem SU(us:List Value)(e:us.length=7):∃a b c d e f g,us=[a,b,c,d,e,f,g]:=XJ (P:=fun us=>∃a b c d e f g,us=[a,b,c,d,e,f,g]) (fun a b c d e f g=>⟨a,b,c,d,e,f,g,rfl⟩) us e
end QF
namespace L2
open PySem PySem.Spec PyProof.Rows PySem.W PySem.Calls
def notStar:Expr→Bool
 | .Starred _ _=>false
 | _=>true
theorem tG{e:Expr}{es:List Expr}{env:Env}(h:notStar e=true):starEach (e::es) env=(false,eval e env)::starEach es env:=by
 cases e<;>first|rfl|cases h
theorem ak{X:Cx}{e:Expr}{es:List Expr}{te:TE}{t:TA}(ha:PE X e te)(hr:PA X es t)(hn:notStar e=true:=by rfl):PA X (e::es) (Jf te t):=G_ ha hr (tG hn)
structure iy(K:Frag)(x qual:Str)(st:Stmt)(f:Addr)(fd:FuncData):Prop where
 ex:∃(oc:Value)(od:Option Addr)(dV kV doc pm:Value)(an:Option Addr)(bU ct:Value)(Bu:Array (Option Value)),
  fd=fnOf x qual (fL st) (eG st) (au st) dV kV doc pm an bU ct∧K.lookup f=some ⟨oc,od, .func fd,Bu⟩∧codeIn K bU qual=true
 kp:keepIn K (.ref f)=true
theorem BD{K:Frag}{x qual:Str}{st:Stmt}{f:Addr}{oc:Value}{od an:Option Addr}{Bu:Array (Option Value)}{dV kV doc pm bU ct:Value}(l:K.lookup f=some ⟨oc,od, .func (fnOf x qual (fL st) (eG st) (au st) dV kV doc pm an bU ct),Bu⟩)
  (c:codeIn K bU qual=true) (k:keepIn K (.ref f)=true):iy K x qual st f (fnOf x qual (fL st) (eG st) (au st) dV kV doc pm an bU ct):=⟨⟨oc,od,dV,kV,doc,pm,an,bU,ct,Bu,rfl,l,c⟩,k⟩
section
variable{P:Program}{w:World}{K:Frag}{mg:Str→Option Value}{base:Heap}
theorem iy.gL{cm:Bool}{x qual:Str}{st:Stmt}{f:Addr}{fd:FuncData}{N ps:List Str}{k:Nat}{sp:Sp}(F:iy K x qual st f fd)(S:aL N ps (au st))(len:∀vs H Q E,sp vs H Q E→vs.length=ps.length)
  (yK:∀(bU:Value)(A:Around)(outer:List Env)(s:Shared)(H:Hp)(vs:List V)(Q:VK)(E:XK),eO cm k (A.deeper (envOfC qual (au st) s.heap.objs.size f bU))→sp vs H Q E→
   QC (QJ P w K mg base cm N qual (au st) f bU A outer s H E) (fun _=>E)→
   ∃t,Cp (QJ P w K mg base cm N qual (au st) f bU A outer s H E) (eG st) t∧t {nx:=fun _ H'=>Q .cL H',rt:=Q} (start N vs) H):a7 P w K mg base (cX P w) cm (k+1) f fd ps sp:=by
 obtain⟨oc,od,dV,kV,doc,pm,an,bU,ct,Bu,rfl,lk,Cq⟩:=F.ex;exact Jh lk Cq S len fun A outer s H vs Q E hr Cz=>yK bU A outer s H vs Q E hr Cz Bz
end
def eE(P:Program)(w:World)(K:Frag)(mg:Str→Option Value)(base:Heap)(cm:Bool)(k:Nat)(C:Addr)(m:Str)(ps:List Str)(sp:Sp):Prop:=
 ∃f fd,a7 P w K mg base (cX P w) cm k f fd ps sp∧Meth K C m f∧Binds K fd ps []∧wK K C
def mW(P:Program)(w:World)(K:Frag)(mg:Str→Option Value)(base:Heap)(cm:Bool)(k:Nat)(x:Str)(C:Addr)(ps:List Str)(mj:List V)(sp:Sp):Prop:=
 ∃f fd ds,a7 P w K mg base (cX P w) cm k f fd ps sp∧Mk K C f∧mg x=some (.ref C)∧Binds K fd ps ds∧Vals mj ds
theorem yT{P:Program}{w:World}{K:Frag}{mg:Str→Option Value}{base:Heap}{cm:Bool}{k:Nat}{x:Str}{C f:Addr}{fd:FuncData}{ps:List Str}{mj:List V}{ds:List Value}{sp:Sp}(h1:a7 P w K mg base (cX P w) cm k f fd ps sp)(h2:Mk K C f)(h3:mg x=some (.ref C))(h4:Binds K fd ps ds)(h5:Vals mj ds):mW P w K mg base cm k x C ps mj sp:=⟨f,fd,ds,h1,h2,h3,h4,h5⟩
theorem CO{P:Program}{w:World}{K:Frag}{mg:Str→Option Value}{base:Heap}{cm:Bool}{k:Nat}{m:Str}{C f:Addr}{fd:FuncData}{ps:List Str}{sp:Sp}(h1:a7 P w K mg base (cX P w) cm k f fd ps sp)(h2:Meth K C m f)(h3:Binds K fd ps [])(h4:wK K C):eE P w K mg base cm k C m ps sp:=⟨f,fd,h1,h2,h3,h4⟩
section
variable{X:Cx}{cm:Bool}{k:Nat}{x m:Str}{ps:List Str}{sp:Sp}{E:St→XK}{e o:Expr}{es:List Expr}{t:TA}{to:TE}{p pos apos:Pos}{C:Addr}{mj:List V}
theorem sJ(D:mW X.prog X.w X.K X.mg X.base cm k x C ps mj sp)(hr:eO cm (k+1) X.A)(hx:Passes (cX X.prog X.w) X E)(ha:PA X (e::es) t)(hg:Gl X x:=by rfl)(wL:(x==("__debug__":Str))=false:=by decide)
  (he:starEach (e::es) X.env=(false,eval e X.env)::starEach es X.env:=by rfl) (rG:(backTo pos (starEach es X.env)).any (·.1)=false:=by rfl):PE X (.Call (.Name x p) (e::es) [] pos) (Bt C sp mj E t):=by
 obtain⟨f,fd,ds,ok,M,hm,hb,hd⟩:=D;exact Hd M ok hr hg hm hb hd hx ha wL he rG
theorem bN{pl:Sem Bool}(ho:PE X o to)(D:eE X.prog X.w X.K X.mg X.base cm k C m ps sp)(hr:eO cm k X.A)(hx:Passes (cX X.prog X.w) X E)(ha:PA X (e::es) t)
  (uN:starEach (e::es) X.env=(false,eval e X.env)::starEach es X.env:=by rfl) (rG:(backTo pos (starEach es X.env)).any (·.1)=false:=by rfl)
  (ht:eval (.Call (.Attribute o m apos) (e::es) [] pos) X.env=(do
   let ov←eval o X.env
   standAt apos.atName
   let (f,first)←holding [ov] (getMethod ov m pl)
   callWith pos f first (backTo pos (starEach (e::es) X.env)) (backToKw pos (keywordEach [] X.env))):=by rfl):PE X (.Call (.Attribute o m apos) (e::es) [] pos) (Bs C m sp [] E to t):=by
 obtain⟨f,fd,ok,hm,hb,c⟩:=D;exact Hb ho c hm ok hr hb .nil hx ha uN rG ht
theorem CP{pl:Sem Bool}(ho:PE X o to)(D:eE X.prog X.w X.K X.mg X.base cm k C m ps sp)(hr:eO cm k X.A)(hx:Passes (cX X.prog X.w) X E)
  (ht:eval (.Call (.Attribute o m apos) [] [] pos) X.env=(do
   let ov←eval o X.env
   standAt apos.atName
   let (f,first)←holding [ov] (getMethod ov m pl)
   callWith pos f first (backTo pos (starEach [] X.env)) (backToKw pos (keywordEach [] X.env))):=by rfl):PE X (.Call (.Attribute o m apos) [] [] pos) (Bs C m sp [] E to Eh):=by
 obtain⟨f,fd,ok,hm,hb,c⟩:=D;exact Ej ho c hm ok hr hb .nil hx ht
end
section
variable{X:Cx}
theorem a_(K:Frag){tg l:Expr}{tl:TE}(hl:PE X l tl)(h:X.K=K:=by rfl):PI X tg l (Jc K tl):=h▸GZ hl
theorem aE(K:Frag){e:Expr}{f:Str}{pos:Pos}{ta:TE}(he:PE X e ta)(hb:attributeBase e f X.env (eval e X.env)=eval e X.env:=by rfl)(h:X.K=K:=by rfl):PE X (.Attribute e f pos) (N5 K ta f):=h▸KI he hb
theorem cq(K:Frag){o value:Expr}{f:Str}{pos pos':Pos}{ta tv:TE}(ha:PE X o ta)(hv:PE X value tv)(hs:swapsWith value (some (.Attribute o f pos')) pos.line X.env=pure false:=by rfl)(h:X.K=K:=by rfl):PS X (.Assign [.Attribute o f pos'] value pos) (N6 K ta tv f):=h▸KJ ha hv hs
theorem aj(K:Frag)(h:X.K=K:=by rfl):MT X (KW K):=h▸Hl
theorem bV(K:Frag)(h:X.K=K:=by rfl):MT X (KY K):=h▸KZ
theorem EK(K:Frag)(h:X.K=K:=by rfl):Qx X (K1 K):=h▸Hm
theorem uX(K:Frag)(h:X.K=K:=by rfl):qg X (compareOp .NotIn) (Vk K true):=h▸wX
inductive Jt(K:Frag)(xs:List V)(H:Hp)(Q:VK):Prop
 |mk (p:_) (ys:_) (_:xs=[.ref p]) (_:(ir K H p ys∨DM K H p ys)) (_:Q (.int ys.length) H):Jt K xs H Q
theorem aK(K:Frag)(h:X.K=K:=by rfl):i4 X (.builtin "len") (Jt K):=by
 subst h;intro pins s σ H xs us Q I r hq;obtain⟨p,ys,e,d,q⟩:=hq;exact wY pins s σ H xs us Q I r ⟨p,ys,e,d,q⟩
inductive BE(K:Frag)(xs:List V)(H:Hp)(Q:VK):Prop
 |mk (p:_) (ys:_) (_:xs=[.ref p]) (_:(ir K H p ys∨DM K H p ys)) (_:∀l,H l=none→Q (.ref l) (upd H l (.lst ys))):BE K xs H Q
theorem gY(K:Frag)(h:X.K=K:=by rfl):i4 X (.type "list") (BE K):=by
 subst h;intro pins s σ H xs us Q I r hq;obtain⟨p,ys,e,d,q⟩:=hq;exact wZ pins s σ H xs us Q I r ⟨p,ys,e,d,q⟩
theorem CQ(K:Frag)(hc:X.calm=true)(h:X.K=K:=by rfl):i4 X (.builtin "all") (OF K fun bs=>bs.all id):=h▸EH hc
theorem f7(K:Frag)(h:X.K=K:=by rfl):i4 X (.builtin "isinstance") (K' K):=h▸EI
theorem fv(K:Frag){es:List Expr}{k:Nat}{t:Jb}{n:Nat}{pos:Pos}(hc:X.calm=true)(h:NW X es t)
  (hn:(assignEach es X.env).length=n:=by rfl) (uN:(assignEach es X.env).findIdx? (·.1)=none:=by rfl) (hK:X.K=K:=by rfl):PG X (.Tuple es k pos) (Kt K n t):=hK▸Ku hc h hn uN
theorem eV(K:Frag){T:String}{name:Str}{id:String}{r:V→List V→Hp→VK→Prop}{o e:Expr}{es:List Expr}{apos eD:Pos}{to:TE}{t:TA}(pa:PlainAttrs T)(slot:Slot T name id)(DO:typeOf (.builtin id)=pure (.type "method_descriptor"))(hm:Qy X id r)(ho:PE X o to)(ha:PA X (e::es) t)
  (oG:attributeBase o name X.env (eval o X.env)=eval o X.env:=by rfl)
  (Ey:((backTo eD (starEach (e::es) X.env)).all (fun x=>!x.1)&&(backToKw eD (keywordEach [] X.env)).all (fun x=>x.1.isSome)
   &&decide ((e::es).length+([]:List Keyword).length+(if ([]:List Keyword).isEmpty then 0 else 1)<30))=true:=by rfl)
  (oH:(apos.endLine==eD.line)=true:=by rfl) (hs:starEach (e::es) X.env=(false,eval e X.env)::starEach es X.env:=by rfl) (Ah:(backTo eD (starEach es X.env)).any (·.1)=false:=by rfl) (hK:X.K=K:=by rfl):
  PE X (.Call (.Attribute o name apos) (e::es) [] eD) (Vl K T r to t):=hK▸Og pa slot DO hm ho ha oG Ey oH hs Ah
end
section
variable{X:Cx}
end
end L2
namespace QF
open PySem L2
structure TB(mg:Str→Option Value):Prop where
 cY:mg "len"=none
 fN:mg "range"=none
 cZ:mg "isinstance"=none
 BF:mg "int"=none
 Lc:mg "bool"=none
 aaD:mg "str"=none
 kD:mg "list"=none
 Hx:mg "tuple"=none
 aaR:mg "dict"=none
 OG:mg "all"=none
 Vt:mg "any"=none
 EL:mg "min"=none
 Ju:mg "max"=none
 jv:mg "enumerate"=none
 aan:mg "ValueError"=none
def Ef(mg:Str→Option Value)(x:Str)(v:V):Prop:=∃u,mg x=some u∧RelV v u
def cell(ns:List Int)(k:Int):Int:=ns.getD k.toNat 0
theorem Hz{ns:List Int}{k:Int}(h0:0≤k)(h:k<(ns.length:Int)):rV (ns.map V.int) k=some (.int (cell ns k)):=by
 obtain⟨j,rfl⟩:=Int.eq_ofNat_of_zero_le h0;have hj:j<ns.length:=by lia
 refine ar ?_;simp[cell,hj]
theorem cell_out{ns:List Int}{k:Int}(h0:0≤k)(h:¬k<(ns.length:Int)):cell ns k=0:=by
 have hj:ns.length≤k.toNat:=by lia
 simp[cell,hj]
def low(c:Nat):Bool:=decide (97≤c)&&decide (c≤122)
def sM(z:Str):Bool:=decide (1≤z.length)&&decide (z.length≤12)&&z.cps.toList.all low
theorem Vu(a b:Nat):(([a]:List Nat)<[b])↔a<b:=by
 constructor
 ·intro h;cases h with
  |rel h=>exact h
  |cons h=>cases h
 ·intro h;exact .rel h
theorem SW(c:Nat):(!decide (([c]:List Nat)<(Str.ofString "a").cps.toList))=decide (97≤c):=by
 have e:(Str.ofString "a").cps.toList=[97]:=by decide+kernel
 rw[e,Bool.eq_iff_iff];simp only[Bool.not_eq_true',decide_eq_false_iff_not,decide_eq_true_eq,Vu]
 lia
theorem SX(c:Nat):(!decide ((Str.ofString "z").cps.toList<([c]:List Nat)))=decide (c≤122):=by
 have e:(Str.ofString "z").cps.toList=[122]:=by decide+kernel
 rw[e,Bool.eq_iff_iff];simp only[Bool.not_eq_true',decide_eq_false_iff_not,decide_eq_true_eq,Vu]
 lia
theorem len_app(x y:Str):(x++y).length=x.length+y.length:=by
 show(x.cps++y.cps).size=_;rw[Array.size_append];rfl
inductive EM(K:W.Frag)(vs:List V)(H:Hp)(Q:VK)(u3:XK):Prop
 |mk (a:_) (ns:_) (k:_) (_:vs=[.ref a, .int k]) (_:ir K H a (ns.map V.int)) (_:0≤k) (_:Q (.int (cell ns k)) H):EM K vs H Q u3
inductive tH(vs:List V)(H:Hp)(Q:VK)(u3:XK):Prop
 |mk (i:_) (_:vs=[.int i]) (_:Q (.bl true) H):tH vs H Q u3
inductive Ao(vs:List V)(H:Hp)(Q:VK)(u3:XK):Prop
 |mk (c:Nat) (_:vs=[.str ⟨#[c]⟩]) (_:Q (.bl (low c)) H):Ao vs H Q u3
inductive xa(vs:List V)(H:Hp)(Q:VK)(u3:XK):Prop
 |mk (z:Str) (_:vs=[.str z]) (_:z.length≤100000) (_:∀H',av H H'→Q (.bl (sM z)) H'):xa vs H Q u3
inductive nE(vs:List V)(H:Hp)(Q:VK)(u3:XK):Prop
 |mk (l n h:Int) (_:vs=[.int l, .int n, .int h]) (_:Q (.bl (decide (l≤n)&&decide (n≤h))) H):nE vs H Q u3
def BG(K:W.Frag):Sp:=fun vs H Q _=>∃(a:Addr)(ns:List Int),vs=[.ref a]∧ir K H a (ns.map V.int)∧ns.length≤63∧∀H',Q (.bl true) H'
structure Er(K:W.Frag)(mg:Str→Option Value)(x:Str)(C:Addr):Prop where
 m:mg x=some (.ref C)
 e:Ou K C
def inR(l n h:Int):Bool:=decide (l≤n)&&decide (n≤h)
inductive qx(C:Addr)(vs:List V)(H:Hp)(Q:VK)(E:XK):Prop
 |mk (nm:Str) (n l h:Int) (_:vs=[.str nm, .int n, .int l, .int h]) (_:nm.length≤20) (_:(0≤l∧l≤1)) (_:(h=100∨h=999999)) (_:(if inR l n h=true then Q .cL H else E (.ref C) none H)):qx C vs H Q E
theorem oN{i:Int}(h:i=0∨i=1∨i=12∨i=40∨i=60∨i=100∨i=999999):i.natAbs.log2<1920∧(Str.ofString (toString i)).length≤6:=by
 rcases h with rfl|rfl|rfl|rfl|rfl|rfl|rfl<;>exact⟨by decide+kernel,by decide+kernel⟩
theorem mw:(Str.empty).length=0:=by decide+kernel
theorem ig{x:V}:[x].length≤sizeLine:=aA Vs
def iz(x y:Str)(p:Int):Bool:=sM x&&sM y&&!(x==y)&&inR 0 p 999999
inductive xb(C:Addr)(vs:List V)(H:Hp)(Q:VK)(E:XK):Prop
 |mk (x y:Str) (p:Int) (_:vs=[.str x, .str y, .int p]) (_:x.length≤100000) (_:y.length≤100000) (_:(if iz x y p=true then ∀H',av H H'→Q .cL H' else ∀H',av H H'→E (.ref C) none H')):xb C vs H Q E
abbrev Form:=Str×Str×Int
def Ld(f:Form):List V:=[.str f.1, .str f.2.1, .int f.2.2]
def lq(f:Form):List Key:=[.inr f.1, .inr f.2.1]
def lL(f:Form):List Key×V:=(lq f, .int f.2.2)
def DP(f:Form):Bool:=iz f.1 f.2.1 f.2.2
def dS(H:Hp)(xs:List V)(fs:List Form):Prop:=xs.length=fs.length∧∀(i:Nat)(f:Form),fs[i]?=some f→∃t,xs[i]?=some (V.ref t)∧H t=some (.tup (Ld f))
def bO(fs:List Form):Bool:=decide (fs.length≤60)&&fs.all DP&&decide ((fs.map lq).Nodup)
def Short(fs:List Form):Prop:=fs.length≤1000∧∀f∈fs,f.1.length≤100000∧f.2.1.length≤100000
theorem dS.same{H H':Hp}{xs:List V}{fs:List Form}(t:dS H xs fs)(s:av H H'):dS H' xs fs:=⟨t.1,fun i f e=>let ⟨b,h1,h2⟩:=t.2 i f e;⟨b,h1,s _ _ h2⟩⟩
theorem dS.nil{H:Hp}:dS H [] []:=⟨rfl,fun i f e=>by simp at e⟩
inductive qy(C:Addr)(vs:List V)(H:Hp)(Q:VK)(E:XK):Prop
 |mk (a:Addr) (xs:List V) (fs:List Form) (_:vs=[.ref a]) (_:H a=some (.lst xs)) (_:dS H xs fs) (_:Short fs) (_:(if bO fs=true then ∀H' d,av H H'→H d=none→H' d=some (.dT (fs.map lL))→Q (.ref d) H' else ∀H',av H H'→E (.ref C) none H')):qy C vs H Q E
theorem BH(fs:List Form):(fs.map lL).map (·.1)=fs.map lq:=by rw[List.map_map];rfl
theorem EN{fs:List Form}{i:Nat}{f:Form}(e:fs[i]?=some f)(h:DP f=false):bO fs=false:=by
 have hm:f∈fs:=ZI e;have:fs.all DP=false:=by
  rw[Bool.eq_false_iff];intro z;rw[List.all_eq_true]at z;rw[z f hm]at h;cases h
 simp[bO,this]
theorem CS{fs:List Form}{i:Nat}{f:Form}(e:fs[i]?=some f)(h:lq f∈(fs.take i).map lq):bO fs=false:=by
 have:¬(fs.map lq).Nodup:=fun z=>by
  obtain⟨hi,e'⟩:=YG e;have e2:fs=fs.take i++f::fs.drop (i+1):=by
   rw[←e',List.getElem_cons_drop,List.take_append_drop]
  rw[e2,List.map_append,List.map_cons,List.nodup_append]at z;exact z.2.2 _ h _ (List.mem_cons_self) rfl
 simp[bO,this]
theorem CU{fs:List Form}{i:Nat}{f:Form}(e:fs[i]?=some f):(fs.take (i+1)).map lL=(fs.take i).map lL++[lL f]:=by
 rw[List.take_succ,e,List.map_append];rfl
theorem OH{fs:List Form}{k:List Key}(h:bA (fs.map lL) k=none):k∉fs.map lq:=by
 have:=yS h;rwa[BH]at this
theorem Le{fs:List Form}{k:List Key}{v:V}(h:bA (fs.map lL) k=some v):k∈fs.map lq:=by
 have:=By h;rwa[BH]at this
structure EO(K:W.Frag)(C:Addr):Prop where
 cl:wK K C
 same:b_ K C "same"
 out:b_ K C "out"
 into:b_ K C "into"
 least:b_ K C "least"
 part:b_ K C "part"
 near:b_ K C "near"
 ER:b_ K C "prices"
structure Nums where
 same:Int
 out:Int
 into:Int
 least:Int
 part:Int
def i9(n:Nums):Bool:=inR 1 n.same 999999&&inR 0 n.out 999999&&inR 0 n.into 999999&&inR 1 n.least 999999&&inR 1 n.part 100
def xc(n:Nums)(l d:Addr):List (Str×V):=[("same", .int n.same),("out", .int n.out),("into", .int n.into),("least", .int n.least),("part", .int n.part),("near", .ref l),("prices", .ref d)]
def mY(n:Nums):List (Str×V):=[("same", .int n.same),("out", .int n.out),("into", .int n.into),("least", .int n.least),("part", .int n.part)]
def SameBut(x:Addr)(H H':Hp):Prop:=∀b u,b≠x→H b=some u→H' b=some u
structure kE(H:Hp)(C x:Addr)(n:Nums)(fs:List Form)(dx l d:Addr)(xs:List V):Prop where
 ob:H x=some (.ins C dx (xc n l d))
 own:H dx=some (.own x)
 li:H l=some (.lst xs)
 tr:dS H xs fs
 di:H d=some (.dT (fs.map lL))
def OI(H:Hp)(v:V)(xs:List V)(fs:List Form):Prop:=(v= .cL∧xs=[]∧fs=[])∨∃a,v= .ref a∧H a=some (.lst xs)∧dS H xs fs
inductive sN(C CT CN:Addr)(vs:List V)(H:Hp)(Q:VK)(E:XK):Prop
 |mk (x dx:Addr) (n:Nums) (nv:V) (xs:List V) (fs:List Form) (_:vs=[.ref x, .int n.same, .int n.out, .int n.into, .int n.least, .int n.part,nv]) (_:H x=some (.ins C dx [])) (_:H dx=some (.own x)) (_:OI H nv xs fs) (_:Short fs) (_:(if i9 n=true then(if bO fs=true then ∀H' l d,SameBut x H H'→kE H' C x n fs dx l d xs→H l=none→H d=none→Q .cL H' else ∀H',SameBut x H H'→E (.ref CN) none H')else ∀H',SameBut x H H'→E (.ref CT) none H')):sN C CT CN vs H Q E
theorem SY(n:Nums):bq "part" (.int n.part) (bq "least" (.int n.least) (bq "into" (.int n.into) (bq "out" (.int n.out) (bq "same" (.int n.same) []))))=mY n:=by kernel_rfl
theorem S8(n:Nums)(l d:Addr):bq "prices" (.ref d) (bq "near" (.ref l) (mY n))=xc n l d:=by kernel_rfl
theorem OJ(n:Nums)(l:Addr):(bq "near" (.ref l) (mY n)).lookup ("near":Str)=some (V.ref l):=by kernel_rfl
theorem SameBut.refl{x:Addr}{H:Hp}:SameBut x H H:=fun _ _ _ h=>h
theorem SameBut.upd{x:Addr}{H H':Hp}{o:HO}(s:SameBut x H H'):SameBut x H (upd H' x o):=fun b u n h=>by rw[ao n];exact s b u n h
theorem SameBut.same{x:Addr}{H H' H2:Hp}(s:SameBut x H H')(t:av H' H2):SameBut x H H2:=fun b u n h=>t b u (s b u n h)
theorem SameBut.laid{x a:Addr}{H H':Hp}{o:HO}(s:SameBut x H H')(h:H a=none):SameBut x H (L2.upd H' a o):=fun b u n e=>by rw[ao (aF e h)];exact s b u n e
theorem SameBut.free{x l:Addr}{H H':Hp}{o:HO}(s:SameBut x H H')(hx:H' x=some o)(h:H' l=none):H l=none:=by
 cases e:H l with
 |none=>rfl
 |some u=>
  have n:l≠x:=fun z=>by rw[z,hx]at h;cases h
  rw[s l u n e]at h;cases h
theorem dS.but{x:Addr}{H H':Hp}{xs:List V}{fs:List Form}{C dx:Addr}{gs:List (Str×V)}(t:dS H xs fs)(s:SameBut x H H')(hx:H x=some (.ins C dx gs)):dS H' xs fs:=
 ⟨t.1,fun i f e=>let ⟨b,h1,h2⟩:=t.2 i f e;⟨b,h1,s _ _ (fun z=>by rw[z,hx]at h2;cases h2) h2⟩⟩
def fl(j:Nat):List V:=[.bl (decide (0=j)), .bl (decide (1=j)), .bl (decide (2=j)), .bl (decide (3=j)), .bl (decide (4=j)), .bl (decide (5=j)), .bl (decide (6=j)), .bl (decide (7=j)), .bl (decide (8=j)), .bl (decide (9=j)), .bl (decide (10=j)), .bl (decide (11=j)), .bl (decide (12=j)), .bl (decide (13=j))]
def kinds:List Str:=["word","book","terms","near","way","name","year","taken","full","many","no book","no finding","left","search","another"]
def kindOf(j:Nat):Str:=kinds.getD j ""
theorem int_at(is:List Int){i:Int}(h0:0≤i)(h:i<(is.length:Int)):∃m,m∈is∧rV (is.map V.int) i=some (.int m):=by
 obtain⟨j,rfl⟩:=Int.eq_ofNat_of_zero_le h0;have hj:j<is.length:=by lia
 exact⟨is[j],List.getElem_mem hj,ar (by simp[hj])⟩
theorem ES(n:Nums)(l d:Addr):(xc n l d).lookup ("same":Str)=some (V.int n.same):=by kernel_rfl
theorem l_out(n:Nums)(l d:Addr):(xc n l d).lookup ("out":Str)=some (V.int n.out):=by kernel_rfl
theorem Lf(n:Nums)(l d:Addr):(xc n l d).lookup ("into":Str)=some (V.int n.into):=by kernel_rfl
theorem HA(n:Nums)(l d:Addr):(xc n l d).lookup ("least":Str)=some (V.int n.least):=by kernel_rfl
theorem ET(n:Nums)(l d:Addr):(xc n l d).lookup ("prices":Str)=some (V.ref d):=by kernel_rfl
theorem xf(n:Nums)(l d:Addr):(xc n l d).lookup ("pair_worth":Str)=none:=by kernel_rfl
end QF
namespace L2
open PySem PySem.Spec PyProof.Rows PySem.W PySem.Calls
section
variable{X:Cx}
inductive OL(K:Frag)(x:V)(y:V)(H:Hp)(Q:VK):Prop
 |mk (p:_) (q:_) (xs:_) (_:x= .ref p) (_:y= .ref q) (_:ir K H p xs) (_:ir K H q []) (_:Q (.bl (!xs.isEmpty)) H):OL K x y H Q
theorem tI(K:Frag)(hu:X.A.units<cLine)(hK:X.K=K:=by rfl):qg X (compareOp .NotEq) (OL K):=by
 subst hK;intro pins s σ H x y v u Q I rx ry h;obtain⟨p,q,xs,rfl,rfl,hp,hq,k⟩:=h;cases rx;cases ry;obtain⟨its,r,pl,hz⟩:=I.list hp;obtain⟨dQ,r2,HB,MV⟩:=I.list hq;cases r2;obtain⟨⟨cls,dd,data,sl⟩,ho,hc,n,hd⟩:=id pl.isList;obtain⟨⟨Lg,EU,data2,yt⟩,yu,uP,n2,hd2⟩:=id HB.isList;simp only at hc hd uP hd2;subst hc hd uP hd2;by_cases e:its=[]
 ·subst e;cases r;refine richCompare_meets_room (op:= .NotEq) ⟨_,ho,rfl⟩ ⟨_,yu,rfl⟩ F.slot_list_ne F.entry_list_ne (F.args_list_ne_2 _ _) (SeqAt.list_neAt p q #[] #[] n n2 dd EU sl yt rfl (fun _=>true)) ⟨ho,yu,fun j h1 _=>absurd h1 Vs,?_⟩ hu;exact⟨(fun x=>nomatch x), .bl false,H,I,rfl,k⟩
 ·have hx:xs≠[]:=fun z=>by subst z;cases r;exact e rfl
  have hsz:(its.toArray.size !=(#[]:Array Value).size)=true:=by simpa using e
  refine richCompare_meets_room (op:= .NotEq) ⟨_,ho,rfl⟩ ⟨_,yu,rfl⟩ F.slot_list_ne F.entry_list_ne (F.args_list_ne_2 _ _) (SeqAt.list_ne_lengthsAt p q its.toArray #[] n n2 dd EU sl yt hsz) ⟨ho,yu,?_⟩ hu;have:(!xs.isEmpty)=true:=by simpa using hx
  rw[this]at k;exact⟨(fun x=>nomatch x), .bl true,H,I,rfl,k⟩
end
end L2
namespace QF
open PySem L2
theorem Vv{α:Type}{xs:List α}{i:Nat}{v:α}(h:xs[i]?=some v):rV xs (0+(i:Int))=some v:=by
 rw[Int.zero_add];exact ar h
def c7(fs:List Form)(x y:Str):Option Int:=(fs.find? fun f=>decide (f.1=x∧f.2.1=y)).map (·.2.2)
def cI(same:Int)(fs:List Form)(x y:Str):Option Int:=if x=y then some same else(c7 fs x y).map (same-·)
def bD:Option Int→V
 |none=> .cL
 |some i=> .int i
theorem xg(f:Form)(x y:Str):lq f=[.inr x, .inr y]↔f.1=x∧f.2.1=y:=by simp[lq]
theorem v5(x y:Str):∀fs:List Form,bA (fs.map lL) [.inr x, .inr y]=(c7 fs x y).map V.int
 |[]=>rfl
 |f::r=>by
  rw[List.map_cons];by_cases h:lq f=[.inr x, .inr y]
  ·have h':=(xg f x y).mp h;rw[cH (show(lL f).1=_ from h)];simp[c7,List.find?_cons,h'.1,h'.2,lL]
  ·have h':¬(f.1=x∧f.2.1=y):=fun z=>h ((xg f x y).mpr z)
   rw[cA (show ¬(lL f).1=_ from h),v5 x y r];simp[c7,List.find?_cons,h']
inductive xh(C:Addr)(vs:List V)(H:Hp)(Q:VK)(u3:XK):Prop
 |mk (t:Addr) (x y:Str) (n:Nums) (fs:List Form) (dx l d:Addr) (xs:List V) (_:vs=[.ref t, .str x, .str y]) (_:kE H C t n fs dx l d xs) (_:∀H',av H H'→Q (bD (cI n.same fs x y)) H'):xh C vs H Q u3
abbrev OM:Str:=Str.ofString "abcdefghijklmnopqrstuvwxyz"
theorem HC:OM.length=26:=by decide+kernel
theorem Ap(zs:List Str){i:Int}(h0:0≤i)(h:i<(zs.length:Int)):∃m,m∈zs∧rV (zs.map V.str) i=some (.str m):=by
 obtain⟨j,rfl⟩:=Int.eq_ofNat_of_zero_le h0;have hj:j<zs.length:=by lia
 exact⟨zs[j],List.getElem_mem hj,ar (by simp[hj])⟩
theorem oO(x y:Str):(x++y).cps.toList=x.cps.toList++y.cps.toList:=by
 show(x.cps++y.cps).toList=_;simp
def c_(H H':Hp):Prop:=∀t v,H t=some (.tup v)→H' t=some (.tup v)
theorem c_.same{H H':Hp}(s:av H H'):c_ H H':=fun t v h=>s _ _ h
theorem c_.lst{H:Hp}{l:Addr}{xs:List V}{o:HO}(h:H l=some (.lst xs)):c_ H (upd H l o):=fun t v e=>by
 rw[ao (iZ e h (by intro z;cases z))];exact e
theorem dS.cD{H H':Hp}{xs:List V}{fs:List Form}(T:dS H xs fs)(k:c_ H H'):dS H' xs fs:=⟨T.1,fun i f e=>let ⟨b,h1,h2⟩:=T.2 i f e;⟨b,h1,k _ _ h2⟩⟩
theorem dS.snoc{H:Hp}{xs:List V}{fs:List Form}{t:Addr}{f:Form}(T:dS H xs fs)(ht:H t=some (.tup (Ld f))):dS H (xs++[.ref t]) (fs++[f]):=by
 refine⟨by simp[T.1],fun i g e=>?_⟩;by_cases h:i<fs.length
 ·rw[ZZ h]at e;obtain⟨b,h1,h2⟩:=T.2 i g e;exact⟨b,by rw[ZZ (by rw[T.1];exact h)];exact h1,h2⟩
 ·have hi:i=fs.length:=by
   have:=(YG e).1;simp at this
   lia
  subst hi;have hg:f=g:=by simpa using e
  subst hg;exact⟨t,by rw[←T.1];simp,ht⟩
theorem HE{n j:Nat}(h:j<n):Et n (j:Int)=some j:=by
 unfold Et;rw[MJ Hy,MJ Hy];simp
theorem HF:OM.cps.toList=(ZR 26).map (97+·):=by decide+kernel
theorem EV{r:Int}:rV OM.cps.toList (r%26)=some (97+(r%26).toNat):=by
 have h0:0≤r%26:=by lia
 have h1:r%26<26:=by lia
 generalize r%26=m at h0 h1;obtain⟨j,rfl⟩:=Int.eq_ofNat_of_zero_le h0;refine ar ?_;have hj:j<26:=by lia
 rw[HF];simp[hj]
theorem BI(r:Int):low (97+(r%26).toNat)=true:=by
 have h1:(r%26).toNat≤25:=by lia
 simp[low]
 lia
def lows(z:Str):Prop:=z.cps.toList.all low=true
def jw(bQ:Str)(cell other:Int)(k:Nat):Str:=
 let size:=1+cell/2%12
 if cell%2=1 then Txt.slice bQ none (some (1+(size+k)%12))
 else Txt.slice bQ none (some (other%size))++⟨#[97+((other/12+k)%26).toNat]⟩++Txt.slice bQ (some (other%size+1)) (some size)
theorem xi{n d:Nat}{v:Int}(h0:0≤v)(h:v≤n):HT.kz n d (some v)=v.toNat:=by
 simp only[HT.kz];split<;>lia
theorem lM{z:Str}{v:Int}(h0:0≤v)(h:v≤z.length):(Txt.slice z none (some v)).cps.toList=z.cps.toList.take v.toNat:=by
 rw[vX,xi h0 h,HT.Ep];simp
theorem EW{z:Str}{u v:Int}(h0:0≤u)(h1:u≤v)(h:v≤z.length):(Txt.slice z (some u) (some v)).cps.toList=(z.cps.toList.drop u.toNat).take (v.toNat-u.toNat):=by
 rw[vX,xi h0 Hy,xi Hy h]
theorem len_list(z:Str):z.cps.toList.length=z.length:=by simp[Str.length]
theorem EX{z:Str}(h1:1≤z.length)(h2:z.length≤12)(h:lows z):sM z=true:=by
 have h:z.cps.toList.all low=true:=h;simp[sM,h1,h2,h]
theorem EY{bQ:Str}(hl:bQ.length=12)(hs:lows bQ)(cell other:Int)(k:Nat):sM (jw bQ cell other k)=true:=by
 have mZ:=List.all_eq_true.mp hs;have MW:=len_list bQ;have z0:1≤1+cell/2%12∧1+cell/2%12≤12:=by lia
 unfold jw;simp only;generalize 1+cell/2%12=size at z0;split
 ·have z1:1≤1+(size+(k:Int))%12∧1+(size+(k:Int))%12≤12:=by lia
  generalize 1+(size+(k:Int))%12=m at z1;have e:=lM (z:=bQ) (v:=m) (by lia) (by lia);have el:(Txt.slice bQ none (some m)).length=m.toNat:=by rw[←len_list,e,List.length_take,MW];lia
  refine EX Hy (by lia) ?_;unfold lows;rw[e,List.all_eq_true];exact fun c hc=>mZ c (List.mem_of_mem_take hc)
 ·have z1:0≤other%size∧other%size<size:=⟨Int.emod_nonneg _ (by lia),Int.emod_lt_of_pos _ (by lia)⟩
  generalize other%size=jl at z1;have e1:=lM (z:=bQ) (v:=jl) (by lia) (by lia);have e2:=EW (z:=bQ) (u:=jl+1) (v:=size) (by lia) (by lia) (by lia);have l1:(Txt.slice bQ none (some jl)).length=jl.toNat:=by rw[←len_list,e1,List.length_take,MW];lia
  have l2:(Txt.slice bQ (some (jl+1)) (some size)).length=size.toNat-(jl+1).toNat:=by rw[←len_list,e2,List.length_take,List.length_drop,MW];lia
  have el:(Txt.slice bQ none (some jl)++(⟨#[97+((other/12+(k:Int))%26).toNat]⟩:Str)++Txt.slice bQ (some (jl+1)) (some size)).length=size.toNat:=by
   rw[len_app,len_app,l1,l2];show jl.toNat+1+_=_
   lia
  refine EX Hy (by lia) ?_;unfold lows;rw[oO,oO,e1,e2,List.all_append,List.all_append];have a1:(bQ.cps.toList.take jl.toNat).all low=true:=List.all_eq_true.mpr fun c hc=>mZ c (List.mem_of_mem_take hc)
  have a2:((bQ.cps.toList.drop (jl+1).toNat).take (size.toNat-(jl+1).toNat)).all low=true:=List.all_eq_true.mpr fun c hc=>mZ c (List.mem_of_mem_drop (List.mem_of_mem_take hc))
  have a3:=BI (other/12+(k:Int));rw[a1,a2];simp[a3]
theorem Lh{A B:List Nat}{c:Nat}:(A++[c]++B)[A.length]?=some c:=XC
theorem EZ{bQ:Str}(hl:bQ.length=12)(cell other:Int){k k':Nat}(hk:k<12)(E2:k'<12)(e:jw bQ cell other k=jw bQ cell other k'):k=k':=by
 have MW:=len_list bQ;have z0:1≤1+cell/2%12∧1+cell/2%12≤12:=by lia
 unfold jw at e;simp only at e;generalize 1+cell/2%12=size at z0 e;split at e
 ·have e:=congrArg (fun z:Str=>z.cps.toList.length) e;rw[lM Hy (by lia),lM Hy (by lia),List.length_take,List.length_take,MW,hl]at e
  lia
 ·have z1:0≤other%size∧other%size<size:=⟨Int.emod_nonneg _ (by lia),Int.emod_lt_of_pos _ (by lia)⟩
  generalize other%size=jl at z1 e;have e1:=lM (z:=bQ) (v:=jl) (by lia) (by lia);have l1:(bQ.cps.toList.take jl.toNat).length=jl.toNat:=by rw[List.length_take,MW];lia
  have at_:∀c:Nat,(Txt.slice bQ none (some jl)++(⟨#[c]⟩:Str)++Txt.slice bQ (some (jl+1)) (some size)).cps.toList[jl.toNat]?=some c:=fun c=>by
   rw[oO,oO,e1];have:=Lh (A:=bQ.cps.toList.take jl.toNat) (B:=(Txt.slice bQ (some (jl+1)) (some size)).cps.toList) (c:=c);rw[l1]at this;exact this
  have e:=congrArg (fun z:Str=>z.cps.toList[jl.toNat]?) e;have e2:=(at_ _).symm.trans (e.trans (at_ _));have e3:=ZO e2
  lia
theorem Aq{bQ:Str}(hl:bQ.length=12)(cell other:Int){n:Nat}(hn:n≤12):((ZR n).map (jw bQ cell other)).Nodup:=by
 refine List.pairwise_map.mpr ?_;refine List.Pairwise.imp_of_mem (R:=fun a b=>a≠b) (fun{a b} ha hb h e=>h ?_) List.nodup_range;exact EZ hl cell other (by have:=List.mem_range.mp ha;lia) (by have:=List.mem_range.mp hb;lia) e
structure de(zs:List Str)(i j:Nat)(fs:List Form):Prop where
 ok:∀f∈fs,DP f=true
 nd:(fs.map lq).Nodup
 old:∀f∈fs,∃i' j',(i'<i∨(i'=i∧j'<j))∧zs[i']?=some f.1∧zs[j']?=some f.2.1
 uO:fs.length+(if i<j then 1 else 0)≤i*(zs.length-1)+j
theorem de.nil{zs:List Str}:de zs 0 0 []:=⟨XC,XC,XC,XC⟩
theorem de.skip{zs:List Str}{i j:Nat}{fs:List Form}(p:de zs i j fs):de zs i (j+1) fs:=by
 refine⟨p.ok,p.nd,fun f hf=>?_,?_⟩
 ·obtain⟨i',j',h,r⟩:=p.old f hf;exact⟨i',j',by lia,r⟩
 ·have:=p.uO;split<;>split at this<;>lia
theorem yU{zs:List Str}(hn:zs.Nodup){i j:Nat}{x:Str}(h1:zs[i]?=some x)(h2:zs[j]?=some x):i=j:=by
 obtain⟨a1,b1⟩:=YG h1;obtain⟨a2,b2⟩:=YG h2;exact(List.getElem_inj hn).mp (b1.trans b2.symm)
theorem de.add{zs:List Str}{i j:Nat}{fs:List Form}(p:de zs i j fs)(hn:zs.Nodup)(hw:∀z∈zs,sM z=true){x y:Str}(hx:zs[i]?=some x)(hy:zs[j]?=some y)(eQ:¬x=y){pr:Int}(h0:0≤pr)(h1:pr≤999999):
  de zs i (j+1) (fs++[(x,y,pr)]):=by
 have uQ:i≠j:=fun e=>eQ (by subst e;rw[hx]at hy;exact ZO hy)
 refine⟨fun f hf=>?_,?_,fun f hf=>?_,?_⟩
 ·rcases List.mem_append.mp hf with h|h
  ·exact p.ok f h
  ·have h:f=(x,y,pr):=by simpa using h
   rw[h];have a1:=hw x (ZI hx);have a2:=hw y (ZI hy);simp[DP,iz,a1,a2,eQ,inR,h0,h1]
 ·rw[List.map_append];refine List.nodup_append.mpr ⟨p.nd,XC,fun a ha b hb e=>?_⟩;have hb:b=lq (x,y,pr):=by simpa using hb
  rw[e,hb]at ha;obtain⟨f,hf,ef⟩:=List.mem_map.mp ha;obtain⟨e1,e2⟩:=(xg f x y).mp ef;obtain⟨i',j',h,r1,r2⟩:=p.old f hf;rw[e1]at r1;rw[e2]at r2;have:=yU hn r1 hx;have:=yU hn r2 hy
  lia
 ·rcases List.mem_append.mp hf with h|h
  ·obtain⟨i',j',h,r⟩:=p.old f h;exact⟨i',j',by lia,r⟩
  ·have h:f=(x,y,pr):=by simpa using h
   rw[h];exact⟨i,j,by lia,hx,hy⟩
 ·have:=p.uO;rw[List.length_append];show fs.length+1+_≤_;split<;>split at this<;>lia
theorem de.row{zs:List Str}{i:Nat}{fs:List Form}(p:de zs i zs.length fs)(hi:i<zs.length):de zs (i+1) 0 fs:=by
 refine⟨p.ok,p.nd,fun f hf=>?_,?_⟩
 ·obtain⟨i',j',h,r⟩:=p.old f hf;exact⟨i',j',by lia,r⟩
 ·have h:=p.uO;rw[MJ hi]at h;rw[Je Hy,Nat.succ_mul]
  lia
theorem de.good{zs:List Str}{fs:List Form}(p:de zs zs.length 0 fs)(h:zs.length≤8):bO fs=true:=by
 have h1:=p.uO;have h2:zs.length*(zs.length-1)≤8*7:=Nat.mul_le_mul h Hy;rw[Je Hy]at h1;have h3:fs.length≤60:=by lia
 have h4:fs.all DP=true:=List.all_eq_true.mpr p.ok;simp[bO,h3,h4,p.nd]
theorem tJ{fs:List Form}(h:bO fs=true):Short fs:=by
 simp only[bO,Bool.and_eq_true,decide_eq_true_eq,List.all_eq_true]at h;refine⟨by lia,fun f hf=>?_⟩;have h1:=h.1.2 f hf;simp only[DP,iz,sM,Bool.and_eq_true,decide_eq_true_eq]at h1
 lia
inductive tK(vs:List V)(H:Hp)(Q:VK)(u3:XK):Prop
 |mk (x y:Str) (same:Int) (l:Addr) (xs:List V) (fs:List Form) (_:vs=[.str x, .str y, .int same, .ref l]) (_:H l=some (.lst xs)) (_:dS H xs fs) (_:Q (bD (cI same fs x y)) H):tK vs H Q u3
theorem kF{zs:List Str}{i:Nat}{v:V}(h:(zs.map V.str)[i]?=some v):∃x,zs[i]?=some x∧v= .str x:=by
 rw[List.getElem?_map]at h;cases e:zs[i]? with
 |none=>rw[e]at h;cases h
 |some x=>rw[e]at h;exact⟨x,rfl,(ZO h).symm⟩
theorem E3{fs:List Form}{x y:Str}(h:∀f∈fs,¬(f.1=x∧f.2.1=y)):c7 fs x y=none:=by
 have:fs.find? (fun f=>decide (f.1=x∧f.2.1=y))=none:=by
  rw[List.find?_eq_none];intro f hf;simpa using h f hf
 unfold c7;rw[this];rfl
theorem rH:∀{fs:List Form}{i:Nat}{x y x0 y0:Str}{p:Int},fs[i]?=some (x0,y0,p)→(∀f∈fs.take i,¬(f.1=x∧f.2.1=y))→(x0=x∧y0=y)→c7 fs x y=some p
 |f::r,0,x,y,x0,y0,p,h,_,e=>by
  have h:f=(x0,y0,p):=by simpa using h
  rw[h];simp[c7,List.find?_cons,e.1,e.2]
 |f::r,i+1,x,y,x0,y0,p,h,hn,e=>by
  have h1:¬(f.1=x∧f.2.1=y):=hn f Vs;have:=rH (fs:=r) (i:=i) (x:=x) (y:=y) (by simpa using h) (fun g hg=>hn g (by simp[hg])) e;simpa[c7,List.find?_cons,h1]using this
theorem HH(w:Str)(zs:List Str):Qz (.str w) (zs.map V.str)=decide (w∈zs):=by
 unfold Qz;rw[Bool.eq_iff_iff];simp[qt]
def sw(f:Form):Form:=(f.2.1,f.1,f.2.2)
inductive nF(K:W.Frag)(vs:List V)(H:Hp)(Q:VK)(u3:XK):Prop
 |mk (a:Addr) (ns:List Int) (k:Int) (_:vs=[.ref a, .int k]) (_:ir K H a (ns.map V.int)) (_:0≤k) (_:∀H' D (s o i l:Int),av H H'→H D=none→H' D=some (.lst [.int s, .int o, .int i, .int l])→(1≤s∧s≤999999)→(0≤o∧o≤999999)→(0≤i∧i≤999999)→(1≤l∧l≤999999)→Q (.ref D) H'):nF K vs H Q u3
theorem kE.same{H H':Hp}{C x:Addr}{n:Nums}{fs:List Form}{dx l d:Addr}{xs:List V}(T:kE H C x n fs dx l d xs)(s:av H H'):kE H' C x n fs dx l d xs:=⟨s _ _ T.ob,s _ _ T.own,s _ _ T.li,T.tr.same s,s _ _ T.di⟩
theorem HI{is:List Int}(h:is.length=4):∃a b c d,is=[a,b,c,d]:=by
 match is,h with
 |[a,b,c,d],_=>exact⟨a,b,c,d,rfl⟩
theorem SameBut.As{x dx C:Addr}{H H':Hp}(hx:H x=none)(E4:H dx=none)(s:SameBut x (L2.upd (L2.upd H dx (.own x)) x (.ins C dx [])) H'):av H H':=fun b u e=>by
 have n1:b≠x:=aF e hx;have n2:b≠dx:=aF e E4;exact s b u n1 (by rw[ao n1,ao n2];exact e)
end QF
namespace L2
open PySem PySem.Spec PyProof.Rows PySem.W PySem.Calls
section
variable{X:Cx}{pins:List (Addr×Obj)}{σ:St}{H:Hp}{s:Shared}{h':Heap}
theorem Inv.HJ{t':Nat}{fp:List Addr}(I:Inv X pins σ H s)(hf:∀b∈fp,iu X pins H b)(k:∀b o,b∉fp→s.heap.get? b=some o→h'.get? b=some o):Inv X pins σ H {s with heap:=h',toks:=t'}:=by
 have IZ:∀b u,H b=some u→b∉fp:=fun b u e z=>by rw[(hf b z).1]at e;cases e
 refine I.step (g':=s.gens) (d':=s.drawn) (ch:=fp) (fun b hb=>?_) (fun b o _ _ hc e _=>k b o hc e) (fun b o _ _ hc e _=>⟨o.slots,k b o hc e⟩) (fun _ _ _ _ n=>n)
  (fun b o hc e=>⟨o,k b o hc e⟩) (fun _ _ e=>e) (fun _ _ _ e=>e) (fun b ps e=>⟨#[],by rw[e];simp⟩) (fun m hm=>?_) (fun b u e=>?_) I.bare
 ·obtain⟨_,f1,_,f3,f4,f5⟩:=hf b hb;exact⟨f3,f1,f4,f5⟩
 ·obtain⟨o,es,ep,ho,r⟩:=hm;exact⟨o,es,ep,k _ o (fun z=>(hf _ z).2.1 rfl) ho,r⟩
 ·refine(I.bX b u e).wF (fun c v hc q=>k c v ?_ q) (fun _ q=>q) fun _ _ q=>q
  rcases hc with z|z
  ·rw[z];exact IZ b u e
  ·exact IZ c _ z
theorem Inv.BJ{t':Nat}{fp:List Addr}{T:Addr}{u:HO}(I:Inv X pins σ H s)(hf:∀b∈fp,iu X pins H b)(hT:iu X pins H T)(k:∀b o,b∉fp→s.heap.get? b=some o→h'.get? b=some o)
  (new:cR X.prog X.w (upd H T u) h' T u):Inv X pins σ (upd H T u) {s with heap:=h',toks:=t'}:=by
 have IZ:∀b u,H b=some u→b∉fp:=fun b u e z=>by rw[(hf b z).1]at e;cases e
 have nT:∀b v,H b=some v→b≠T:=fun b v e z=>by rw[z,hT.1]at e;cases e
 refine I.step (g':=s.gens) (d':=s.drawn) (ch:=T::fp) (fun b hb=>?_) (fun b o _ _ hc e _=>k b o (fun z=>hc (Θ z)) e) (fun b o _ _ hc e _=>⟨o.slots,k b o (fun z=>hc (Θ z)) e⟩) (fun b _ hc _ n=>?_)
  (fun b o hc e=>⟨o,k b o (fun z=>hc (Θ z)) e⟩) (fun b xs e=>by rw[ao (nT b _ e)];exact e) (fun b o v e=>by rw[ao (nT b _ e)];exact e) (fun b ps e=>⟨#[],by rw[ao (nT b _ e),e];simp⟩) (fun m hm=>?_) (fun b v e=>?_) I.bare
 ·rcases List.mem_cons.mp hb with z|z
  ·subst z;obtain⟨_,f1,_,f3,f4,f5⟩:=hT;exact⟨f3,f1,f4,f5⟩
  ·obtain⟨_,f1,_,f3,f4,f5⟩:=hf b z;exact⟨f3,f1,f4,f5⟩
 ·rw[ao (fun z=>hc (by simp[z]))];exact n
 ·obtain⟨o,es,ep,ho,r⟩:=hm;exact⟨o,es,ep,k _ o (fun z=>(hf _ z).2.1 rfl) ho,r⟩
 ·by_cases hb:b=T
  ·subst hb;rw[ae]at e;cases e;exact new
  ·rw[ao hb]at e;refine(I.bX b v e).wF (fun c v' hc q=>k c v' ?_ q) (fun c q=>by rw[ao (nT c _ q)];exact q) fun c xs q=>by rw[ao (nT c _ q)];exact q
   rcases hc with z|z
   ·rw[z];exact IZ b v e
   ·exact IZ c _ z
theorem Inv.swap{d:Addr}{u u':HO}(I:Inv X pins σ H s)(e:H d=some u)(ht:∀xs,u≠ .tup xs)(ho:∀x,u≠ .own x)(hb:∀ps,u≠ .GV ps)(hf:∀o v,X.eR d≠some (.sE o v))(new:cR X.prog X.w (upd H d u') s.heap d u'):Inv X pins σ (upd H d u') s:=by
 have nd:∀b,H b=none→b≠d:=fun b n z=>by rw[z,e]at n;cases n
 have nt:∀b xs,H b=some (.tup xs)→b≠d:=fun b xs q z=>by rw[z,e]at q;cases q;exact ht xs rfl
 have no:∀b x,H b=some (.own x)→b≠d:=fun b xs q z=>by rw[z,e]at q;cases q;exact ho xs rfl
 refine⟨I.ok,I.os,I.bare,⟨I.base.keep,I.base.slot,fun b o q n hx=>?_,I.base.there,fun b xs q=>?_,fun b o v q=>?_,fun b ps q=>?_⟩,I.loc,I.cell,?_,fun x c q=>?_,fun p hp=>?_,fun b v q=>?_,I.len⟩
 ·have z:=I.base.free b o q n hx;rw[ao (nd b z)];exact z
 ·have z:=I.base.cD b xs q;rw[ao (nt b xs z)];exact z
 ·have z:=I.base.ot b o v q;rw[ao (fun y=>by subst y;exact hf o v q)];exact z
 ·obtain⟨m,z⟩:=I.base.rT b ps q;exact⟨m,by rw[ao (fun y=>by rw[y,e]at z;cases z;exact hb _ rfl)];exact z⟩
 ·rw[ao (nd _ I.free)];exact I.free
 ·rw[ao (nd _ (I.mU x c q))];exact I.mU x c q
 ·obtain⟨p1,p2,p3⟩:=I.pin p hp;exact⟨p1,by rw[ao (nd _ p2)];exact p2,p3⟩
 ·by_cases Vw:b=d
  ·subst Vw;rw[ae]at q;cases q;exact new
  ·rw[ao Vw]at q;exact(I.bX b v q).wF (fun c v' _ z=>z) (fun c z=>by rw[ao (no c _ z)];exact z) fun c xs z=>by rw[ao (nt c _ z)];exact z
end
def MY(K:Frag)(a:Addr):It:=
 ⟨fun i H=>∃xs x,ir K H a xs∧xs[i]?=some x,fun i H x H'=>∃T y,x= .ref T∧H T=none∧H'=upd H T (.tup [.int i,y])∧∀xs,ir K H a xs→xs[i]?=some y,fun i H=>∃xs,ir K H a xs∧xs.length≤i⟩
theorem CV{P:Program}{w:World}{K:Frag}{elts:List Expr}{n:Nat}{pos:Pos}(a e it:Addr)(eQ:e≠it):
  Turn P w K (.Tuple elts n pos) (MY K a) [e,it] e (fun i h=>(∃old,IsEnum h e it (i:Nat) old)∧h.IsListIter it a i) where
 mem:=XC
 obj:=fun i h st b hb=>by
  obtain⟨⟨old,s1⟩,o,s2,_,s3⟩:=st;rcases List.mem_cons.mp hb with z|z
  ·subst z;exact⟨_,s1,fun v z=>by
    have z':Data.fields _=Data.cell v:=z;cases z'⟩
  ·have e:b=it:=by simpa using z
   subst e;exact⟨o,s2,fun v z=>by rw[s3]at z;cases z⟩
 keep:=fun i h h' st k=>⟨⟨st.1.choose,k e Vs _ st.1.choose_spec⟩,st.2.at fun o q=>k it (XC) o q⟩
 item:=by
  intro X hP hw hK hc i pins s σ H E I hf st hg;subst hP hw hK;obtain⟨xs,x,hq,hx⟩:=hg;obtain⟨⟨old,s1⟩,s2⟩:=st;obtain⟨its,rv,p,hz⟩:=I.list hq;obtain⟨u,hu,ru⟩:=rv.get hx;refine wpAny_pyNext_enum_item s1 s2 p.isList (x:=u) (by simpa using hu) eQ fun h' o1 o2 o3 o4 o5=>?_
  refine⟨_,rfl,wpAny_letOwnedTupleGo_enum (s:={s with heap:=h',toks:=s.toks+1}) o1 fun h2 q1 q2=>?_⟩;have uW:h2.get? s.heap.objs.size=some {cls:=Value.type "tuple",data:=Data.seq #[Value.int (↑i) s.toks,u]}:=by
   exact(q2.2 _ (Nat.ne_of_gt (ZS s1))).trans o3
  have hT:iu X pins H s.heap.objs.size:=I.uU ZT (I.bX.fresh ZT);have I1:Inv X pins σ (upd H s.heap.objs.size (.tup [.int i,x])) {s with heap:=h2,toks:=s.toks+1}:=by
   refine I.BJ hf hT (fun b o hb q=>?_) ⟨by simp[sizeLine],[Value.int (↑i) s.toks,u], .cons ⟨_,rfl⟩ (.cons ru .nil),?_⟩
   ·have b1:b≠e:=fun z=>hb (by simp[z])
    have b2:b≠it:=fun z=>hb (by simp[z])
    exact(q2.2 b b1).trans (o5 b o b1 b2 q)
   ·exact⟨_,uW,rfl,_,rfl⟩
  refine⟨.ref s.heap.objs.size,_,I1,rfl,⟨_,x,rfl,hT.1,rfl,fun ys hy=>by rw[I.yG hy hq];exact hx⟩,⟨⟨u,by simpa using q1⟩,o2.at fun o q=>(q2.2 it (Ne.symm eQ)).trans q⟩,fun b hb=>?_⟩;rw[ao (fun z=>?_)]
  ·exact(hf b hb).1
  ·have h1:=Heap.lt_size s1;obtain⟨_,h2,_⟩:=s2;have h3:=ZS h2;rcases List.mem_cons.mp hb with y|y
   ·rw[z.symm.trans y]at h1;exact Z1 h1 (Nat.lt_irrefl _)
   ·have:b=it:=by simpa using y
    rw[z.symm.trans this]at h3;exact Z1 h3 (Nat.lt_irrefl _)
 done:=by
  intro X hP hw hK hc i pins s σ H E I hf st hg;subst hP hw hK;obtain⟨xs,hq,hx⟩:=hg;obtain⟨⟨old,s1⟩,s2⟩:=st;obtain⟨its,rv,p,hz⟩:=I.list hq;have hl:=rv.length;exact wpAny_pyNext_enum_end (I.ok.hd hc) s1 s2 p.isList (by simp;lia) fun h' eb=>⟨rfl,I.HJ (t':=s.toks) hf (fun b o hb q=>eb b o (fun z=>hb (by simp[z])) q)⟩
 self:=fun _ _ _ _ _ st h=>wpAny_pyIter_enum st.1.choose_spec h
section
variable{X:Cx}{tg:Expr}
def Jv(K:Frag)(ta:TA):TI:=fun σ H R=>ta σ H fun vs H1=>∃a,vs=[.ref a]∧(∃xs,ir K H1 a xs)∧R (MY K a) H1
theorem HK{elts:List Expr}{n:Nat}{tp:Pos}{a:Expr}{ta:TA}{p pos:Pos}(hg:Gl X "enumerate")(hm:X.mg "enumerate"=none)(ha:PA X [a] ta)(hs:starEach [a] X.env=[(false,eval a X.env)]:=by rfl):
  PI X (.Tuple elts n tp) (.Call (.Name "enumerate" p) [a] [] pos) (Jv X.K ta):=by
 intro pins s σ H R I h;refine Call_ (lF I hg hm boot_enumerate (PyProof.Rows.callWith_type1 (cJ (ha pos pins s σ H _ I h) fun us s1 ⟨vs,H1,I1,r1,q1⟩=>?_) hs rfl));obtain⟨l,e,⟨xs,hq⟩,q⟩:=q1;subst e;cases r1 with
 |cons r rr=>
  cases rr;cases r;obtain⟨its,rv,p,hz⟩:=I1.list hq;refine call_enumerate_list p.isList fun h' o1 o2 o3 o4=>?_
  refine wpAny_pyIter_enum (s:={s1 with heap:=h'}) o1 ?_;refine⟨s1.heap.objs.size+1,[s1.heap.objs.size+1,s1.heap.objs.size],_,_,H1,rfl,I1.kept (t':=s1.toks) o4,CV l _ _ (Nat.succ_ne_self _),⟨⟨_,o1⟩,o2⟩,fun b hb=>?_,q⟩;have MZ:s1.heap.objs.size≤b:=by
   rcases List.mem_cons.mp hb with y|y
   ·rw[y];exact Nat.le_succ _
   ·have:b=s1.heap.objs.size:=by simpa using y
    exact Nat.le_of_eq this.symm
  exact I1.uU MZ (I1.bX.fresh MZ)
end
theorem oP{X:Cx}(K:Frag){elts:List Expr}{n:Nat}{tp:Pos}{a:Expr}{ta:TA}{p pos:Pos}(hg:Gl X "enumerate")(hm:X.mg "enumerate"=none)(ha:PA X [a] ta)(hs:starEach [a] X.env=[(false,eval a X.env)]:=by rfl)(h:X.K=K:=by rfl):
  PI X (.Tuple elts n tp) (.Call (.Name "enumerate" p) [a] [] pos) (Jv K ta):=h▸HK hg hm ha hs
theorem yV{K:Frag}{a:Addr}{xs:List V}{g:TG}{tb:TS}{D:Ends}{σ:St}{H:Hp}(Pv:Nat→St→Hp→Prop)(h0:Pv 0 σ H)(hl:∀i σ H,i≤xs.length→Pv i σ H→ir K H a xs)
  (hs:∀i x T σ H,xs[i]?=some x→Pv i σ H→H T=none→g (.ref T) σ (upd H T (.tup [.int i,x])) fun fG H2=>tb {D with nx:=Pv (i+1),ct:=Pv (i+1),bk:=D.nx} fG H2) (hd:∀σ H,Pv xs.length σ H→D.nx σ H):
  ∃W:Nat→Nat→St→Hp→Prop,(∃m,W 0 m σ H)∧∀i m σ H,W i m σ H→
   ((MY K a).stop i H∧D.nx σ H)∨((MY K a).go i H∧∃N:St→Hp→Prop,(∀bB H',N bB H'→∃m',m'<m∧W (i+1) m' bB H')∧∀x H',(MY K a).GY i H x H'→g x σ H' fun fG H2=>tb {D with nx:=N,ct:=N,bk:=D.nx} fG H2):=by
 refine⟨fun i m σ H=>m=xs.length-i∧i≤xs.length∧Pv i σ H,⟨xs.length,XC,Nat.zero_le _,h0⟩,?_⟩;rintro i m σ H ⟨rfl,hi,p⟩;have hq:=hl i σ H hi p;by_cases ic:i<xs.length
 ·refine .inr ⟨⟨xs,xs[i],hq,by simp[ic]⟩,Pv (i+1),fun bB H' p'=>⟨xs.length-(i+1),by lia,rfl,ic,p'⟩,fun x H' y=>?_⟩;obtain⟨T,y,rfl,hT,rfl,hy⟩:=y;exact hs i y T σ H (hy xs hq) p hT
 ·have e:i=xs.length:=by lia
  subst e;exact .inl ⟨⟨xs,hq,Nat.le_refl _⟩,hd σ H p⟩
def NF(eR:Hp)(d:Addr):Prop:=∀o v,eR d≠some (.sE o v)
section
variable{X:Cx}{tg:Expr}
end
end L2
namespace QF
open PySem L2
inductive xj(K:W.Frag)(vs:List V)(H:Hp)(Q:VK)(u3:XK):Prop
 |mk (a b:Addr) (ns:List Int) (zs:List Str) (c p m:Int) (_:vs=[.ref a, .int c, .int p, .int m, .ref b]) (_:ir K H a (ns.map V.int)) (_:H b=some (.lst (zs.map V.str))) (_:(1≤zs.length∧zs.length≤1000)) (_:0≤p) (_:0≤m) (_:m≤1000) (_:∀H' l (ws:List Str),av H H'→H l=none→H' l=some (.lst (ws.map V.str))→ws.length=m.toNat→(∀w∈ws,w∈zs)→Q (.ref l) H'):xj K vs H Q u3
end QF
namespace L2
open PySem PySem.Spec PyProof.Rows PySem.W PySem.Calls
section
variable{X:Cx}
theorem HL(K:Frag){T:String}{name:Str}{id:String}{r:V→List V→Hp→VK→Prop}{o:Expr}{apos eD:Pos}{to:TE}(pa:PlainAttrs T)(slot:Slot T name id)(DO:typeOf (.builtin id)=pure (.type "method_descriptor"))(hm:Qy X id r)(ho:PE X o to)
  (oG:attributeBase o name X.env (eval o X.env)=eval o X.env:=by rfl) (oH:(apos.endLine==eD.line)=true:=by rfl) (hK:X.K=K:=by rfl):PE X (.Call (.Attribute o name apos) [] [] eD) (Of K T r to):=hK▸K2 pa slot DO hm ho oG oH
end
end L2
namespace QF
open PySem L2
def SG(c:Nat):Bool:=decide (65≤c)&&decide (c≤90)
def conv(c:Nat):Nat:=if low c=true then c else if SG c=true then c+32 else 32
abbrev great:Str:=Str.ofString "ABCDEFGHIJKLMNOPQRSTUVWXYZ"
def rd(st:KWd.St)(cs:List Nat):KWd.St:=(cs.map conv).foldl KWd.step st
abbrev both:Str:=Str.ofString "abcdefghijklmnopqrstuvwxyzABCDEFGHIJKLMNOPQRSTUVWXYZ"
abbrev marks:Str:=Str.ofString " .,-'0123456789!?()[]{}@`_~/:;<=>#$&*+|^\\\""
end QF
namespace L2
open PySem PySem.Spec PyProof.Rows PySem.W PySem.Calls
section
variable{X:Cx}
def Vx(xs ys:List V)(f:Nat→Bool):Prop:=∀(j:Nat)(x y:V),xs[j]?=some x→ys[j]?=some y→(i7 x=true∧i7 y=true∧f j=qt x y)∨(∃a,x= .ref a∧y= .ref a∧f j=true)
theorem E5{A:Around}{s:Shared}{xs ys:List V}{its dQ:List Value}{f:Nat→Bool}(r:Vals xs its)(r2:Vals ys dQ)(h:Vx xs ys f):
  ∀j (h1:j<its.toArray.size) (h2:j<dQ.toArray.size),SeqAt.EqAt A s its.toArray[j] dQ.toArray[j] (f j):=fun j h1 h2=>by
 have Jw:j<xs.length:=by have:=r.length;simp at h1;lia
 have Jx:j<ys.length:=by have:=r2.length;simp at h2;lia
 obtain⟨a1,e1,q1⟩:=r.get (i:=j) (x:=xs[j]) (by simp[Jw]);obtain⟨a2,e2,q2⟩:=r2.get (i:=j) (x:=ys[j]) (by simp[Jx]);have g1:its.toArray[j]=a1:=by simpa[List.getElem?_eq_some_iff]using(YG e1).2
 have g2:dQ.toArray[j]=a2:=by simpa[List.getElem?_eq_some_iff]using(YG e2).2
 rw[g1,g2];rcases h j xs[j] ys[j] (by simp[Jw]) (by simp[Jx])with⟨f1,f2,ef⟩|⟨a,ex,ey,ef⟩
 ·rw[ef];exact tq q1 q2 f1 f2
 ·rw[ef];rw[ex]at q1;rw[ey]at q2;cases q1;cases q2;exact SeqAt.EqAt.same _
inductive ON(K:Frag)(x:V)(y:V)(H:Hp)(Q:VK):Prop
 |mk (p:_) (q:_) (xs:_) (ys:_) (f:_) (_:x= .ref p) (_:y= .ref q) (_:ir K H p xs) (_:ir K H q ys) (_:Vx xs ys f) (_:Q (.bl (decide (xs.length=ys.length)&&(ZR xs.length).all f)) H):ON K x y H Q
theorem yW(K:Frag)(hu:X.A.units<cLine)(hK:X.K=K:=by rfl):qg X (compareOp .Eq) (ON K):=by
 subst hK;intro pins s σ H x y v u Q I rx ry h;obtain⟨p,q,xs,ys,f,rfl,rfl,hp,hq,hf,k⟩:=h;cases rx;cases ry;obtain⟨its,r,pl,hz⟩:=I.list hp;obtain⟨dQ,r2,HB,MV⟩:=I.list hq;have l1:=r.length;have l2:=r2.length;obtain⟨⟨cls,dd,data,sl⟩,ho,hc,n,hd⟩:=id pl.isList;obtain⟨⟨Lg,EU,data2,yt⟩,yu,uP,n2,hd2⟩:=id HB.isList;simp only at hc hd uP hd2;subst hc hd uP hd2;by_cases e:xs.length=ys.length
 ·have hsz:its.toArray.size=dQ.toArray.size:=by rw[List.size_toArray,List.size_toArray];lia
  refine richCompare_meets_room (op:= .Eq) ⟨_,ho,rfl⟩ ⟨_,yu,rfl⟩ F.slot_list_eq F.entry_list_eq (F.args_list_eq_2 _ _) (SeqAt.list_eqAt p q its.toArray dQ.toArray n n2 dd EU sl yt hsz f) ⟨ho,yu,E5 r r2 hf,?_⟩ hu;rw[decide_eq_true e,Bool.true_and]at k;refine⟨(fun x=>nomatch x), .bl ((ZR xs.length).all f),H,I,?_,k⟩;rw[List.size_toArray,←l1];rfl
 ·have hsz:(its.toArray.size !=dQ.toArray.size)=true:=by
   rw[List.size_toArray,List.size_toArray];simp;lia
  refine richCompare_meets_room (op:= .Eq) ⟨_,ho,rfl⟩ ⟨_,yu,rfl⟩ F.slot_list_eq F.entry_list_eq (F.args_list_eq_2 _ _) (SeqAt.list_eq_lengthsAt p q its.toArray dQ.toArray n n2 dd EU sl yt hsz) ⟨ho,yu,?_⟩ hu;rw[decide_eq_false e,Bool.false_and]at k;exact⟨(fun x=>nomatch x), .bl false,H,I,rfl,k⟩
end
section
variable{X:Cx}
end
end L2
namespace QF
open PySem L2
abbrev Pr:=Int×Int
def jk(p:Pr):List V:=[.int p.1, .int p.2]
def fT(H:Hp)(vs:List V)(ps:List Pr):Prop:=vs.length=ps.length∧∀(i:Nat)(p:Pr),ps[i]?=some p→∃t,vs[i]?=some (V.ref t)∧H t=some (.tup (jk p))
theorem fT.nil{H:Hp}:fT H [] []:=⟨rfl,fun i f e=>by simp at e⟩
theorem fT.cD{H H':Hp}{xs:List V}{fs:List Pr}(T:fT H xs fs)(k:c_ H H'):fT H' xs fs:=⟨T.1,fun i f e=>let ⟨b,h1,h2⟩:=T.2 i f e;⟨b,h1,k _ _ h2⟩⟩
theorem fT.same{H H':Hp}{xs:List V}{fs:List Pr}(t:fT H xs fs)(s:av H H'):fT H' xs fs:=t.cD (c_.same s)
theorem fT.append{H:Hp}{xs ys:List V}{fs gs:List Pr}(T:fT H xs fs)(U:fT H ys gs):fT H (xs++ys) (fs++gs):=by
 refine⟨by simp[T.1,U.1],fun i p e=>?_⟩;by_cases h:i<fs.length
 ·rw[ZZ h]at e;obtain⟨b,h1,h2⟩:=T.2 i p e;exact⟨b,by rw[ZZ (by rw[T.1];exact h)];exact h1,h2⟩
 ·rw[Α Hy]at e;obtain⟨b,h1,h2⟩:=U.2 _ p e;exact⟨b,by rw[Α (by rw[T.1];lia),T.1];exact h1,h2⟩
theorem fT.one{H:Hp}{t:Addr}{p:Pr}(ht:H t=some (.tup (jk p))):fT H [.ref t] [p]:=by
 refine⟨rfl,fun i q e=>?_⟩
 match i,e with
 |0,e=>cases e;exact⟨t,rfl,ht⟩
 |i+1,e=>simp at e
theorem fT.snoc{H:Hp}{xs:List V}{fs:List Pr}{t:Addr}{f:Pr}(T:fT H xs fs)(ht:H t=some (.tup (jk f))):fT H (xs++[.ref t]) (fs++[f]):=T.append (.one ht)
def pr(ps:List Pr)(k:Nat):Pr:=ps.getD k (0,0)
theorem Jy{ps:List Pr}{k:Nat}(h:k<ps.length):ps[k]?=some (pr ps k):=by
 simp[pr,h]
theorem fT.Li{H:Hp}{xs:List V}{ps:List Pr}(T:fT H xs ps){k:Nat}(h:k<ps.length):∃t,xs[k]?=some (V.ref t)∧H t=some (.tup [.int (pr ps k).1, .int (pr ps k).2]):=T.2 k _ (Jy h)
theorem gZ{ps:List Pr}{p:Pr}{k:Nat}(h:k<ps.length):pr (ps++[p]) k=pr ps k:=by
 simp[pr,List.getD_eq_getElem?_getD,ZZ h]
theorem sO{ps:List Pr}{p:Pr}:pr (ps++[p]) ps.length=p:=by
 simp[pr,List.getD_eq_getElem?_getD]
structure Case where
 xs:List Str
 ys:List Str
 same:Int
 out:Int
 into:Int
 least:Int
 fs:List Form
structure jx(H:Hp)(a:Addr)(c:Case)(f g m l:Addr)(vs:List V):Prop where
 ca:H a=some (.lst [.ref f, .ref g, .ref m, .ref l])
 fi:H f=some (.lst (c.xs.map V.str))
 se:H g=some (.lst (c.ys.map V.str))
 nu:H m=some (.lst [.int c.same, .int c.out, .int c.into, .int c.least])
 ne:H l=some (.lst vs)
 tr:dS H vs c.fs
theorem jx.keep{H H':Hp}{a:Addr}{c:Case}{f g m l:Addr}{vs:List V}(C:jx H a c f g m l vs)(s:av H H'):jx H' a c f g m l vs:=⟨s _ _ C.ca,s _ _ C.fi,s _ _ C.se,s _ _ C.nu,s _ _ C.ne,C.tr.same s⟩
structure eX(most:Nat)(c:Case):Prop where
 x:c.xs.length≤most
 y:c.ys.length≤most
 good:bO c.fs=true
 same:1≤c.same∧c.same≤999999
 out:0≤c.out∧c.out≤999999
 into:0≤c.into∧c.into≤999999
 least:1≤c.least∧c.least≤999999
def wd(xs:List Str)(i:Int):Option Str:=if 0≤i then xs[i.toNat]? else none
theorem tL{xs:List Str}{i:Nat}:wd xs (i:Int)=xs[i]?:=by simp[wd]
theorem v7{xs:List Str}{i:Int}(h0:0≤i)(h:i<(xs.length:Int)):∃x,wd xs i=some x∧rV (xs.map V.str) i=some (.str x):=by
 obtain⟨j,rfl⟩:=Int.eq_ofNat_of_zero_le h0;have hj:j<xs.length:=by lia
 exact⟨xs[j],by rw[tL];simp[hj],ar (by simp[hj])⟩
theorem BK{xs:List Str}{i:Int}{x:Str}(h:wd xs i=some x):0≤i∧i<(xs.length:Int):=by
 unfold wd at h;split at h
 ·have:=(YG h).1
  lia
 ·cases h
def Case.pw(c:Case)(p:Pr):Option Int:=(wd c.xs p.1).bind fun x=>(wd c.ys p.2).bind fun y=>cI c.same c.fs x y
theorem Case.pw_of{c:Case}{p:Pr}{x y:Str}(h1:wd c.xs p.1=some x)(h2:wd c.ys p.2=some y):c.pw p=cI c.same c.fs x y:=by simp[Case.pw,h1,h2]
theorem Case.pw_in{c:Case}{p:Pr}{w:Int}(h:c.pw p=some w):(0≤p.1∧p.1<(c.xs.length:Int))∧(0≤p.2∧p.2<(c.ys.length:Int)):=by
 unfold Case.pw at h;cases e1:wd c.xs p.1 with
 |none=>rw[e1]at h;cases h
 |some x=>
  cases e2:wd c.ys p.2 with
  |none=>rw[e1,e2]at h;cases h
  |some y=>exact⟨BK e1,BK e2⟩
theorem Case.pw_out{c:Case}{p:Pr}(h:¬((0≤p.1∧p.1<(c.xs.length:Int))∧(0≤p.2∧p.2<(c.ys.length:Int)))):c.pw p=none:=by
 cases e:c.pw p with
 |none=>rfl
 |some w=>exact Z1 (c.pw_in e) h
def stepOk(q p:Pr):Bool:=decide (q.1<p.1)&&decide (q.2<p.2)
def Case.gap(c:Case)(q p:Pr):Int:=c.out*(p.1-q.1-1)+c.into*(p.2-q.2-1)
def dE(c:Case)(ps:List Pr)(k:Nat):Bool:=(c.pw (pr ps k)).isSome&&(decide (k=0)||stepOk (pr ps (k-1)) (pr ps k))
def lN(c:Case)(ps:List Pr)(n:Nat):Prop:=∀k,k<n→dE c ps k=true
def la(c:Case)(ps:List Pr):Bool:=!ps.isEmpty&&(ZR ps.length).all (dE c ps)
def dG(c:Case)(ps:List Pr):Nat→Int
 |0=>(c.pw (pr ps 0)).getD 0
 |k+1=>(c.pw (pr ps (k+1))).getD 0+dG c ps k-c.gap (pr ps k) (pr ps (k+1))
theorem my{c:Case}{ps:List Pr}(h:ps≠[])(g:lN c ps ps.length):la c ps=true:=by
 have h1:ps.isEmpty=false:=by simpa using h
 have h2:(ZR ps.length).all (dE c ps)=true:=List.all_eq_true.mpr fun k hk=>g k (by simpa using hk)
 simp[la,h1,h2]
theorem E6{c:Case}{ps:List Pr}{k:Nat}(hk:k<ps.length)(g:dE c ps k=false):la c ps=false:=by
 have h2:(ZR ps.length).all (dE c ps)=false:=by
  rw[Bool.eq_false_iff];intro z;rw[List.all_eq_true]at z;rw[z k (by simpa using hk)]at g;cases g
 simp[la,h2]
theorem kG{c:Case}{ps:List Pr}(h:la c ps=true):ps≠[]∧lN c ps ps.length:=by
 simp only[la,Bool.and_eq_true,List.all_eq_true]at h;refine⟨fun z=>by subst z;simp at h,fun k hk=>h.2 k (by simpa using hk)⟩
theorem lN.next{c:Case}{ps:List Pr}{n:Nat}(h:lN c ps n)(g:dE c ps n=true):lN c ps (n+1):=fun k hk=>by
 by_cases e:k=n
 ·rw[e];exact g
 ·exact h k (by lia)
theorem HM{c:Case}{ps:List Pr}{k:Nat}(h:dE c ps k=true):∃w,c.pw (pr ps k)=some w:=by
 simp only[dE,Bool.and_eq_true]at h;exact Option.isSome_iff_exists.mp h.1
theorem CW{c:Case}{ps:List Pr}{p:Pr}(g:lN c ps ps.length)(h:(c.pw p).isSome=true)(f:ps=[]∨stepOk (pr ps (ps.length-1)) p=true):lN c (ps++[p]) (ps.length+1):=fun k hk=>by
 by_cases e:k<ps.length
 ·have:=g k e;simp only[dE]at this⊢;rw[gZ e];by_cases k0:k=0
  ·subst k0;simpa using this
  ·rw[gZ (by lia:k-1<ps.length)];exact this
 ·have:k=ps.length:=by lia
  subst this;simp only[dE];rw[sO,h];rcases f with f|f
  ·subst f;rfl
  ·by_cases e0:ps.length=0
   ·simp[e0]
   ·rw[gZ Hy,f];simp
structure Jz(c:Case):Prop where
 out:0≤c.out∧c.out≤999999
 into:0≤c.into∧c.into≤999999
theorem eX.num{m:Nat}{c:Case}(h:eX m c):Jz c:=⟨h.out,h.into⟩
def yX(H:Hp)(CT t:Addr)(c:Case):Prop:=∃n dx l d vs,kE H CT t n c.fs dx l d vs∧n.same=c.same∧n.out=c.out∧n.into=c.into∧n.least=c.least
theorem yX.keep{H H':Hp}{CT t:Addr}{c:Case}(T:yX H CT t c)(s:av H H'):yX H' CT t c:=by
 obtain⟨n,dx,l,d,vs,T,r⟩:=T;exact⟨n,dx,l,d,vs,T.same s,r⟩
inductive tM(K:W.Frag)(vs:List V)(H:Hp)(Q:VK)(u3:XK):Prop
 |mk (a b x:Addr) (ns:List Int) (zs ws:List Str) (c p m:Int) (_:vs=[.ref a, .int c, .int p, .int m, .ref x, .ref b]) (_:ir K H a (ns.map V.int)) (_:H b=some (.lst (zs.map V.str))) (_:H x=some (.lst (ws.map V.str))) (_:(1≤zs.length∧zs.length≤1000)) (_:ws.length≤1000) (_:(∀w∈ws,w∈zs)) (_:0≤p) (_:0≤m) (_:m≤1000) (_:∀H' l (ws:List Str),av H H'→H l=none→H' l=some (.lst (ws.map V.str))→ws.length=m.toNat→(∀w∈ws,w∈zs)→Q (.ref l) H'):tM K vs H Q u3
inductive qz(C:Addr)(vs:List V)(H:Hp)(Q:VK)(u3:XK):Prop
 |mk (a:Addr) (c:Case) (f g m l:Addr) (us:List V) (most:Nat) (_:vs=[.ref a]) (_:jx H a c f g m l us) (_:eX most c) (_:∀H' t,av H H'→yX H' C t c→Q (.ref t) H'):qz C vs H Q u3
inductive qA(vs:List V)(H:Hp)(Q:VK)(u3:XK):Prop
 |mk (a:Addr) (us:List V) (ps:List Pr) (_:vs=[.ref a]) (_:H a=some (.lst us)) (_:fT H us ps) (_:Q (.bl true) H):qA vs H Q u3
inductive tN(vs:List V)(H:Hp)(Q:VK)(u3:XK):Prop
 |mk (a w:Addr) (c:Case) (f g m l:Addr) (us:List V) (ws:List V) (ps:List Pr) (_:vs=[.ref a, .ref w]) (_:jx H a c f g m l us) (_:H w=some (.lst ws)) (_:fT H ws ps) (_:ps.length≤10000) (_:∀H',av H H'→Q (.bl (la c ps)) H'):tN vs H Q u3
inductive qB(vs:List V)(H:Hp)(Q:VK)(u3:XK):Prop
 |mk (a w:Addr) (c:Case) (f g m l:Addr) (us:List V) (ws:List V) (ps:List Pr) (_:vs=[.ref a, .ref w]) (_:jx H a c f g m l us) (_:Jz c) (_:H w=some (.lst ws)) (_:fT H ws ps) (_:ps.length≤10000) (_:la c ps=true) (_:Q (.int (dG c ps (ps.length-1))) H):qB vs H Q u3
end QF
namespace L2
open PySem PySem.Spec PyProof.Rows PySem.W PySem.Calls
section
variable{pg:Program}{wd:World}{Ar:Around}{Rs:Result→Shared→Prop}{it:Addr}{fp wr:List Addr}{n:Nat}{Pv:Nat→Value→Prop}{Sv:Nat→Heap→Prop}
def xk:(toString "max"++toString ".loop":String)="max.loop":=WV
theorem CY(Wk:Walks pg wd Ar.in1 it fp wr n Pv Sv)(bt:Nat→Nat→Bool)(cmp:CmpOf pg wd Ar.in1 .Gt Pv bt)(B:Addr)(nb:B∉fp)(dv:Value):
  ∀(k j:Nat)(st:Shared)(old:List Value)(c:Nat),n-j=k→j≤n→Sv j st.heap→((j=0∧old=[])∨∃vb,0<j∧old=[vb,vb]∧Pv (argBest bt (j-1)) vb)→
  st.heap.get? B=some {cls:= .type "list",dict:=none,data:= .seq old.toArray c,slots:=#[]}→
  (∀v h' tk,((n=0∧v=dv)∨(0<n∧Pv (argBest bt (n-1)) v))→(∀b o,b∉wr→b≠B→st.heap.get? b=some o→h'.get? b=some o)→Rs (.ok (.ret v)) {st with heap:=h',toks:=tk})→
  codeAny (model pg wd) Ar (.builtin "max.loop" ⟨[.ref it, .none, .ref B],[("default",dv)]⟩) Rs st:=by
 have nw:B∉wr:=fun z=>nb (Wk.sub _ z)
 intro k
 induction k with
 |zero=>
  intro j st old c ek lj sv ol eB fin;have ej:j=n:=by lia
  subst ej;refine codeAny_builtin F.entry_max_loop ?_;rw[Around.under_plainId F.plain_max_loop _];show wpAny _ Ar.in1 (seqItems? (.ref B)>>=_) _ _ st;refine wpAny_bind (wpAny_seqItems eB rfl ?_);show wpAny _ Ar.in1 (tryCatch (pyNext (.ref it)) _>>=_) _ _ st;refine wpAny_bind (wpAny_tryCatch (Wk.done st _ _ sv fun h' tk kp=>?_));rcases ol with⟨z0,rfl⟩|⟨vb,z0,rfl,pb⟩
  ·refine wpAny_bind (wpAny_rule (ZF ?_));exact fin dv _ tk (.inl ⟨z0,rfl⟩) fun b o hb _ e=>kp b o hb e
  ·have Lj:=kp B _ nw eB;show wpAny _ Ar.in1 (updateSeq B (fun _=>#[])>>=_) _ _ _;refine wpAny_bind ?_;refine wpAny_updateSeq Lj rfl (ZN (wpAny_letGo (ZF ?_)));exact fin vb _ tk (.inr ⟨z0,pb⟩) fun b o hb hB e=>(Heap.get?_update_other _ _ (Ne.symm hB)).trans (kp b o hb e)
 |succ k ih=>
  intro j st old c ek lj sv ol eB fin;have lt:j<n:=by lia
  refine codeAny_builtin F.entry_max_loop ?_;rw[Around.under_plainId F.plain_max_loop _];show wpAny _ Ar.in1 (seqItems? (.ref B)>>=_) _ _ st;refine wpAny_bind (wpAny_seqItems eB rfl ?_);show wpAny _ Ar.in1 (tryCatch (pyNext (.ref it)) _>>=_) _ _ st;refine wpAny_bind (wpAny_tryCatch (Wk.item j st _ _ lt sv fun v h' tk pv S9 kp=>?_));have Lj:=kp B _ nw eB;have up:∀(g:Array Value→Array Value)(b:Addr),b∈fp→∀o,h'.get? b=some o→(h'.update B (Obj.mapSeq g)).get? b=some o:=fun g b hb o e=>(Heap.get?_update_other _ _ (fun z:B=b=>nb (by rw[z];exact hb))).trans e
  rcases ol with⟨rfl,rfl⟩|⟨vb,z0,rfl,pb⟩
  ·show wpAny _ Ar.in1 (updateSeq B (fun _=>#[v,v])>>=_) _ _ _;refine wpAny_bind ?_;refine wpAny_updateSeq Lj rfl ?_;rw[xk];refine wpAny_pure ⟨plainId_quiet F.plain_max_loop _,ih 1 _ [v,v] _ (by lia) lt (Wk.frame _ _ _ S9 (up _)) (.inr ⟨v,WV,rfl,pv⟩) (Heap.get?_update_self _ Lj rfl) fun v' h2 OO pf OP=>?_⟩;exact fin v' h2 OO pf fun b o hb hB e=>OP b o hb hB ((Heap.get?_update_other _ _ (Ne.symm hB)).trans (kp b o hb e))
  ·obtain⟨i,rfl⟩:∃i,j=i+1:=⟨j-1,by lia⟩
   have pb:Pv (argBest bt i) vb:=pb;show wpAny _ Ar.in1 (tryCatch (holding [v,v] (richCompare .Gt v vb>>=_)) _>>=_) _ _ _;refine wpAny_bind (wpAny_tryCatch (wpAny_holding (ZN (cmp (i+1) (argBest bt i) v vb _ _ _ pv pb ?_))));refine wpAny_bind (wpAny_holding (wpAny_truthy_bool ?_));refine wpAny_bind (wpAny_letGo (ZF ?_));cases hb:bt (i+1) (argBest bt i)with
   |true=>
    simp only[if_true];refine wpAny_bind ?_;refine wpAny_updateSeq Lj rfl (ZN (wpAny_letGo ?_));rw[xk];refine wpAny_pure ⟨plainId_quiet F.plain_max_loop _,ih (i+2) _ [v,v] _ (by lia) lt (Wk.frame _ _ _ S9 (up _)) (.inr ⟨v,by lia,rfl,?_⟩) (Heap.get?_update_self _ Lj rfl) fun v' h2 OO pf OP=>?_⟩
    ·show Pv (argBest bt (i+1)) v;simp only[argBest,hb,if_true];exact pv
    ·exact fin v' h2 OO pf fun b o hb hB e=>OP b o hb hB ((Heap.get?_update_other _ _ (Ne.symm hB)).trans (kp b o hb e))
   |false=>
    simp only[Bool.false_eq_true,if_false];refine wpAny_bind (wpAny_letGo ?_);rw[xk];refine wpAny_pure ⟨plainId_quiet F.plain_max_loop _,ih (i+2) _ [vb,vb] c (by lia) lt S9 (.inr ⟨vb,by lia,rfl,?_⟩) Lj fun v' h2 OO pf OP=>?_⟩
    ·show Pv (argBest bt (i+1)) vb;simp only[argBest,hb,Bool.false_eq_true,if_false];exact pb
    ·exact fin v' h2 OO pf fun b o hb hB e=>OP b o hb hB (kp b o hb e)
theorem CZ(a d:Value):argsOk "max" ⟨[a],[("default",d)]⟩:=by unfold argsOk;kernel_rfl
end
section
variable{X:Cx}
def Lk:Option Int→V
 |none=> .cL
 |some i=> .int i
theorem Au{is:List Int}{us:List Value}(r:Vals (is.map V.int) us):us.length=is.length∧∀(j:Nat)(v:Value),us[j]?=some v→∃t,v= .int (is.getD j 0) t:=by
 have hl:=r.length;rw[List.length_map]at hl;refine⟨hl.symm,fun j v e=>?_⟩;have hj:j<is.length:=by have:=(YG e).1;lia
 obtain⟨u,eu,ru⟩:=r.get (i:=j) (x:= .int is[j]) (by simp[hj]);rw[e]at eu;cases eu;obtain⟨t,rfl⟩:=ru;exact⟨t,by simp[hj]⟩
theorem Ll{is:List Int}{k:Nat}(hk:k<is.length)(h:∀j,j<is.length→is.getD j 0≤is.getD k 0):is.max?=some (is.getD k 0):=by
 rw[List.max?_eq_some_iff];refine⟨by simp[hk],fun b hb=>?_⟩;obtain⟨j,hj,rfl⟩:=List.mem_iff_getElem.mp hb;have:=h j hj;simpa[hj]using this
theorem C0(hc:X.calm=true){pins:List (Addr×Obj)}{s:Shared}{σ:St}{H:Hp}{a:Addr}{is:List Int}{Q:VK}(I:Inv X pins σ H s)(hq:ir X.K H a (is.map V.int))(q:Q (Lk is.max?) H):
  wpAny (model X.prog X.w) X.A (call (.builtin "max") [.ref a] [("default", .none)]) (EP X pins σ Q) X.xe s:=by
 obtain⟨its,rv,p,hz⟩:=I.list hq;obtain⟨hl,hv⟩:=Au rv;refine wpAny_call (codeAny_call_builtin F.plain_max F.entry_max ?_);simp only[checkBuiltinCall,F.kind_max];have body:wpAny (model X.prog X.w) X.A.in1 (Builtin.«max» ⟨[.ref a],[("default", .none)]⟩) (fun fin s'=>match fin with
   | .done f=>(match (Except.ok f:Result)with| .ok (.ret v)=>EP X pins σ Q v s'| .ok _=>False| .error e=>X.xe e s')
   | .again c'=>c'.quiet=true∧codeAny (model X.prog X.w) X.A c' (fun r s'=>match r with| .ok (.ret v)=>EP X pins σ Q v s'| .ok _=>False| .error e=>X.xe e s') s') X.xe s:=by
  show wpAny _ X.A.in1 (Builtin.Builtins.bindParams "max" ["key","default"] 0 ⟨[],[("default", .none)]⟩>>=_) _ _ s;refine wpAny_bind (wpAny_of_eq (show Builtin.Builtins.bindParams "max" ["key","default"] 0 ⟨[],[("default", .none)]⟩=pure [none,some .none]from rfl) ?_);refine wpAny_bind (ZF (ZN (wpAny_pyIter_list p.isList ?_)));have eQ:a≠s.heap.objs.size:=by
   obtain⟨o,n,e,_⟩:=p;exact Nat.ne_of_lt (ZS e)
  refine wpAny_bind (wpAny_newObj_type ?_);rw[xk];have eS:(s.heap.push {cls:= .type "list_iterator",data:= .fields #[.ref a, .int 0 0]}).objs.size=s.heap.objs.size+1:=by simp[Heap.push]
  have Wk:=Walks.list (prog:=X.prog) (w:=X.w) (A:=X.A.in1) (show X.A.in1.handled=none from I.ok.hd hc) s.heap.objs.size a eQ its.toArray;refine wpAny_pure ⟨plainId_quiet F.plain_max_loop _,CY (pg:=X.prog) (wd:=X.w) Wk _ (CmpOf.ints_gt (fun j=>is.getD j 0) fun j v e=>hv j v (by simpa using e)) (s.heap.push {cls:= .type "list_iterator",data:= .fields #[.ref a, .int 0 0]}).objs.size ?_ .none _ 0 _ [] 0 rfl (Nat.zero_le _) ?_ (.inl ⟨rfl,rfl⟩) ?_ fun v h' tk pf kp=>?_⟩
  ·intro z;simp only[List.mem_cons,List.not_mem_nil,or_false]at z;rw[eS]at z;rcases z with z|z
   ·exact Nat.succ_ne_self _ z
   ·obtain⟨o,n,e,_⟩:=p;have lt:=ZS e;rw[←z]at lt;exact Nat.lt_irrefl _ (Nat.lt_of_succ_lt lt)
  ·exact⟨⟨_,ZU (Heap.get?_push_size _ rfl),rfl,rfl⟩,p.isList.at fun o e=>ZU (ZU e)⟩
  ·exact Heap.get?_push_size _ rfl
  ·have keep:∀b o,s.heap.get? b=some o→h'.get? b=some o:=fun b o e=>by
    have lt:=ZS e;refine kp b o (fun z=>?_) (fun z=>?_) (ZU (ZU e))
    ·have z:b=s.heap.objs.size:=by simpa using z
     rw[z]at lt;exact Nat.lt_irrefl _ lt
    ·rw[z,eS]at lt;exact Nat.lt_irrefl _ (Nat.lt_of_succ_lt lt)
   have sz:its.toArray.size=is.length:=by simp[hl]
   rcases pf with⟨h0,rfl⟩|⟨h0,pf⟩
   ·have:is=[]:=List.length_eq_zero_iff.mp Hy;subst this;exact⟨.cL,H,I.kept (t':=tk) keep,rfl,q⟩
   ·rw[List.getElem?_toArray]at pf;obtain⟨t,rfl⟩:=hv _ v pf;obtain⟨b1,b2⟩:=argBest_gt (fun j=>is.getD j 0) (its.toArray.size-1);have em:=Ll (is:=is) (k:=argBest (fun i j=>decide (is.getD i 0>is.getD j 0)) (its.toArray.size-1)) (by lia) fun j hj=>b2 j Hy
    rw[em]at q;exact⟨.int _,H,I.kept (t':=tk) keep,⟨t,rfl⟩,q⟩
 cases S_:Manifest.signature? "max" with
 |none=>exact ZF body
 |some sig=>
  have ha:=CZ (.ref a) .none;simp only[argsOk,S_]at ha;have h2:Bind.checkArgs "max" sig ⟨[.ref a],[("default", .none)]⟩=pure ():=ha;show wpAny _ X.A.in1 (Bind.checkArgs "max" sig ⟨[.ref a],[("default", .none)]⟩) _ _ s;rw[h2];exact ZF body
def OQ(K:Frag)(ta:TE):TE:=fun σ H Q=>ta σ H fun x H1=>∃(a:Addr)(is:List Int),x= .ref a∧ir K H1 a (is.map V.int)∧Q (Lk is.max?) H1
theorem HN(K:Frag){e:Expr}{ta:TE}{p pos kp cp:Pos}{j:Nat}(hc:X.calm=true)(hg:Gl X "max")(hm:X.mg "max"=none)(he:PE X e ta)(hs:starEach [e] X.env=[(false,eval e X.env)]:=by rfl)(hK:X.K=K:=by rfl):
  PE X (.Call (.Name "max" p) [e] [⟨some "default", .Constant .none j cp,kp⟩] pos) (OQ K ta):=by
 subst hK;intro pins s σ H Q I h;refine wpAny_Call_Name_kw (lF I hg hm (PyProof.Rows.Boot.«max») ?_ (WV) (WV));rw[hs];refine callWith_builtin_kwB (first:=[]) rfl rfl (evalArgs_kwB rfl ?_);refine Calls.spliced_cons ?_;show wpAny _ _ (eval e X.env) _ _ s;refine cJ (he pins s σ H _ I h) fun v s1 ⟨x,H1,I1,r1,q1⟩=>Calls.spliced_nil ?_
 obtain⟨a,is,rfl,hq,q⟩:=q1;cases r1;refine kws_cons ?_;refine Constant_none ?_;refine kws_nil ?_;exact C0 hc I1 hq q
def uY:List V→List V→Bool
 |[],[]=>true
 |x::xs,y::ys=>qt x y&&uY xs ys
 | _,_=>false
theorem kH:∀(xs ys:List V),((ZR (min xs.length ys.length)).all (fun j=>qt (xs.getD j .cL) (ys.getD j .cL))&&xs.length==ys.length)=uY xs ys
 |[],[]=>rfl
 |[],y::ys=>by simp[uY]
 |x::xs,[]=>by simp[uY]
 |x::xs,y::ys=>by
  have ih:=kH xs ys;simp only[uY];rw[←ih];have e:min (x::xs).length (y::ys).length=min xs.length ys.length+1:=by simp[Nat.succ_min_succ]
  rw[e,List.range_succ_eq_map,List.all_cons,List.all_map];simp only[List.getD_cons_zero,Function.comp_def,List.getD_cons_succ,List.length_cons,Bool.and_assoc]
  congr 2
  simp
theorem tO{A:Around}{s:Shared}{xs ys:List V}{its dQ:List Value}(r:Vals xs its)(r2:Vals ys dQ)(f1:xs.all i7=true)(f2:ys.all i7=true):
  ∀j (h1:j<its.toArray.size) (h2:j<dQ.toArray.size),SeqAt.EqAt A s its.toArray[j] dQ.toArray[j] ((fun j=>qt (xs.getD j .cL) (ys.getD j .cL)) j):=by
 refine E5 r r2 fun j x y hx hy=> .inl ⟨List.all_eq_true.mp f1 x (ZI hx),List.all_eq_true.mp f2 y (ZI hy),?_⟩
 simp[List.getD_eq_getElem?_getD,hx,hy]
open Classical in
end
theorem v8{K:Frag}{a:Addr}{xs:List V}{ls:List Str}{js:List Nat}{g:TG}{tt:TT}{te:TE}{σ:St}{H1:Hp}{D:Addr}{Q:VK}(Pv:Nat→List V→St→Hp→Prop)
  (h0:Pv 0 [] (lK ls js σ) (upd H1 D (.lst []))) (hl:∀i ys σ H,i≤xs.length→Pv i ys σ H→ir K H a xs)
  (hs:∀i x T ys σ H,xs[i]?=some x→Pv i ys σ H→H T=none→g (.ref T) σ (upd H T (.tup [.int i,x])) fun fG H3=>tt fG H3 fun b H4=>if b=true then te fG H4 fun y H5=>H5 D=some (.lst ys)∧ys.length<sizeLine∧Pv (i+1) (ys++[y]) fG (upd H5 D (.lst (ys++[y])))else Pv (i+1) ys fG H4)
  (hd:∀ys σ H,Pv xs.length ys σ H→Q (.ref D) H):
  tF (MY K a) ls js g tt te σ H1 D Q:=
 oM (n:=xs.length) Pv h0 (fun i ys σ H hi p=>⟨xs,xs[i],hl i ys σ H (Nat.le_of_lt hi) p,by simp[hi]⟩) (fun ys σ H p=>⟨xs,hl _ ys σ H ZT p,Nat.le_refl _⟩)
  (fun i ys σ H x H2 hi p y=>by
   obtain⟨T,z,rfl,hT,rfl,hy⟩:=y;exact hs i z T ys σ H (hy xs (hl i ys σ H (Nat.le_of_lt hi) p)) p hT) hd
end L2
namespace QF
open PySem L2
def f9(S:Int→Prop):Option Int→Prop
 |none=>∀v,¬S v
 |some m=>S m∧∀v,S v→v≤m
theorem f9.iff{S T:Int→Prop}{a:Option Int}(ha:f9 S a)(h:∀v,S v↔T v):f9 T a:=by
 cases a with
 |none=>exact fun v hv=>ha v ((h v).mpr hv)
 |some m=>exact⟨(h m).mp ha.1,fun v hv=>ha.2 v ((h v).mpr hv)⟩
def bC:Option Int→Int→Option Int
 |none,_=>none
 |some v,p=>some (v-p)
theorem f9.less{S:Int→Prop}{a:Option Int}(ha:f9 S a)(p:Int):f9 (fun v=>∃u,S u∧v=u-p) (bC a p):=by
 cases a with
 |none=>exact fun v ⟨u,hu,_⟩=>ha u hu
 |some m=>
  refine⟨⟨m,ha.1,rfl⟩,?_⟩;rintro v ⟨u,hu,rfl⟩;have:=ha.2 u hu
  lia
def oQ(l:List (Option Int)):Option Int:=(l.filterMap id).max?
theorem kI(l:List (Option Int)):f9 (fun v=>some v∈l) (oQ l):=by
 have key:∀v,v∈l.filterMap id↔some v∈l:=fun v=>by
  rw[List.mem_filterMap];exact⟨fun⟨o,ho,eo⟩=>by have eo:o=some v:=eo;rw[eo]at ho;exact ho,fun h=>⟨some v,h,rfl⟩⟩
 unfold oQ;cases e:(l.filterMap id).max? with
 |none=>
  rw[List.max?_eq_none_iff]at e;intro v hv;have:=(key v).mpr hv;rw[e]at this;cases this
 |some m=>
  rw[List.max?_eq_some_iff]at e;exact⟨(key m).mp e.1,fun v hv=>e.2 v ((key v).mpr hv)⟩
theorem f9.Vy{S T:Int→Prop}{a:Option Int}(ha:f9 S a)(h1:∀v,S v→T v)(h2:∀v,T v→∃u,S u∧v≤u):f9 T a:=by
 cases a with
 |none=>
  intro v hv;obtain⟨u,hu,_⟩:=h2 v hv;exact ha u hu
 |some m=>
  refine⟨h1 m ha.1,fun v hv=>?_⟩;obtain⟨u,hu,hle⟩:=h2 v hv;have:=ha.2 u hu
  lia
theorem yY{S1 S2 S3:Int→Prop}{a b c:Option Int}(h1:f9 S1 a)(h2:f9 S2 b)(h3:f9 S3 c):f9 (fun v=>S1 v∨S2 v∨S3 v) (oQ [a,b,c]):=by
 refine(kI [a,b,c]).Vy (fun v hv=>?_) (fun v hv=>?_)
 ·simp only[List.mem_cons,List.not_mem_nil,or_false]at hv;rcases hv with e|e|e
  ·rw[←e]at h1;exact .inl h1.1
  ·rw[←e]at h2;exact .inr (.inl h2.1)
  ·rw[←e]at h3;exact .inr (.inr h3.1)
 ·have one:∀{S:Int→Prop}{o:Option Int},f9 S o→S v→o∈[a,b,c]→∃u,some u∈[a,b,c]∧v≤u:=fun{S o} hm hs ho=>by
   cases o with
   |none=>exact Z1 hs (hm v)
   |some m=>exact⟨m,ho,hm.2 v hs⟩
  rcases hv with hs|hs|hs
  ·exact one h1 hs Vs
  ·exact one h2 hs Vs
  ·exact one h3 hs Vs
def j9(ps:List Pr):Pr:=pr ps (ps.length-1)
def wW(c:Case)(ps:List Pr):Int:=dG c ps (ps.length-1)
def oR(c:Case)(shut:List Pr)(ps:List Pr):Prop:=la c ps=true∧∀p∈ps,p∉shut
def om(c:Case)(shut:List Pr)(p:Pr):Option Int:=if p∈shut then none else c.pw p
theorem nG{ps:List Pr}{p:Pr}:j9 (ps++[p])=p:=by
 unfold j9;rw[List.length_append];exact sO
theorem tP{c:Case}{ps:List Pr}{p:Pr}:∀{k:Nat},k<ps.length→dG c (ps++[p]) k=dG c ps k
 |0,h=>by simp only[dG];rw[gZ h]
 |k+1,h=>by simp only[dG];rw[gZ h,gZ (by lia:k<ps.length),tP (by lia:k<ps.length)]
theorem Lm{c:Case}{p:Pr}{w:Int}(h:c.pw p=some w):wW c [p]=w:=by
 simp[wW,dG,pr,h]
theorem HP{c:Case}{ps:List Pr}{p:Pr}{w:Int}(eQ:ps≠[])(h:c.pw p=some w):wW c (ps++[p])=w+wW c ps-c.gap (j9 ps) p:=by
 have hp:0<ps.length:=List.length_pos_iff.mpr eQ;obtain⟨k,hk⟩:∃k,ps.length=k+1:=⟨ps.length-1,by lia⟩
 have e1:(ps++[p]).length-1=k+1:=by rw[List.length_append];simp;lia
 unfold wW j9;rw[e1];have e2:pr (ps++[p]) (k+1)=p:=by rw[←hk];exact sO
 simp only[dG,e2,h,Option.getD_some];rw[gZ (by lia:k<ps.length),tP (by lia:k<ps.length),hk];rfl
theorem oR.one{c:Case}{shut:List Pr}{p:Pr}{w:Int}(h:om c shut p=some w):oR c shut [p]:=by
 unfold om at h;split at h
 ·cases h
 ·rename_i hs
  refine⟨my Vs fun k hk=>?_,fun q hq=>?_⟩
  ·have:k=0:=by simp at hk;exact hk
   subst this;simp[dE,pr,h]
  ·have:q=p:=by simpa using hq
   rw[this];exact hs
theorem oR.snoc{c:Case}{shut:List Pr}{ps:List Pr}{p:Pr}{w:Int}(o:oR c shut ps)(h:om c shut p=some w)(st:stepOk (j9 ps) p=true):oR c shut (ps++[p]):=by
 obtain⟨eQ,hg⟩:=kG o.1;unfold om at h;split at h
 ·cases h
 ·rename_i hs
  refine⟨my Vs ?_,fun q hq=>?_⟩
  ·rw[List.length_append];exact CW hg (by rw[h];rfl) (.inr st)
  ·rcases List.mem_append.mp hq with hq|hq
   ·exact o.2 q hq
   ·have:q=p:=by simpa using hq
    rw[this];exact hs
theorem yZ{c:Case}{ps:List Pr}{p:Pr}{k:Nat}(h:k<ps.length):dE c (ps++[p]) k=dE c ps k:=by
 simp only[dE];rw[gZ h,gZ (by lia:k-1<ps.length)]
theorem oR.split{c:Case}{shut:List Pr}{ps:List Pr}(o:oR c shut ps):∃qs,ps=qs++[j9 ps]∧(∃w,om c shut (j9 ps)=some w)∧(qs=[]∨(oR c shut qs∧stepOk (j9 qs) (j9 ps)=true)):=by
 obtain⟨eQ,hg⟩:=kG o.1;obtain⟨qs,p,rfl⟩:∃qs p,ps=qs++[p]:=⟨ps.dropLast,ps.getLast eQ,(List.dropLast_concat_getLast eQ).symm⟩
 rw[nG];have gl:=hg qs.length Vs;simp only[dE,sO,Bool.and_eq_true]at gl;refine⟨qs,rfl,?_,?_⟩
 ·obtain⟨w,hw⟩:=Option.isSome_iff_exists.mp gl.1;have:=o.2 p Vs;exact⟨w,by simp[om,this,hw]⟩
 ·by_cases e:qs=[]
  ·exact .inl e
  ·have hp:0<qs.length:=List.length_pos_iff.mpr e;refine .inr ⟨⟨my e fun k hk=>?_,fun q hq=>o.2 q (γ hq)⟩,?_⟩
   ·have:=hg k (by simp;lia);rwa[yZ hk]at this
   ·have g2:=gl.2;simp only[Bool.or_eq_true,decide_eq_true_eq]at g2;rcases g2 with g2|g2
    ·lia
    ·rw[gZ (by lia:qs.length-1<qs.length)]at g2;exact g2
def HQ:Option Int→Option Int→Option Int
 |none,_=>none
 |some w,none=>some w
 |some w,some b=>if b<0 then some w else some (w+b)
def Bq(f:Nat→Nat→Option Int)(o p:Int):Nat→Nat→Option Int
 |0,_=>none
 | _+1,0=>none
 |i+1,j+1=>oQ [HQ (f i j) (Bq f o p i j),bC (Bq f o p i (j+1)) o,bC (Bq f o p (i+1) j) p]
termination_by i j=>(i,j)
def dF(f:Nat→Nat→Option Int)(o p:Int)(i j:Nat):Option Int:=HQ (f i j) (Bq f o p i j)
def iH(c:Case)(shut:List Pr)(i j:Nat):Option Int:=om c shut ((i:Int),(j:Int))
theorem y4{q p:Pr}:stepOk q p=true↔q.1<p.1∧q.2<p.2:=by simp[stepOk]
theorem HR(o:Option Int):Lk o=bD o:=by cases o<;>rfl
def gi(H:Hp)(vs:List V)(L:List (List Pr)):Prop:=vs.length=L.length∧∀(k:Nat)(ps:List Pr),L[k]?=some ps→∃a us,vs[k]?=some (V.ref a)∧H a=some (.lst us)∧fT H us ps
def OR(l:Addr)(vs:List V):Prop:=∀k:Nat,vs[k]?≠some (V.ref l)
theorem gi.nil{H:Hp}:gi H [] []:=⟨rfl,fun k ps e=>by simp at e⟩
theorem gi.same{H H':Hp}{vs:List V}{L:List (List Pr)}(w:gi H vs L)(s:av H H'):gi H' vs L:=⟨w.1,fun k ps e=>let ⟨a,us,h1,h2,h3⟩:=w.2 k ps e;⟨a,us,h1,s _ _ h2,h3.same s⟩⟩
theorem gi.put{H:Hp}{vs:List V}{L:List (List Pr)}{l:Addr}{zs:List V}{o:HO}(w:gi H vs L)(n:OR l vs)(h:H l=some (.lst zs)):gi (upd H l o) vs L:=⟨w.1,fun k ps e=>by
 obtain⟨a,us,h1,h2,h3⟩:=w.2 k ps e;refine⟨a,us,h1,?_,h3.cD (c_.lst h)⟩;rw[ao (fun z=>n k (by rw[h1,z]))];exact h2⟩
theorem gi.append{H:Hp}{vs ws:List V}{L M:List (List Pr)}(a:gi H vs L)(b:gi H ws M):gi H (vs++ws) (L++M):=by
 refine⟨by simp[a.1,b.1],fun i p e=>?_⟩;by_cases h:i<L.length
 ·rw[ZZ h]at e;obtain⟨x,us,h1,h2⟩:=a.2 i p e;exact⟨x,us,by rw[ZZ (by rw[a.1];exact h)];exact h1,h2⟩
 ·rw[Α Hy]at e;obtain⟨x,us,h1,h2⟩:=b.2 _ p e;exact⟨x,us,by rw[Α (by rw[a.1];lia),a.1];exact h1,h2⟩
theorem gi.one{H:Hp}{a:Addr}{us:List V}{ps:List Pr}(h:H a=some (.lst us))(P:fT H us ps):gi H [.ref a] [ps]:=by
 refine⟨rfl,fun i q e=>?_⟩
 match i,e with
 |0,e=>cases e;exact⟨a,us,rfl,h,P⟩
 |i+1,e=>simp at e
def dh(m:Nat)(f:Nat→Option Int):List V:=(ZR m).map fun j=>bD (f j)
theorem dj(m:Nat)(f:Nat→Option Int):(dh m f).length=m:=by simp[dh]
theorem dq{m j:Nat}{f:Nat→Option Int}(h:j<m):(dh m f)[j]?=some (bD (f j)):=by simp[dh,h]
theorem qC(m:Nat)(f:Nat→Option Int):dh (m+1) f=dh m f++[bD (f m)]:=by simp[dh,List.range_succ]
structure i_(H:Hp)(as:List Addr)(f:Nat→Nat→Option Int)(n m:Nat):Prop where
 len:as.length=n
 row:∀(i:Nat)(a:Addr),as[i]?=some a→H a=some (.lst (dh m (f i)))
theorem i_.same{H H':Hp}{as:List Addr}{f:Nat→Nat→Option Int}{n m:Nat}(t:i_ H as f n m)(s:av H H'):i_ H' as f n m:=⟨t.len,fun i a e=>s _ _ (t.row i a e)⟩
theorem i_.at{H:Hp}{as:List Addr}{f:Nat→Nat→Option Int}{n m i:Nat}(t:i_ H as f n m)(h:i<n):∃a,as[i]?=some a∧(as.map V.ref)[i]?=some (.ref a)∧H a=some (.lst (dh m (f i))):=by
 have hi:i<as.length:=by rw[t.len];exact h
 refine⟨as[i],by simp[hi],by simp[hi],t.row i _ (by simp[hi])⟩
def Tab(H H':Hp)(e:Addr)(f:Nat→Nat→Option Int)(n m:Nat):Prop:=∃as:List Addr,H' e=some (.lst (as.map V.ref))∧H e=none∧i_ H' as f n m∧∀a∈as,H a=none
structure BL(K:W.Frag)(C:Addr):Prop where
 cl:wK K C
 out:b_ K C "out"
 into:b_ K C "into"
 kJ:b_ K C "ending"
 jy:b_ K C "brought"
def gM(o p:Int)(e b:Addr):List (Str×V):=[("out", .int o),("into", .int p),("ending", .ref e),("brought", .ref b)]
theorem JA(o p:Int)(e b:Addr):(gM o p e b).lookup ("out":Str)=some (V.int o):=by kernel_rfl
theorem E7(o p:Int)(e b:Addr):(gM o p e b).lookup ("into":Str)=some (V.int p):=by kernel_rfl
theorem ij(o p:Int)(e b:Addr):(gM o p e b).lookup ("ending":Str)=some (V.ref e):=by kernel_rfl
theorem gQ(o p:Int)(e b:Addr):(gM o p e b).lookup ("brought":Str)=some (V.ref b):=by kernel_rfl
theorem E8(o p:Int)(e b:Addr):(gM o p e b).lookup ("brought_behind":Str)=none:=by kernel_rfl
theorem OS(o p:Int)(e b:Addr):bq "brought" (.ref b) (bq "ending" (.ref e) (bq "into" (.int p) (bq "out" (.int o) [])))=gM o p e b:=by kernel_rfl
def rX(f g:Nat→Option Int)(o p:Int):Nat→Option Int
 |0=>none
 |j+1=>oQ [f j,bC (g (j+1)) o,bC (rX f g o p j) p]
theorem BM(f:Nat→Nat→Option Int)(o p:Int)(i:Nat):∀j,rX (dF f o p i) (Bq f o p i) o p j=Bq f o p (i+1) j
 |0=>by unfold rX Bq;rfl
 |j+1=>by
  rw[rX,Bq,BM f o p i j];rfl
theorem iI(f:Nat→Nat→Option Int)(o p:Int)(j:Nat):Bq f o p 0 j=none:=by unfold Bq;rfl
inductive lO(vs:List V)(H:Hp)(Q:VK)(u3:XK):Prop
 |mk (a:Addr) (os:List (Option Int)) (_:vs=[.ref a]) (_:H a=some (.lst (os.map bD))) (_:os.length≤1000) (_:∀H',av H H'→Q (bD (oQ os)) H'):lO vs H Q u3
inductive xl(vs:List V)(H:Hp)(Q:VK)(u3:XK):Prop
 |mk (o:Option Int) (p:Int) (_:vs=[bD o, .int p]) (_:Q (bD (bC o p)) H):xl vs H Q u3
inductive Av(vs:List V)(H:Hp)(Q:VK)(u3:XK):Prop
 |mk (w b:Option Int) (_:vs=[bD w,bD b]) (_:Q (bD (HQ w b)) H):Av vs H Q u3
inductive qD(C:Addr)(vs:List V)(H:Hp)(Q:VK)(u3:XK):Prop
 |mk (x e a dx te tb:Addr) (o p:Int) (m:Nat) (f g:Nat→Option Int) (_:vs=[.ref x, .ref e, .ref a]) (_:H x=some (.ins C dx (gM o p te tb))) (_:H e=some (.lst (dh m f))) (_:H a=some (.lst (dh (m+1) g))) (_:m≤1000) (_:∀H' r,av H H'→H r=none→H' r=some (.lst (dh (m+1) (rX f g o p)))→Q (.ref r) H'):qD C vs H Q u3
def E9(H:Hp)(v:V)(shut:List Pr):Prop:=(v= .cL∧shut=[])∨∃l us,v= .ref l∧H l=some (.lst us)∧fT H us shut
def ba(p:Pr):List Key:=[.inl p.1, .inl p.2]
def m3(kvs:List (List Key×V))(shut:List Pr):Prop:=∀p:Pr,(bA kvs (ba p)).isSome=decide (p∈shut)
inductive xm(vs:List V)(H:Hp)(Q:VK)(u3:XK):Prop
 |mk (v:V) (shut:List Pr) (_:vs=[v]) (_:E9 H v shut) (_:shut.length≤1000) (_:∀H' d kvs,av H H'→H' d=some (.dT kvs)→m3 kvs shut→Q (.ref d) H'):xm vs H Q u3
theorem fT.last{H:Hp}{xs:List V}{ps:List Pr}(P:fT H xs ps)(eQ:ps≠[]):∃t,rV xs (-1)=some (.ref t)∧H t=some (.tup [.int (j9 ps).1, .int (j9 ps).2]):=by
 have hp:0<ps.length:=List.length_pos_iff.mpr eQ;have hl:=P.1;obtain⟨t,h1,h2⟩:=P.Li (k:=ps.length-1) (by lia);refine⟨t,?_,h2⟩;have e:xs=xs.take (ps.length-1)++[V.ref t]:=by
  apply List.ext_getElem?;intro n;by_cases hn:n<ps.length-1
  ·rw[ZZ (by rw[List.length_take];lia),List.getElem?_take,MJ hn]
  ·rw[Α (by rw[List.length_take];lia),List.length_take];by_cases yr:n=ps.length-1
   ·subst yr;rw[h1];have:ps.length-1-min (ps.length-1) xs.length=0:=by lia
    rw[this];rfl
   ·rw[List.getElem?_eq_none Hy,List.getElem?_eq_none (by simp;lia)]
 rw[e];exact yP _ _
theorem xn(p q:Pr):uY (jk p) (jk q)=decide (p=q):=by
 simp only[jk,uY,qt,Bool.and_true];rw[Bool.eq_iff_iff];simp[Prod.ext_iff]
theorem E_{m j:Nat}{f:Nat→Option Int}{u:Option Int}:(dh m f).set j (bD u)=dh m (fun k=>if k=j then u else f k):=by
 apply List.ext_getElem?;intro k;by_cases hk:k<m
 ·rw[dq hk];by_cases e:j=k
  ·subst e;rw[List.getElem?_set_self (by rw[dj];exact hk)];simp
  ·rw[List.getElem?_set_ne e,dq hk];have:¬k=j:=fun z=>e z.symm
   simp[this]
 ·rw[List.getElem?_eq_none (by rw[List.length_set,dj];lia),List.getElem?_eq_none (by rw[dj];lia)]
end QF
namespace L2
open PySem PySem.Spec PyProof.Rows PySem.W PySem.Calls
section
variable{X:Cx}{tg:Expr}
end
section
variable{X:Cx}
end
section
variable{X:Cx}
end
end L2
namespace QF
open PySem L2
def Td(fs:List Form)(x t:Str):Bool:=decide (x=t)||fs.any fun f=>(decide (f.1=x)&&decide (f.2.1=t))||(decide (f.1=t)&&decide (f.2.1=x))
def OT(fs:List Form)(t:Str):List Str:=[t]++(fs.filter fun f=>decide (f.1=t)).map (·.2.1)++(fs.filter fun f=>decide (f.2.1=t)).map (·.1)
def JB(p:Nat→Bool):Nat→Int
 |0=> -1
 |n+1=>if p n then(n:Int)else JB p n
structure NS where
 ws:List Str
 ts:List Str
 fs:List Form
 span:Nat
def NS.p(c:NS)(t:Str)(i:Nat):Bool:=match c.ws[i]? with
 |some x=>Td c.fs x t
 |none=>false
def NS.OU(c:NS)(n:Nat):List Int:=c.ts.map fun t=>JB (c.p t) n
def NS.low(c:NS)(n:Nat):Int:=((c.OU n).min?).getD (-1)
def NS.at_(c:NS)(h:Nat):Option Pr:=if c.low h<c.low (h+1)∧(h:Int)-c.low (h+1)<c.span then some (c.low (h+1),(h:Int))else none
def NS.told(c:NS)(k:Nat):List Pr:=(ZR k).filterMap c.at_
def NS.holds(c:NS)(l h:Nat):Bool:=c.ts.all fun t=>(((c.ws.map fun x=>decide (x∈OT c.fs t)).drop l).take (h-l)).any id
def NS.ok(c:NS)(l h:Nat):Bool:=c.holds l (h+1)&&!(c.holds (l+1) (h+1))&&!(c.holds l h)
def NS.row(c:NS)(l k:Nat):List Pr:=(ZR k).filterMap fun d=>if c.ok l (l+d)=true then some ((l:Int),((l+d:Nat):Int))else none
def NS.aaQ(c:NS)(i:Nat):List Pr:=(ZR i).flatMap fun l=>c.row l (min c.ws.length (l+c.span)-l)
end QF
namespace L2
open PySem PySem.Spec PyProof.Rows PySem.W PySem.Calls
section
variable{X:Cx}{tg:Expr}
end
section
variable{pg:Program}{wd:World}{Ar:Around}{sh:Shared}{Rs:Result→Shared→Prop}{it:Addr}{fp wr:List Addr}{Gn:Array GenState→Array GenState→Prop}{n:Nat}{Pv:Nat→Value→Prop}{Sv:Nat→Shared→Prop}
end
section
variable{X:Cx}
end
end L2
namespace QF
open PySem L2
def yv(q p:Pr):Prop:=q.1<p.1∧q.2<p.2
def gp(o i:Int)(q p:Pr):Int:=o*(p.1-q.1-1)+i*(p.2-q.2-1)
structure Wy(g:Pr→Option Int)(ps:List Pr):Prop where
 ne:ps≠[]
 ok:∀p∈ps,(g p).isSome=true
 up:ps.Pairwise yv
def vl(g:Pr→Option Int)(o i:Int):List Pr→Int
 |[]=>0
 |[p]=>(g p).getD 0
 |p::q::r=>(g p).getD 0-gp o i p q+vl g o i (q::r)
def jm(ps:List Pr):Pr:=ps.headD (0,0)
def lstP(ps:List Pr):Pr:=ps.getLastD (0,0)
theorem dJ{ps:List Pr}{p:Pr}:lstP (ps++[p])=p:=by simp[lstP]
theorem xo(g:Pr→Option Int)(o i:Int)(q:Pr)(bs:List Pr):∀(as:List Pr),vl g o i (as++q::bs)=vl g o i (as++[q])+vl g o i (q::bs)-(g q).getD 0
 |[]=>by simp only[List.nil_append,vl];lia
 |[a]=>by
  simp only[List.cons_append,List.nil_append,vl]
  lia
 |a::b::r=>by
  have ih:=xo g o i q bs (b::r);simp only[List.cons_append]at ih⊢;simp only[vl];rw[ih]
  lia
theorem oS(g:Pr→Option Int)(o i:Int){ps:List Pr}(eQ:ps≠[])(p:Pr):vl g o i (ps++[p])=(g p).getD 0+vl g o i ps-gp o i (lstP ps) p:=by
 obtain⟨qs,q,rfl⟩:∃qs q,ps=qs++[q]:=⟨ps.dropLast,ps.getLast eQ,(List.dropLast_concat_getLast eQ).symm⟩
 rw[dJ,List.append_assoc];have:=xo g o i q [p] qs;simp only[List.singleton_append]at this⊢;rw[this];simp only[vl]
 lia
theorem Wy.one{g:Pr→Option Int}{p:Pr}(h:(g p).isSome=true):Wy g [p]:=by
 refine⟨XC,fun q hq=>?_,XC⟩;have e:q=p:=by simpa using hq
 rw[e];exact h
theorem qE{a b c:Pr}(h1:yv a b)(h2:yv b c):yv a c:=⟨Int.lt_trans h1.1 h2.1,Int.lt_trans h1.2 h2.2⟩
theorem pw_lst{ps:List Pr}(h:ps.Pairwise yv){q:Pr}(hq:q∈ps):q=lstP ps∨yv q (lstP ps):=by
 have eQ:ps≠[]:=fun z=>by rw[z]at hq;cases hq
 obtain⟨qs,x,rfl⟩:∃qs x,ps=qs++[x]:=⟨ps.dropLast,ps.getLast eQ,(List.dropLast_concat_getLast eQ).symm⟩
 rw[dJ];rcases List.mem_append.mp hq with hq|hq
 ·exact .inr ((List.pairwise_append.mp h).2.2 q hq x (XC))
 ·exact .inl (by simpa using hq)
theorem Wy.snoc{g:Pr→Option Int}{ps:List Pr}{p:Pr}(w:Wy g ps)(h:(g p).isSome=true)(s:yv (lstP ps) p):Wy g (ps++[p]):=by
 refine⟨XC,fun q hq=>?_,List.pairwise_append.mpr ⟨w.up,XC,fun a ha b hb=>?_⟩⟩
 ·rcases List.mem_append.mp hq with hq|hq
  ·exact w.ok q hq
  ·have:q=p:=by simpa using hq
   rw[this];exact h
 ·have:b=p:=by simpa using hb
  rw[this];rcases pw_lst w.up ha with e|e
  ·rw[e];exact s
  ·exact qE e s
theorem Wy.split{g:Pr→Option Int}{ps:List Pr}(w:Wy g ps):∃qs,ps=qs++[lstP ps]∧(∃v,g (lstP ps)=some v)∧(qs=[]∨(Wy g qs∧yv (lstP qs) (lstP ps))):=by
 obtain⟨qs,x,rfl⟩:∃qs x,ps=qs++[x]:=⟨ps.dropLast,ps.getLast w.ne,(List.dropLast_concat_getLast w.ne).symm⟩
 rw[dJ];refine⟨qs,rfl,Option.isSome_iff_exists.mp (w.ok x (XC)),?_⟩;by_cases e:qs=[]
 ·exact .inl e
 ·have h:=List.pairwise_append.mp w.up;refine .inr ⟨⟨e,fun q hq=>w.ok q (γ hq),h.1⟩,h.2.2 _ ?_ x (XC)⟩;obtain⟨rs,y,rfl⟩:∃rs y,qs=rs++[y]:=⟨qs.dropLast,qs.getLast e,(List.dropLast_concat_getLast e).symm⟩
  rw[dJ];simp
theorem cQ{ps:List Pr}(h:ps≠[]):lstP ps∈ps:=by
 obtain⟨rs,y,rfl⟩:∃rs y,ps=rs++[y]:=⟨ps.dropLast,ps.getLast h,(List.dropLast_concat_getLast h).symm⟩
 rw[dJ];simp
def lf(f:Nat→Nat→Option Int)(p:Pr):Option Int:=if 0≤p.1∧0≤p.2 then f p.1.toNat p.2.toNat else none
theorem qF(f:Nat→Nat→Option Int)(i j:Nat):lf f ((i:Int),(j:Int))=f i j:=by simp[lf]
theorem BN{f:Nat→Nat→Option Int}{p:Pr}(h:(lf f p).isSome=true):∃i j:Nat,p=((i:Int),(j:Int)):=by
 unfold lf at h;split at h
 ·rename_i hh
  exact⟨p.1.toNat,p.2.toNat,Prod.ext (by simp;lia) (by simp;lia)⟩
 ·cases h
def QK(f:Nat→Nat→Option Int)(o p:Int)(i j:Nat)(v:Int):Prop:=∃ps,Wy (lf f) ps∧(lstP ps).1<(i:Int)∧(lstP ps).2<(j:Int)∧v=vl (lf f) o p ps-(o*((i:Int)-1-(lstP ps).1)+p*((j:Int)-1-(lstP ps).2))
def QL(f:Nat→Nat→Option Int)(o p:Int)(q:Pr)(v:Int):Prop:=∃ps,Wy (lf f) ps∧lstP ps=q∧v=vl (lf f) o p ps
theorem BO{f:Nat→Nat→Option Int}{o p:Int}{i j:Nat}{b:Option Int}(h:f9 (QK f o p i j) b):f9 (QL f o p ((i:Int),(j:Int))) (HQ (f i j) b):=by
 cases e:f i j with
 |none=>
  rintro v ⟨ps,w,el,rfl⟩;obtain⟨qs,_,⟨x,hx⟩,_⟩:=w.split;rw[el,qF,e]at hx;cases hx
 |some x=>
  have eg:lf f ((i:Int),(j:Int))=some x:=by rw[qF];exact e
  have Aw:∀ps,Wy (lf f) ps→lstP ps=((i:Int),(j:Int))→vl (lf f) o p ps=x∨∃v,QK f o p i j v∧vl (lf f) o p ps=x+v:=fun ps w el=>by
   obtain⟨qs,eq,_,hq⟩:=w.split;rw[el]at eq hq;rcases hq with rfl|⟨wq,st⟩
   ·left
    rw[eq];simp[vl,eg]
   ·right
    refine⟨_,⟨qs,wq,st.1,st.2,rfl⟩,?_⟩;rw[eq,oS _ _ _ wq.ne,eg];simp only[gp,Option.getD_some];have e1:(i:Int)-(lstP qs).1-1=(i:Int)-1-(lstP qs).1:=by lia
    have e2:(j:Int)-(lstP qs).2-1=(j:Int)-1-(lstP qs).2:=by lia
    rw[e1,e2]
    lia
  have alone:QL f o p ((i:Int),(j:Int)) x:=⟨[((i:Int),(j:Int))], .one (by rw[eg];rfl),rfl,by simp[vl,eg]⟩
  have more:∀v,QK f o p i j v→QL f o p ((i:Int),(j:Int)) (x+v):=by
   rintro v ⟨ps,w,l1,l2,rfl⟩;refine⟨ps++[((i:Int),(j:Int))],w.snoc (by rw[eg];rfl) ⟨l1,l2⟩,dJ,?_⟩;rw[oS _ _ _ w.ne,eg];simp only[gp,Option.getD_some];have e1:(i:Int)-(lstP ps).1-1=(i:Int)-1-(lstP ps).1:=by lia
   have e2:(j:Int)-(lstP ps).2-1=(j:Int)-1-(lstP ps).2:=by lia
   rw[e1,e2]
   lia
  cases b with
  |none=>
   refine⟨alone,?_⟩;rintro v ⟨ps,w,el,rfl⟩;rcases Aw ps w el with h1|⟨u,hu,_⟩
   ·lia
   ·exact Z1 hu (h u)
  |some m=>
   simp only[HQ];split
   ·refine⟨alone,?_⟩;rintro v ⟨ps,w,el,rfl⟩;rcases Aw ps w el with h1|⟨u,hu,h2⟩
    ·lia
    ·have:=h.2 u hu
     lia
   ·refine⟨more m h.1,?_⟩;rintro v ⟨ps,w,el,rfl⟩;rcases Aw ps w el with h1|⟨u,hu,h2⟩
    ·lia
    ·have:=h.2 u hu
     lia
theorem y6{f:Nat→Nat→Option Int}{ps:List Pr}(w:Wy (lf f) ps):0≤(lstP ps).1∧0≤(lstP ps).2:=by
 obtain⟨a,b,e⟩:=BN (w.ok _ (cQ w.ne));rw[e];simp
theorem f_(f:Nat→Nat→Option Int)(o p:Int):∀i j:Nat,f9 (QK f o p i j) (Bq f o p i j)
 |0,j=>by
  unfold Bq;rintro v ⟨ps,w,l1,_⟩;have:=y6 w;simp at l1
  lia
 |i+1,0=>by
  unfold Bq;rintro v ⟨ps,w,_,l2,_⟩;have:=y6 w;simp at l2
  lia
 |i+1,j+1=>by
  rw[Bq];refine(yY (BO (f_ f o p i j)) ((f_ f o p i (j+1)).less o) ((f_ f o p (i+1) j).less p)).iff fun v=>?_
  constructor
  ·rintro(⟨ps,w,el,rfl⟩|⟨u,⟨ps,w,l1,l2,rfl⟩,rfl⟩|⟨u,⟨ps,w,l1,l2,rfl⟩,rfl⟩)
   ·refine⟨ps,w,by rw[el];simp;lia,by rw[el];simp;lia,?_⟩;rw[el];have e1:((i+1:Nat):Int)-1-(i:Int)=0:=by lia
    have e2:((j+1:Nat):Int)-1-(j:Int)=0:=by lia
    simp only[e1,e2,Int.mul_zero]
    lia
   ·refine⟨ps,w,by lia,by lia,?_⟩;have e1:((i+1:Nat):Int)-1-(lstP ps).1=((i:Int)-1-(lstP ps).1)+1:=by lia
    rw[e1,Int.mul_add]
    lia
   ·refine⟨ps,w,by lia,by lia,?_⟩;have e1:((j+1:Nat):Int)-1-(lstP ps).2=((j:Int)-1-(lstP ps).2)+1:=by lia
    rw[e1,Int.mul_add]
    lia
  ·rintro⟨ps,w,l1,l2,rfl⟩;by_cases h1:(lstP ps).1<(i:Int)
   ·right;left
    refine⟨_,⟨ps,w,h1,l2,rfl⟩,?_⟩;have e1:((i+1:Nat):Int)-1-(lstP ps).1=((i:Int)-1-(lstP ps).1)+1:=by lia
    rw[e1,Int.mul_add]
    lia
   ·by_cases h2:(lstP ps).2<(j:Int)
    ·right;right
     refine⟨_,⟨ps,w,l1,h2,rfl⟩,?_⟩;have e1:((j+1:Nat):Int)-1-(lstP ps).2=((j:Int)-1-(lstP ps).2)+1:=by lia
     rw[e1,Int.mul_add]
     lia
    ·left
     have a1:(lstP ps).1=(i:Int):=by lia
     have a2:(lstP ps).2=(j:Int):=by lia
     refine⟨ps,w,Prod.ext a1 a2,?_⟩;have e1:((i+1:Nat):Int)-1-(lstP ps).1=0:=by lia
     have e2:((j+1:Nat):Int)-1-(lstP ps).2=0:=by lia
     simp only[e1,e2,Int.mul_zero]
     lia
termination_by i j=>(i,j)
theorem tQ(f:Nat→Nat→Option Int)(o p:Int)(i j:Nat):f9 (QL f o p ((i:Int),(j:Int))) (dF f o p i j):=BO (f_ f o p i j)
def fr(f:Nat→Nat→Option Int)(n m:Nat)(a b:Nat):Option Int:=if a<n∧b<m then f (n-1-a) (m-1-b)else none
def DQ(f:Nat→Nat→Option Int)(n m:Nat):Prop:=∀i j,(f i j).isSome=true→i<n∧j<m
theorem xp(c:Case)(shut:List Pr)(p:Pr):lf (iH c shut) p=om c shut p:=by
 unfold lf;split
 ·rename_i h
  unfold iH
  congr 1
  exact Prod.ext (by simp;lia) (by simp;lia)
 ·rename_i h
  unfold om;split
  ·rfl
  ·exact(c.pw_out Hy).symm
theorem Ln(c:Case)(shut:List Pr):DQ (iH c shut) c.xs.length c.ys.length:=fun i j h=>by
 unfold iH om at h;split at h
 ·cases h
 ·obtain⟨w,hw⟩:=Option.isSome_iff_exists.mp h;have:=c.pw_in hw;simp at this
  lia
theorem BP{ps:List Pr}(h:ps≠[]):j9 ps=lstP ps:=by
 obtain⟨qs,x,rfl⟩:∃qs x,ps=qs++[x]:=⟨ps.dropLast,ps.getLast h,(List.dropLast_concat_getLast h).symm⟩
 rw[nG,dJ]
theorem Lo{c:Case}{shut:List Pr}{p:Pr}{w:Int}(h:om c shut p=some w):c.pw p=some w∧p∉shut:=by
 unfold om at h;split at h
 ·cases h
 ·rename_i hs
  exact⟨h,hs⟩
theorem xq{c:Case}{shut:List Pr}:∀{k:Nat}{ps:List Pr},ps.length=k→oR c shut ps→Wy (om c shut) ps∧wW c ps=vl (om c shut) c.out c.into ps
 |0,ps,hk,o=>Z1 (List.length_eq_zero_iff.mp hk) (kG o.1).1
 |k+1,ps,hk,o=>by
  obtain⟨qs,eq,⟨w,hw⟩,hq⟩:=o.split;generalize j9 ps=p at eq hw hq;subst eq;have hp:=Lo hw;rcases hq with rfl|⟨oq,st⟩
  ·exact⟨.one (by rw[hw];rfl),by rw[List.nil_append,Lm hp.1];simp[vl,hw]⟩
  ·have hlen:qs.length=k:=by simpa using hk
   obtain⟨wq,vq⟩:=xq hlen oq;have el:=BP wq.ne;rw[y4,el]at st;refine⟨wq.snoc (by rw[hw];rfl) st,?_⟩;rw[HP wq.ne hp.1,oS _ _ _ wq.ne,hw,vq,el];rfl
theorem BQ{c:Case}{shut:List Pr}:∀{k:Nat}{ps:List Pr},ps.length=k→Wy (om c shut) ps→oR c shut ps
 |0,ps,hk,w=>Z1 (List.length_eq_zero_iff.mp hk) w.ne
 |k+1,ps,hk,w=>by
  obtain⟨qs,eq,⟨v,hv⟩,hq⟩:=w.split;generalize lstP ps=p at eq hv hq;subst eq;rcases hq with rfl|⟨wq,st⟩
  ·exact .one hv
  ·have hlen:qs.length=k:=by simpa using hk
   exact(BQ hlen wq).snoc hv (y4.mpr (by rw[BP wq.ne];exact st))
theorem y8{c:Case}{shut:List Pr}{ps:List Pr}:oR c shut ps↔Wy (lf (iH c shut)) ps:=by
 have:lf (iH c shut)=om c shut:=by funext p;exact xp c shut p
 rw[this];exact⟨fun o=>(xq rfl o).1,fun w=>BQ rfl w⟩
theorem HS{c:Case}{shut:List Pr}{ps:List Pr}(o:oR c shut ps):wW c ps=vl (lf (iH c shut)) c.out c.into ps:=by
 have:lf (iH c shut)=om c shut:=by funext p;exact xp c shut p
 rw[this];exact(xq rfl o).2
end QF
namespace L2
open PySem PySem.Spec PyProof.Rows PySem.W PySem.Calls
section
variable{X:Cx}
open Classical in
end
end L2
namespace QF
open PySem L2
theorem fT.first{H:Hp}{xs:List V}{ps:List Pr}(P:fT H xs ps)(eQ:ps≠[]):∃t,rV xs 0=some (.ref t)∧H t=some (.tup [.int (jm ps).1, .int (jm ps).2]):=by
 cases ps with
 |nil=>exact absurd rfl eQ
 |cons p r=>
  obtain⟨t,h1,h2⟩:=P.2 0 p rfl;exact⟨t,ar (j:=0) h1,h2⟩
end QF
namespace L2
open PySem PySem.Spec PyProof.Rows PySem.W PySem.Calls
section
variable{prog:Program}{w:World}{κ:Type}[DecidableEq κ]{knd:HeapKind prog w κ}{A:Around}{E:Value→Shared→Prop}{s:Shared}
theorem v9{α β:Type}(f:α→β):∀(xs:List α)(j:Nat),(xs.eraseIdx j).map f=(xs.map f).eraseIdx j
 |[],_=>XC
 | _::_,0=>XC
 | _::r,j+1=>by simp[v9 f r j]
theorem C9{xs:List (κ×Addr×Value)}(hn:(xs.map (·.1)).Nodup):∀{j:Nat}{k:κ}{p:Addr×Value},xs[j]?=some (k,p)→xs.eraseIdx j=xs.filter fun x=>decide (x.1≠k):=by
 induction xs with
 |nil=>intro j k p h;simp at h
 |cons x r ih=>
  intro j k p h;have D8:=List.nodup_cons.mp (by simpa using hn:(x.1::r.map (·.1)).Nodup);cases j with
  |zero=>
   have:x=(k,p):=by simpa using h
   subst this;have hf:r.filter (fun x=>decide (x.1≠k))=r:=List.filter_eq_self.mpr fun y hy=>by
    have:y.1≠k:=fun e=>D8.1 (List.mem_map.mpr ⟨y,hy,e⟩)
    simpa using this
   simp only[List.eraseIdx_cons_zero,List.filter_cons];rw[hf];simp
  |succ j=>
   have hj:r[j]?=some (k,p):=by simpa using h
   have hx:x.1≠k:=fun e=>D8.1 (e▸(List.mem_map.mpr ⟨(k,p),ZI hj,rfl⟩))
   simp only[List.eraseIdx_cons_succ,List.filter_cons];rw[ih D8.2 hj,MJ (by simpa using hx)]
theorem xr{d a:Addr}{xs:List (κ×Addr×Value)}{k:κ}{p:Addr×Value}{Q:Option DictEntry→Shared→Prop}(hu:knd.room A)(oB:knd.is s.heap k a)(hm:s.heap.DictOfH knd d xs)(hp:atKey xs k=some p)(hsz:xs.length≤sizeLine)
  (h:∀h' e,e.val=p.2→h'.DictOfH knd d (xs.filter fun x=>decide (x.1≠k))→Heap.SameBut d s.heap h'→Q (some e) {s with heap:=h',toks:=s.toks+knd.draws k}):wpAny (model prog w) A (Builtin.Dict.takeOut d (.ref a)) Q E s:=by
 obtain⟨o,es,ep,ho,hc,hd,he,Tf,hn⟩:=hm;unfold Builtin.Dict.takeOut
 try with_reducible refine wpAny_holding ?_
 refine wpAny_bind (knd.pyHash hu oB ?_);refine wpAny_bind (wpAny_dictFind_heap (s:={s with toks:=s.toks+knd.draws k}) hu oB ho hd he Tf hn ?_ ?_)
 ·intro C_;rw[atKey_none_of_get C_]at hp;cases hp
 ·intro j q hj;have eq:q=p:=by rw[atKey_of_get hn hj]at hp;exact ZO hp
  subst eq;refine wpAny_bind (wpAny_dictEntries (s:={s with toks:=s.toks+knd.draws k}) ho hd ?_);rw[entry_at he j,hj];refine wpAny_bind (wpAny_updateDictKeys (hz:=by have e:=size_of_entries he;lia) (s:={s with toks:=s.toks+knd.draws k}) ho hd (wpAny_pure (h _ _ rfl ⟨_,_,ep+1,Heap.get?_update_self _ ho (Obj.isFreed_of_dict (Obj.data_mapDictKeys hd _)),
   hc.mapDictKeys _,Obj.data_mapDictKeys hd _,?_,?_,?_⟩ (Heap.SameBut.update ..))))
  ·rw[←C9 hn hj,v9,←he];obtain⟨l⟩:=es;simp
  ·intro x hx;exact knd.keeps (Tf x (List.mem_filter.mp hx).1) ho hd (Heap.SameBut.update ..)
  ·exact hn.sublist (List.filter_sublist.map _)
theorem Ax(d a:Addr):
  MeetsIn prog w (Builtin.«dict.pop» ⟨[.ref d, .ref a],[]⟩) (fun A R s=>knd.room A.in1∧∃k xs p,knd.is s.heap k a∧s.heap.DictOfH knd d xs∧xs.length≤sizeLine∧atKey xs k=some p∧
   ∀h',h'.DictOfH knd d (xs.filter fun x=>decide (x.1≠k))→Heap.SameBut d s.heap h'→R (.ok (.ret p.2)) {s with heap:=h',toks:=s.toks+knd.draws k}):=
 .of_wp fun A R s ⟨hu,k,xs,p,oB,hm,hsz,hp,h⟩=>by
  obtain⟨o,es,ep,ho,hc,hd,he,Tf,hn⟩:=id hm;have eQ:es.isEmpty=false:=by
   cases hx:xs with
   |nil=>rw[hx]at hp;cases hp
   |cons x r=>
    have:=size_of_entries he;rw[hx]at this;simp at this;rw[Array.isEmpty_eq_false_iff];intro e;rw[e]at this;simp at this
  unfold Builtin.«dict.pop»;refine wpAny_bind ?_;unfold Builtin.Dict.keyAndDefault;refine wpAny_bind (wpAny_notOrdered_dict hm.typeIs ?_);show wpAny _ _ (pure (d,Value.ref a,none)) _ _ s;refine wpAny_pure ?_;have OW:(keyPart (Value.ref a)).isSome=false:=rfl;simp only[OW,Bool.false_eq_true,if_false];refine wpAny_bind (wpAny_dictEntries ho hd (ZN (ZF ?_)));rw[eQ];simp only[Bool.false_eq_true,if_false];refine wpAny_bind (xr hu oB hm hp hsz fun h' e XM CL mZ=>?_);simp only[Option.isNone_some,Bool.false_eq_true,if_false];exact ZN (wpAny_letGo (ZF ⟨e.val,rfl,by rw[XM];exact h h' CL mZ⟩))
end
section
variable{X:Cx}{pins:List (Addr×Obj)}{σ:St}{H:Hp}{s:Shared}{a:Addr}{u:Value}{A:Around}{E:Value→Shared→Prop}{kvs:List (List Key×V)}
theorem KT.drop{xs:List (List Key×Addr×Value)}(r:KT H kvs xs)(k:List Key):KT H (i5 kvs k) (xs.filter fun x=>decide (x.1≠k)):=by
 unfold i5
 induction r with
 |nil=>exact .nil
 |cons z t ih=>
  simp only[List.filter_cons];rw[z.1];split
  ·exact .cons z ih
  ·exact ih
theorem Lp{v:V}{k:List Key}{b:Addr}{Q:Value→Shared→Prop}(hu:A.units+1<cLine)(I:Inv X pins σ H s)(e:H a=some (.dT kvs))(eb:H b=some (.tup (k.map kV)))(l:bA kvs k=some v)
  (h:∀w' s',Inv X pins σ (upd H a (.dT (i5 kvs k))) s'→RelV v w'→Q w' s'):wpAny (model X.prog X.w) A (call (.builtin "dict.pop") [.ref a, .ref b]) Q E s:=by
 obtain⟨z,hd,xs,rel,dd⟩:=Jj I.bX e;have rv:=rel.val k;rw[l]at rv;obtain⟨w',hw,iD⟩:=kx.some_of rv;obtain⟨p,hp,rfl⟩:=Option.map_eq_some_iff.mp hw;refine call_meetsIn PySem.F.slot_dict_pop dd.typeIs PySem.F.entry_dict_pop (PySem.F.args_dict_pop_2 _ _) (Ax (knd:=tupleKind (cW X.prog X.w)) a b)
  ⟨tupleKind_room_in1 hu,k,xs,p,nC I.bX eb,dd,by rw[←Paired.length rel];exact z,hp,fun h' Jk hs=>h _ _ ?_ iD⟩
 obtain⟨q,es,ep,hq,h2,h3,h4,_,h5⟩:=Jk;refine wO I (by rw[e];exact True.intro) hs ⟨q,hq⟩ ⟨Nat.le_trans (yM kvs k) z,hd,_,(rel.drop k).keeps fun c ys ec=>?_,q,es,ep,hq,h2,h3,h4,h5⟩;rw[ao (iZ ec e (fun z=>nomatch z))];exact ec
end
inductive JC(x y:V)(H:Hp)(Q:VK):Prop
 |mk (a b:Addr) (kvs:List (List Key×V)) (k:List Key) (v:V) (_:x= .ref a) (_:y= .ref b) (_:H a=some (.dT kvs)) (_:H b=some (.tup (k.map kV))) (_:bA kvs k=some v) (_:Q v (upd H a (.dT (i5 kvs k)))):JC x y H Q
def OX(td ty:TE):TE:=fun σ H Q=>td σ H fun x H1=>∃a,x= .ref a∧Sj H1 a∧ty σ H1 fun y H2=>JC x y H2 Q
theorem Fb{X:Cx}{o e:Expr}{apos eD:Pos}{td ty:TE}(hu:X.A.units+1<cLine)(ho:PE X o td)(he:PE X e ty)(m:M1 X o "pop" apos e eD):PE X (.Call (.Attribute o "pop" apos) [e] [] eD) (OX td ty):=by
 intro pins s σ H Q I h;refine wpAny_Call_method m.base m.uO m.line PySem.F.plainAttrs_dict PySem.F.slot_dict_pop PySem.F.type_dict_pop (cJ (ho pins s σ H _ I h) fun u s1 ⟨x,H1,I1,rx,a,ex,d,q1⟩=>?_);subst ex;obtain rfl:u=Value.ref a:=rx;obtain⟨t1,t2,_⟩:=En I1 d;refine⟨t1,t2,?_⟩;rw[m.trees];refine Calls.callWith_builtin rfl (Calls.evalArgs_plain (Calls.spliced_cons (cJ (he pins s1 σ H1 _ I1 q1) fun iv s2 ⟨y,H2,I2,ry,q2⟩=>Calls.spliced_nil ?_)));obtain⟨a',b,kvs,k,v,e1,rfl,e2,e3,l,q⟩:=q2;cases e1;obtain rfl:iv=Value.ref b:=ry;exact Lp hu I2 e2 e3 l fun w' s3 I3 iD=>⟨v,_,I3,iD,q⟩
section
variable{prog:Program}{w:World}{A:Around}{E:Value→Shared→Prop}{s:Shared}{it d:Addr}{i ep:Nat}{od:Obj}{es:Array DictEntry}{Q:Option Value→Shared→Prop}
theorem Fe(hit:s.heap.IsValIter it d i es.size ep)(JD:s.heap.get? d=some od)(JE:od.data= .dict es ep)(hi:i<es.size)
  (hQ:∀h',h'.IsValIter it d (i+1) es.size ep→Heap.SameBut it s.heap h'→Q (some es[i].val) {s with heap:=h'}):wpAny (model prog w) A (pyNext (.ref it)) Q E s:=by
 obtain⟨o,ho,hc,hd⟩:=id hit;have T:=hit.typeIs;have C_:Builtin.Dict_items.ownsTuple "dict_valueiterator"=false:=WV;unfold pyNext;refine wpAny_bind (wpAny_attempt (wpAny_callSpecial?_slot (name:=Str.ofString "__next__") T F.slot_dict_valueiterator_next (wpAny_call_entry F.slot_dict_valueiterator_next T F.entry_dict_valueiterator_next ?_ (F.args_dict_valueiterator_next_1 _))));refine wpAny_bind (ZF (ZN (ZN ?_)));first|refine wpAny_bind (wpAny_typeNameOfWhole_valiter T (ZF ?_))|refine wpAny_bind (wpAny_typeNameOf_valiter T (ZF ?_))
 refine wpAny_bind (wpAny_fieldsOf ho hd ?_);simp only[C_,Bool.false_eq_true,if_false];show wpAny _ _ (if (Value.ref d==Value.none)=true then _ else _) _ _ s;rw[Je (show ¬((Value.ref d==Value.none)=true)from Bool.false_ne_true)];refine wpAny_bind (ZF (ZN (wpAny_dictEntries JD JE ?_)));rw[if_neg Vs];refine wpAny_bind (ZF (ZN (wpAny_dictEpoch JD JE ?_)));rw[if_neg Vs];refine wpAny_pure ?_;simp only[show ¬((i:Int)<0)from by lia,if_false,Int.toNat_natCast,Array.getElem?_eq_getElem hi];refine wpAny_bind ?_;first|refine wpAny_bind (wpAny_typeNameOfWhole_valiter T (ZF ?_))|refine wpAny_bind (wpAny_typeNameOf_valiter T (ZF ?_))
 refine wpAny_bind (wpAny_isOneOf_valiter T ?_);show wpAny _ _ (setField (.ref it) 1 (rawInt ((i:Int)+1))>>=_) _ _ s;refine wpAny_bind (wpAny_setField ho hd Vs ?_);have ht:(s.heap.update it (Obj.mapFields (·.setIfInBounds 1 (rawInt ((i:Int)+1))))).IsValIter it d (i+1) es.size ep:=
  ⟨_,Heap.get?_update_self _ ho (Obj.isFreed_of_fields (Obj.data_mapFields hd _)),(Obj.cls_mapFields ..).trans hc,by rw[Obj.data_mapFields hd];simp[rawInt]⟩
 refine wpAny_bind (wpAny_holding (ZN (wpAny_isOneOf_valiter (s:={s with heap:=s.heap.update it (Obj.mapFields (·.setIfInBounds 1 (rawInt ((i:Int)+1))))}) ht.typeIs ?_)));refine wpAny_bind (wpAny_isOneOf_valiter (s:={s with heap:=s.heap.update it (Obj.mapFields (·.setIfInBounds 1 (rawInt ((i:Int)+1))))}) ht.typeIs ?_);show wpAny _ _ (pure es[i].val) _ _ _;exact ZF (ZF ⟨_,rfl,ZF (hQ _ ht (Heap.SameBut.update ..))⟩)
theorem HU(hh:A.handled=none)(hit:s.heap.IsValIter it d i es.size ep)(JD:s.heap.get? d=some od)(JE:od.data= .dict es ep)(hi:es.size≤i)
  (hQ:∀h',Heap.ExtBut it s.heap h'→Q none {s with heap:=h'}):wpAny (model prog w) A (pyNext (.ref it)) Q E s:=by
 obtain⟨o,ho,hc,hd⟩:=id hit;have T:=hit.typeIs;have C_:Builtin.Dict_items.ownsTuple "dict_valueiterator"=false:=WV;unfold pyNext;refine wpAny_bind (wpAny_attempt (wpAny_callSpecial?_slot (name:=Str.ofString "__next__") T F.slot_dict_valueiterator_next (wpAny_call_entry F.slot_dict_valueiterator_next T F.entry_dict_valueiterator_next ?_ (F.args_dict_valueiterator_next_1 _))));refine wpAny_bind (ZF (ZN (ZN ?_)));first|refine wpAny_bind (wpAny_typeNameOfWhole_valiter T (ZF ?_))|refine wpAny_bind (wpAny_typeNameOf_valiter T (ZF ?_))
 refine wpAny_bind (wpAny_fieldsOf ho hd ?_);simp only[C_,Bool.false_eq_true,if_false];show wpAny _ _ (if (Value.ref d==Value.none)=true then _ else _) _ _ s;rw[Je (show ¬((Value.ref d==Value.none)=true)from Bool.false_ne_true)];refine wpAny_bind (ZF (ZN (wpAny_dictEntries JD JE ?_)));rw[if_neg Vs];refine wpAny_bind (ZF (ZN (wpAny_dictEpoch JD JE ?_)));rw[if_neg Vs];refine wpAny_pure ?_;simp only[show ¬((i:Int)<0)from by lia,if_false,Int.toNat_natCast,Array.getElem?_eq_none hi];refine wpAny_bind ?_;first|refine wpAny_bind (wpAny_typeNameOfWhole_valiter T (ZF ?_))|refine wpAny_bind (wpAny_typeNameOf_valiter T (ZF ?_))
 show wpAny _ _ (setField (.ref it) 0 .none>>=_) _ _ s;refine wpAny_bind (wpAny_setField ho hd Vs ?_);show wpAny _ _ (newExc (.type "StopIteration") []>>=_) _ _ _;refine wpAny_bind ?_;simp only[newExc,newTuple];refine wpAny_bind (wpAny_newObj_type ?_ (by size_fits));refine wpAny_bind (m:=firstArgMember _ _) (wpAny_of_eq (a:=Value.none) (by first|rfl|(simp only[firstArgMember];rfl)) ?_);refine wpAny_newObj_type ?_ (by size_fits);simp only[raiseNew];refine wpAny_bind (wpAny_handled ?_);rw[show A.in1.handled=none from hh];refine wpAny_bind (ZF (wpAny_throw ?_));refine wpAny_bind (wpAny_isInstance (T:="StopIteration") (b:=true) ⟨_,Heap.get?_push_size _ rfl,rfl⟩ isSubtype_stop ?_);exact ZF (hQ _ (((Heap.SameBut.update ..).extBut.push _).push _))
end
theorem v_{α β:Type}{F:α→β→Prop}:∀{l:List α}{m:List β}{i:Nat}{a:α},Paired F l m→l[i]?=some a→∃b,m[i]?=some b∧F a b
 | _,_,_,_, .nil,e=>by simp at e
 | _,_,0,_, .cons r _,e=>by simp at e;subst e;exact⟨_,rfl,r⟩
 | _,_,i+1,_, .cons _ t,e=>by
  obtain⟨b,h,f⟩:=v_ (i:=i) t (by simpa using e);exact⟨b,by simpa using h,f⟩
def Tg(d:Addr)(o:Obj)(kvs:List (List Key×V)):It:=
 ⟨fun i H=>H d=some (.sE o (.dT kvs))∧i<kvs.length,fun i H x H'=>H'=H∧∃p,kvs[i]?=some p∧x=p.2,fun i H=>H d=some (.sE o (.dT kvs))∧kvs.length≤i⟩
theorem BR{P:Program}{w:World}{H:Hp}{h:Heap}{d:Addr}{o:Obj}{kvs:List (List Key×V)}{es:Array DictEntry}{ep:Nat}(ok:lE P w H h)(e:H d=some (.sE o (.dT kvs)))(hd:o.data= .dict es ep):
  h.get? d=some o∧es.size=kvs.length∧∀i (hi:i<es.size) p,kvs[i]?=some p→RelV p.2 es[i].val:=by
 obtain⟨q1,_,_,xs,r,o',zV,Qs,z1,z2,z3,z4,_⟩:=ok d _ e;rw[q1]at z1;cases z1;rw[hd]at z3;cases z3;have hs:=size_of_entries z4;have hl:=Paired.length r;refine⟨q1,by rw[hs,hl],fun i hi p hp=>?_⟩;obtain⟨x,hx,rx⟩:=v_ r hp;have e1:=entry_at z4 i;rw[hx,Array.getElem?_eq_getElem hi]at e1;have:es[i]=entryOfKey (tupleKind (cW P w)) x:=ZO e1;rw[this];exact rx.2.2
theorem turn_val{P:Program}{w:World}{K:Frag}{tg:Expr}{it d:Addr}{o:Obj}{kvs:List (List Key×V)}{es:Array DictEntry}{ep:Nat}(hd:o.data= .dict es ep):Turn P w K tg (Tg d o kvs) [it] it (fun i h=>h.IsValIter it d i es.size ep) where
 mem:=XC
 obj:=fun i h st b hb=>by
  have e:b=it:=by simpa using hb
  subst e;obtain⟨o,e,c,d⟩:=st;exact⟨o,e,fun v z=>by rw[d]at z;cases z⟩
 keep:=fun i h h' st k=>let ⟨o,ho,r⟩:=st;⟨o,k it (XC) o ho,r⟩
 item:=by
  intro X hP hw hK hc i pins s σ H E I hf st hg;subst hP hw hK;obtain⟨hg,hi⟩:=hg;obtain⟨f0,f1,f2,f3,f4,f5⟩:=hf it (XC);obtain⟨g1,g2,g3⟩:=BR I.bX hg hd;have BB:i<es.size:=by lia
  refine Fe st g1 hd BB fun h' aT sb=>?_
  have I1:Inv X pins σ H {s with heap:=h'}:=I.turned (t':=s.toks) (fun b o hb e=>(sb.2 b hb).trans e) f0 f1 f3 f4 f5;obtain⟨oi,q1,q2,q3⟩:=id aT;exact⟨_,rfl,yH (s:={s with heap:=h'}) q1 q2 q3 (WV) ⟨_,H,I1,g3 i BB kvs[i] (by simp[hi]),⟨rfl,kvs[i],by simp[hi],rfl⟩,aT,fun b hb=>(hf b hb).1⟩⟩
 done:=by
  intro X hP hw hK hc i pins s σ H E I hf st hg;subst hP hw hK;obtain⟨hg,hi⟩:=hg;obtain⟨f0,f1,f2,f3,f4,f5⟩:=hf it (XC);obtain⟨g1,g2,g3⟩:=BR I.bX hg hd;exact HU (I.ok.hd hc) st g1 hd Hy fun h' eb=>⟨rfl,I.turned (t':=s.toks) (fun b o hb e=>eb b o hb e) f0 f1 f3 f4 f5⟩
 self:=fun _ _ _ _ _ st h=>wpAny_pyIter_valiter st h
section
variable{prog:Program}{w:World}{A:Around}{E:Value→Shared→Prop}{s:Shared}
theorem Dd(d:Addr)(hd:(d==sysModules)=false):MeetsIn prog w (Builtin.«dict.values» ⟨[.ref d],[]⟩) (fun _ R s=>s.TypeIs (.ref d) "dict"∧
   R (.ok (.ret (.ref s.heap.objs.size))) {s with heap:=s.heap.push {cls:= .type "dict_values",data:= .fields #[.ref d]}}):=
 .of_wp fun A R s ⟨ht,h⟩=>by
  refine wpAny_bind ?_;unfold Builtin.Dict.noArgs;refine wpAny_bind (wpAny_notOrdered_dict ht ?_);show wpAny _ _ (pure d) _ _ s;refine wpAny_pure ?_;show wpAny _ _ (Builtin.Dict.showsAll d>>=_) _ _ s;unfold Builtin.Dict.showsAll;rw[Je (by rw[hd];exact Bool.false_ne_true)];exact ZN (ZF (ZN (wpAny_newObj_type (ZF ⟨_,rfl,h⟩))))
theorem De{v d:Addr}{od:Obj}{es:Array DictEntry}{ep:Nat}{Q:Value→Shared→Prop}(hv:s.heap.IsValuesView v d)(JD:s.heap.get? d=some od)(JE:od.data= .dict es ep)
  (hQ:Q (.ref s.heap.objs.size) {s with heap:=s.heap.push {cls:= .type "dict_valueiterator",data:= .fields #[.ref d, .int 0 0, .int es.size 0, .int ep 0]}}):wpAny (model prog w) A (pyIter (.ref v)) Q E s:=by
 obtain⟨ov,XN,aam,XO⟩:=id hv;refine wpAny_pyIter_slot hv.typeIs F.slot_dict_values_iter (wpAny_call_entry F.slot_dict_values_iter hv.typeIs F.entry_dict_values_iter ?_ (F.args_dict_values_iter_1 _));unfold Builtin.«dict_values.__iter__»;refine wpAny_bind (ZF (ZN ?_));unfold Builtin.Dict_items.dictOf;refine wpAny_bind (wpAny_field XN XO (x:= .ref d) rfl (ZF (ZN ?_)));unfold Builtin.Dict_items.newIterator;refine wpAny_bind (wpAny_dictEntries JD JE (ZN (wpAny_dictEpoch JD JE ?_)));have C_:Builtin.Dict_items.ownsTuple "dict_valueiterator"=false:=WV;simp only[C_,Bool.false_eq_true,if_false];refine wpAny_newObj_type (ZF ⟨_,rfl,"dict_valueiterator",_,⟨_,Heap.get?_push_size _ rfl,rfl⟩,F.slot_dict_valueiterator_next.lookup,?_⟩);simpa[rawInt]using hQ
end
def OY(eR:Hp)(tl:TE):TI:=fun σ H R=>tl σ H fun x H1=>∃d kvs,x= .ref d∧H1 d=some (.dT kvs)∧∀o,NF eR d→R (Tg d o kvs) (upd H1 d (.sE o (.dT kvs)))
theorem HV{X:Cx}(eR:Hp){tg o:Expr}{tl:TE}{apos eD:Pos}(hl:PE X o tl)(oG:attributeBase o "values" X.env (eval o X.env)=eval o X.env:=by rfl)(oH:(apos.endLine==eD.line)=true:=by rfl)(hH:X.eR=eR:=by rfl):
  PI X tg (.Call (.Attribute o "values" apos) [] [] eD) (OY eR tl):=by
 subst hH;intro pins s σ H R I h;refine wpAny_Call_method0_late oG oH (cJ (hl pins s σ H _ I h) fun v s1 ⟨x,H1,I1,r1,q1⟩=>?_);obtain⟨d,kvs,e,hd,q⟩:=q1;subst e;cases r1;obtain⟨z1,z2,xs,r,o,es,ep,g1,g2,g3,g4,g5⟩:=I1.bX d _ hd;have nf:NF X.eR d:=fun o v e=>by
  have:=I1.base.ot d o v e;rw[hd]at this;cases this
 refine⟨"dict",_,F.plainAttrs_dict,F.slot_dict_values,F.type_dict_values,⟨o,g1,g2.1⟩,fun b hb=>?_,Calls.callWith_builtin rfl (PySem.evalArgs_none ?_)⟩
 ·cases hb;exact⟨o,g1,g2.2.1⟩
 refine call_meetsIn F.slot_dict_values ⟨o,g1,g2.1⟩ F.entry_dict_values (F.args_dict_values_1 _) (Dd d z2) ⟨⟨o,g1,g2.1⟩,?_⟩;have XQ:=Heap.get?_push_of_some {cls:= .type "dict_values",data:= .fields #[.ref d]} g1;refine De (s:={s1 with heap:=s1.heap.push {cls:= .type "dict_values",data:= .fields #[.ref d]}}) ⟨_,Heap.get?_push_size _ rfl,rfl,rfl⟩ XQ g3 ?_;have Iz:Inv X pins σ (upd H1 d (.sE o (.dT kvs))) s1:=I1.swap hd (fun _ z=>nomatch z) (fun _ z=>nomatch z) (fun _ z=>nomatch z) nf ⟨g1,z1,z2,xs,KT.keeps r (fun c ys ec=>by rw[ao (iZ ec hd (fun z=>nomatch z))];exact ec),o,es,ep,g1,g2,g3,g4,g5⟩;have I2:=Iz.kept (t':=s1.toks) fun b o e=>Heap.get?_push_of_some {cls:= .type "dict_values",data:= .fields #[.ref d]} e
 refine⟨_,[_],_,_,_,rfl,I2.kept (t':=s1.toks) fun b o e=>ZU e,turn_val (o:=o) (kvs:=kvs) g3,⟨_,Heap.get?_push_size _ rfl,rfl,rfl⟩,fun b hb=>?_,q o nf⟩;have e:b=(s1.heap.push {cls:= .type "dict_values",data:= .fields #[.ref d]}).objs.size:=by simpa using hb
 subst e;exact I2.uU ZT (I2.bX.fresh ZT)
structure Ay(n:Nat)(lt:Nat→Nat→Bool):Prop where
 tr:∀i j k,i<n→j<n→k<n→lt i j=true→lt j k=true→lt i k=true
 as:∀i j,i<n→j<n→lt i j=true→lt j i=false
 Th:∀i j,i<n→j<n→i≠j→lt i j=true∨lt j i=true
def yw(n:Nat)(p:Array Nat):Prop:=p.toList.Perm (ZR n)
abbrev gd(p:Array Nat)(k:Nat):Nat:=p.getD k 0
theorem Ff(p:Array Nat)(k:Nat):gd p k=(p[k]?).getD 0:=by unfold gd;rw[Array.getD_eq_getD_getElem?]
theorem yw.size{n:Nat}{p:Array Nat}(h:yw n p):p.size=n:=by have:=h.length_eq;simpa using this
def Sd(lt:Nat→Nat→Bool)(p:Array Nat)(m:Nat):Prop:=∀i j,i<j→j<m→lt (gd p i) (gd p j)=true
section
variable{n:Nat}{lt:Nat→Nat→Bool}(L:Ay n lt)
include L
omit L in
omit L in
omit L in
end
def y9:Bool→Keyed→Array Keyed→Nat→Nat→Nat→StateT SortSt Sem (Option Nat):=sortPriv%PySem.Builtin.gallop
def Lq:Array Keyed→Array Keyed→StateT SortSt Sem (Array Keyed):=sortPriv%PySem.Builtin.mergeLo
def Lr:Array Keyed→Array Keyed→StateT SortSt Sem (Array Keyed):=sortPriv%PySem.Builtin.mergeHi
def Az(l:Bool)(key:Keyed)(xs:Array Keyed)(b i:Nat):StateT SortSt Sem (Option Bool):=do
 let x←elem' xs (b+i)
 if l then lt' x key else return (←lt' key x).map (!·)
theorem HW(l:Bool)(key:Keyed)(xs:Array Keyed)(b n h:Nat):y9 l key xs b n h=(do
 let mut u:=0
 let mut v:=1
 let mut lo:=0
 let mut hi:=0
 let some r←Az l key xs b h|return none
 if r then
  let mx:=n-h
  for _ in [0:n] do
   if v≥mx then break
   let some z←Az l key xs b (h+v)|return none
   if !z then break
   u:=v
   v:=2*v+1
  lo:=h+u+1
  hi:=h+min v mx
 else
  let mx:=h+1
  for _ in [0:n] do
   if v≥mx then break
   let some z←Az l key xs b (h-v)|return none
   if z then break
   u:=v
   v:=2*v+1
  lo:=h+1-min v mx
  hi:=h-u
 for _ in [0:n] do
  if lo≥hi then break
  let m:=lo+(hi-lo)/2
  let some z←Az l key xs b m|return none
  if z then lo:=m+1 else hi:=m
 return some hi):=rfl
section
variable{prog:Program}{w:World}{A:Around}{E:Value→Shared→Prop}{s:Shared}
structure Fg(prog:Program)(w:World)(A:Around)(s:Shared)(X:List Keyed)(κ:SortKind)(lt:Keyed→Keyed→Bool):Prop where
 run:∀x∈X,∀y∈X,∀C:Bool→Shared→Prop,C (lt x y) s→wpAny (model prog w) A (keyLt' κ x.1 y.1) C (fun _ _=>False) s
 tr:∀x∈X,∀y∈X,∀z∈X,lt x y=true→lt y z=true→lt x z=true
 as:∀x∈X,∀y∈X,lt x y=true→lt y x=false
 Th:∀x∈X,∀y∈X,x≠y→lt x y=true∨lt y x=true
 nd:X.Nodup
variable{X:List Keyed}{κ:SortKind}{lt:Keyed→Keyed→Bool}(C:Fg prog w A s X κ lt)
include C
theorem Fg.no{x y:Keyed}(h1:x∈X)(h2:y∈X)(hn:x≠y)(h:lt x y=false):lt y x=true:=(C.Th x h1 y h2 hn).resolve_left (by rw[h];simp)
theorem Fg.ask{st:SortSt}{x y:Keyed}{Q:Option Bool→SortSt→Prop}(hk:kindOf st=κ)(h1:x∈X)(h2:y∈X)(h:Q (some (lt x y)) st):wpS (model prog w) A E s (lt' x y) Q st:=by
 rw[lt'_eq];refine wpS_bind (wpS_get ?_);rw[hk];refine wpS_bind (wpS_lift (wpAny_attempt (wpAny_mono (C.run x h1 y h2 (fun b s'=>b=lt x y∧s'=s) ⟨rfl,rfl⟩) ?_ fun _ _ e=>e.elim)));rintro b s' ⟨rfl,rfl⟩;exact⟨rfl,ZK h⟩
omit C in
theorem eY{st:SortSt}{xs:Array Keyed}{i:Nat}{x:Keyed}{Q:Keyed→SortSt→Prop}(e:xs[i]?=some x)(h:Q x st):wpS (model prog w) A E s (elem' xs i) Q st:=by
 rw[elem'_eq,e];exact ZK h
def lr(lt:Keyed→Keyed→Bool)(l:Bool)(key x:Keyed):Bool:=if l then lt x key else !lt key x
theorem sP{st:SortSt}{l:Bool}{key x:Keyed}{xs:Array Keyed}{b i:Nat}{Q:Option Bool→SortSt→Prop}(hk:kindOf st=κ)(h1:key∈X)(h2:x∈X)(e:xs[b+i]?=some x)(h:Q (some (lr lt l key x)) st):wpS (model prog w) A E s (Az l key xs b i) Q st:=by
 unfold Az;refine wpS_bind (eY e ?_);cases l with
 |true=>exact C.ask hk h2 h1 h
 |false=>exact wpS_bind (C.ask hk h1 h2 (ZK h))
theorem qG{st:SortSt}{l:Bool}{key:Keyed}{xs:Array Keyed}{b n h:Nat}{Q:Option Nat→SortSt→Prop}(g:Nat→Keyed)(hk:kindOf st=κ)(h1:key∈X)(hg:∀i,i<n→xs[b+i]?=some (g i)∧g i∈X)(SD:∀i j,i<j→j<n→lt (g i) (g j)=true)(hh:h<n)
  (q:∀k,k≤n→(∀i,i<k→lr lt l key (g i)=true)→(∀i,k≤i→i<n→lr lt l key (g i)=false)→Q (some k) st):wpS (model prog w) A E s (y9 l key xs b n h) Q st:=by
 have dn:∀i j,i≤j→j<n→lr lt l key (g j)=true→lr lt l key (g i)=true:=fun i j uQ hj hb=>by
  by_cases e:i=j
  ·rw[e];exact hb
  have hl:=SD i j Hy hj;unfold lr at hb⊢;cases l with
  |true=>exact C.tr _ (hg i Hy).2 _ (hg j hj).2 _ h1 hl hb
  |false=>
   simp only[Bool.false_eq_true,if_false,Bool.not_eq_true']at hb⊢;cases e2:lt key (g i)with
   |false=>rfl
   |true=>rw[C.tr _ h1 _ (hg i Hy).2 _ (hg j hj).2 e2 hl]at hb;cases hb
 have up:∀i j,i≤j→j<n→lr lt l key (g i)=false→lr lt l key (g j)=false:=fun i j uQ hj hb=>by
  cases e:lr lt l key (g j)with
  |false=>rfl
  |true=>rw[dn i j uQ hj e]at hb;cases hb
 have bin:∀lo hi,lo≤hi→hi≤n→(∀i,i<lo→lr lt l key (g i)=true)→(∀i,hi≤i→i<n→lr lt l key (g i)=false)→wpS (model prog w) A E s (do
   let r←forIn [0:n] ((none,lo,hi):Option (Option Nat)×Nat×Nat) fun _ __s=>
    if __s.2.1≥__s.2.2 then pure (ForInStep.done (none,__s.2.1,__s.2.2))
    else do
     let __x←Az l key xs b (__s.2.1+(__s.2.2-__s.2.1)/2)
     match __x with
     |some z=>if z=true then pure (ForInStep.yield (none,__s.2.1+(__s.2.2-__s.2.1)/2+1,__s.2.2))else pure (ForInStep.yield (none,__s.2.1,__s.2.1+(__s.2.2-__s.2.1)/2))
     | _=>pure (ForInStep.done (some none,__s.2.1,__s.2.2))
   match r.1 with
   |some r=>pure r
   |none=>pure (some r.2.2)) Q st:=fun lo hi h2 h3 h4 h5=>by
  refine wpS_bind (wpS_mono (wpS_forRange (I:=fun x c aT=>aT=st∧∃lo hi,c=(none,lo,hi)∧lo≤hi∧hi≤n∧(∀i,i<lo→lr lt l key (g i)=true)∧(∀i,hi≤i→i<n→lr lt l key (g i)=false)∧hi-lo+x≤n) (Q:=fun c aT=>aT=st∧∃k,c.1=none∧c.2.2=k∧k≤n∧(∀i,i<k→lr lt l key (g i)=true)∧(∀i,k≤i→i<n→lr lt l key (g i)=false)) ?_ ?_ ⟨rfl,lo,hi,rfl,h2,h3,h4,h5,by lia⟩) ?_)
  ·rintro x c aT _ hx ⟨rfl,lo,hi,rfl,a1,a2,a3,a4,a5⟩;dsimp only;by_cases Vz:lo≥hi
   ·rw[MJ Vz];have:lo=hi:=by lia
    subst this;exact ZK ⟨rfl,lo,rfl,rfl,a2,a3,a4⟩
   ·rw[Je Vz];have hm:lo+(hi-lo)/2<n:=by lia
    obtain⟨g1,g2⟩:=hg _ hm;refine wpS_bind (sP C hk h1 g2 g1 ?_);dsimp only;cases e:lr lt l key (g (lo+(hi-lo)/2))with
    |true=>
     simp only[if_true];exact ZK ⟨rfl,_,hi,rfl,by lia,a2,fun i BB=>dn i _ (by lia) hm e,a4,by lia⟩
    |false=>
     simp only[Bool.false_eq_true,if_false];exact ZK ⟨rfl,lo,_,rfl,by lia,by lia,a3,fun i BB lJ=>up _ i BB lJ e,by lia⟩
  ·rintro c aT ⟨rfl,lo,hi,rfl,a1,a2,a3,a4,a5⟩;have:lo=hi:=by lia
   subst this;exact⟨rfl,lo,rfl,rfl,a2,a3,a4⟩
  ·rintro⟨c1,c2,c3⟩ aT ⟨rfl,k,e1,e2,a2,a3,a4⟩;dsimp only at e1 e2⊢;subst e1 e2;exact ZK (q _ a2 a3 a4)
 rw[HW];obtain⟨XR,XS⟩:=hg h hh;refine wpS_bind (sP C hk h1 XS XR ?_);dsimp only;cases e:lr lt l key (g h)with
 |true=>
  simp only[if_true];refine wpS_bind (wpS_mono (wpS_forRange (I:=fun x c aT=>aT=st∧∃u v,c=(none,u,v)∧u<v∧h+u<n∧lr lt l key (g (h+u))=true∧x<v) (Q:=fun c aT=>aT=st∧∃u v,c=(none,u,v)∧u<v∧h+u<n∧lr lt l key (g (h+u))=true∧(n-h≤v∨(h+v<n∧lr lt l key (g (h+v))=false))) ?_ ?_ ⟨rfl,0,1,rfl,by lia,by lia,e,by lia⟩) ?_)
  ·rintro x c aT _ hx ⟨rfl,u,v,rfl,a1,a2,a3,a4⟩;dsimp only;by_cases hv:v≥n-h
   ·rw[MJ hv];exact ZK ⟨rfl,u,v,rfl,a1,a2,a3, .inl hv⟩
   ·rw[Je hv];obtain⟨g1,g2⟩:=hg (h+v) (by lia);refine wpS_bind (sP C hk h1 g2 g1 ?_);dsimp only;cases e2:lr lt l key (g (h+v))with
    |false=>
     simp only[Bool.not_false,if_true];exact ZK ⟨rfl,u,v,rfl,a1,a2,a3, .inr ⟨by lia,e2⟩⟩
    |true=>
     simp only[Bool.not_true,Bool.false_eq_true,if_false];exact ZK ⟨rfl,v,2*v+1,rfl,by lia,by lia,e2,by lia⟩
  ·rintro c aT ⟨rfl,u,v,rfl,a1,a2,a3,a4⟩;exact⟨rfl,u,v,rfl,a1,a2,a3, .inl Hy⟩
  ·rintro c aT ⟨rfl,u,v,rfl,a1,a2,a3,a4⟩;dsimp only;refine Eq.mp (by kernel_rfl) (bin (h+u+1) (h+min v (n-h)) (by lia) (by lia) (fun i hi=>dn i (h+u) (by lia) a2 a3) fun i hi lJ=>?_);rcases a4 with a4|⟨a4,a5⟩
   ·lia
   ·exact up (h+v) i Hy lJ a5
 |false=>
  simp only[Bool.false_eq_true,if_false];refine wpS_bind (wpS_mono (wpS_forRange (I:=fun x c aT=>aT=st∧∃u v,c=(none,u,v)∧u<v∧u≤h∧lr lt l key (g (h-u))=false∧x<v) (Q:=fun c aT=>aT=st∧∃u v,c=(none,u,v)∧u<v∧u≤h∧lr lt l key (g (h-u))=false∧(h+1≤v∨(v≤h∧lr lt l key (g (h-v))=true))) ?_ ?_ ⟨rfl,0,1,rfl,by lia,by lia,e,by lia⟩) ?_)
  ·rintro x c aT _ hx ⟨rfl,u,v,rfl,a1,a2,a3,a4⟩;dsimp only;by_cases hv:v≥h+1
   ·rw[MJ hv];exact ZK ⟨rfl,u,v,rfl,a1,a2,a3, .inl hv⟩
   ·rw[Je hv];obtain⟨g1,g2⟩:=hg (h-v) (by lia);refine wpS_bind (sP C hk h1 g2 g1 ?_);dsimp only;cases e2:lr lt l key (g (h-v))with
    |true=>
     simp only[if_true];exact ZK ⟨rfl,u,v,rfl,a1,a2,a3, .inr ⟨by lia,e2⟩⟩
    |false=>
     simp only[Bool.false_eq_true,if_false];exact ZK ⟨rfl,v,2*v+1,rfl,by lia,by lia,e2,by lia⟩
  ·rintro c aT ⟨rfl,u,v,rfl,a1,a2,a3,a4⟩;exact⟨rfl,u,v,rfl,a1,a2,a3, .inl Hy⟩
  ·rintro c aT ⟨rfl,u,v,rfl,a1,a2,a3,a4⟩;dsimp only;refine Eq.mp (by kernel_rfl) (bin (h+1-min v (h+1)) (h-u) (by lia) (by lia) (fun i hi=>?_) fun i hi lJ=>up (h-u) i Hy lJ a3);rcases a4 with a4|⟨a4,a5⟩
   ·lia
   ·exact dn i (h-v) (by lia) (by lia) a5
end
def setG(g:Nat):StateT SortSt Sem Unit:=modify fun st=>SortSt.mk' (kindOf st) (Wu st) (Z7 st) g (failedOf st)
def GG(a b out:Array Keyed)(i j:Nat):Array Keyed:=out++a.extract i a.size++b.extract j b.size
def M0(a b out:Array Keyed)(i j:Nat):Array Keyed:=out++b.extract j b.size++a.extract i a.size
abbrev S1:=Option (Array Keyed)×Array Keyed×Nat×Nat×Nat×Nat
abbrev S2:=Option (Array Keyed)×Array Keyed×Nat×Nat×Nat×Nat×Nat
abbrev S3:=Option (Array Keyed)×Array Keyed×Nat×Nat×Nat
def lo1(a b:Array Keyed)(mg:Nat)(c:S1):StateT SortSt Sem (ForInStep S1):=do
 let y←elem' b c.2.2.2.1
 let x←elem' a c.2.2.1
 let z←lt' y x
 match z with
 |some bw=>
  if bw=true then do
   let y←elem' b c.2.2.2.1
   if (c.2.2.2.1+1==b.size)=true then pure (.done (some (GG a b (c.2.1.push y) c.2.2.1 (c.2.2.2.1+1)),c.2.1.push y,c.2.2.1,c.2.2.2.1+1,0,c.2.2.2.2.2+1))
   else if c.2.2.2.2.2+1≥mg then pure (.done (none,c.2.1.push y,c.2.2.1,c.2.2.2.1+1,0,c.2.2.2.2.2+1))
   else pure (.yield (none,c.2.1.push y,c.2.2.1,c.2.2.2.1+1,0,c.2.2.2.2.2+1))
  else do
   let x←elem' a c.2.2.1
   if (c.2.2.1+1+1==a.size)=true then pure (.done (some (M0 a b (c.2.1.push x) (c.2.2.1+1) c.2.2.2.1),c.2.1.push x,c.2.2.1+1,c.2.2.2.1,c.2.2.2.2.1+1,0))
   else if c.2.2.2.2.1+1≥mg then pure (.done (none,c.2.1.push x,c.2.2.1+1,c.2.2.2.1,c.2.2.2.2.1+1,0))
   else pure (.yield (none,c.2.1.push x,c.2.2.1+1,c.2.2.2.1,c.2.2.2.2.1+1,0))
 | _=>pure (.done (some (GG a b c.2.1 c.2.2.1 c.2.2.2.1),c.2.1,c.2.2.1,c.2.2.2.1,c.2.2.2.2.1,c.2.2.2.2.2))
def QM(a b o:Array Keyed)(i j mg k l:Nat):StateT SortSt Sem (ForInStep S2):=do
 let x←elem' a i
 if (i+1+1==a.size)=true then pure (.done (some (M0 a b (o.push x) (i+1) j),o.push x,i+1,j,mg,k,l))
 else if (decide (k<7)&&decide (l<7))=true then pure (.done (none,o.push x,i+1,j,mg,k,l))
 else pure (.yield (none,o.push x,i+1,j,mg,k,l))
def Ti(a b o:Array Keyed)(i j mg k bc:Nat):StateT SortSt Sem (ForInStep S2):=do
 let x←elem' a i
 let z←y9 true x b j (b.size-j) 0
 match z with
 |some l=>if l>0 then(if (j+l==b.size)=true then pure (.done (some (GG a b (o++b.extract j (j+l)) i (j+l)),o++b.extract j (j+l),i,j+l,mg,k,l))else QM a b (o++b.extract j (j+l)) i (j+l) mg k l)else QM a b o i j mg k l
 | _=>pure (.done (some (GG a b o i j),o,i,j,mg,k,bc))
def QN(a b o:Array Keyed)(i j mg k bc:Nat):StateT SortSt Sem (ForInStep S2):=do
 let y←elem' b j
 if (j+1==b.size)=true then pure (.done (some (GG a b (o.push y) i (j+1)),o.push y,i,j+1,mg,k,bc))else Ti a b (o.push y) i (j+1) mg k bc
def QO(a b o:Array Keyed)(i j mg ac bc:Nat):StateT SortSt Sem (ForInStep S2):=do
 setG mg
 let y←elem' b j
 let z←y9 false y a i (a.size-i) 0
 match z with
 |some k=>if k>0 then(if (i+k+1==a.size)=true then pure (.done (some (M0 a b (o++a.extract i (i+k)) (i+k) j),o++a.extract i (i+k),i+k,j,mg,k,bc))else if (i+k==a.size)=true then pure (.done (some (GG a b (o++a.extract i (i+k)) (i+k) j),o++a.extract i (i+k),i+k,j,mg,k,bc))else QN a b (o++a.extract i (i+k)) (i+k) j mg k bc)else QN a b o i j mg k bc
 | _=>pure (.done (some (GG a b o i j),o,i,j,mg,ac,bc))
def Tj(a b:Array Keyed)(c:S2):StateT SortSt Sem (ForInStep S2):=if c.2.2.2.2.1>1 then QO a b c.2.1 c.2.2.1 c.2.2.2.1 (c.2.2.2.2.1-1) c.2.2.2.2.2.1 c.2.2.2.2.2.2 else QO a b c.2.1 c.2.2.1 c.2.2.2.1 c.2.2.2.2.1 c.2.2.2.2.2.1 c.2.2.2.2.2.2
def Tn(a b:Array Keyed)(c:S3):StateT SortSt Sem (ForInStep S3):=do
 let t←forIn [0:a.size+b.size] ((none,c.2.1,c.2.2.1,c.2.2.2.1,0,0):S1) (fun _=>lo1 a b c.2.2.2.2)
 match t.1 with
 |some r=>pure (.done (some r,t.2.1,t.2.2.1,t.2.2.2.1,c.2.2.2.2))
 |none=>do
  liftM (rule "list.sort.gallop")
  let u←forIn [0:a.size+b.size] ((none,t.2.1,t.2.2.1,t.2.2.2.1,c.2.2.2.2+1,t.2.2.2.2.1,t.2.2.2.2.2):S2) (fun _=>Tj a b)
  match u.1 with
  |some r=>pure (.done (some r,u.2.1,u.2.2.1,u.2.2.2.1,u.2.2.2.2.1))
  |none=>do
   setG (u.2.2.2.2.1+1)
   pure (.yield (none,u.2.1,u.2.2.1,u.2.2.2.1,u.2.2.2.2.1+1))
theorem HX(a b:Array Keyed):Lq a b=(do
 liftM (rule "list.sort.merge-lo")
 let y←elem' b 0
 if (1==b.size)=true then pure (GG a b #[y] 0 1)
 else if (0+1==a.size)=true then pure (M0 a b #[y] 0 1)
 else do
  let g←get
  let t←forIn [0:a.size+b.size] ((none,#[y],0,1,gallopOf g):S3) (fun _=>Tn a b)
  match t.1 with
  |some r=>pure r
  |none=>unsupported "internal:list.sort.merge-bound"):=by kernel_rfl
def GH(a b o:Array Keyed)(i j:Nat):Array Keyed:=a.extract 0 i++b.extract 0 j++o.reverse
def M4(a b o:Array Keyed)(i j:Nat):Array Keyed:=b.extract 0 j++a.extract 0 i++o.reverse
abbrev T1:=Option (Array Keyed)×Nat×Nat×Array Keyed×Nat×Nat
abbrev T2:=Option (Array Keyed)×Nat×Nat×Array Keyed×Nat×Nat×Nat
abbrev T3:=Option (Array Keyed)×Nat×Nat×Array Keyed×Nat
def To(a b:Array Keyed)(mg:Nat)(c:T1):StateT SortSt Sem (ForInStep T1):=do
 let y←elem' b (c.2.2.1-1)
 let x←elem' a (c.2.1-1)
 let z←lt' y x
 match z with
 |some aw=>
  if aw=true then do
   let x←elem' a (c.2.1-1)
   if (c.2.1-1==0)=true then pure (.done (some (GH a b (c.2.2.2.1.push x) (c.2.1-1) c.2.2.1),c.2.1-1,c.2.2.1,c.2.2.2.1.push x,c.2.2.2.2.1+1,0))
   else if c.2.2.2.2.1+1≥mg then pure (.done (none,c.2.1-1,c.2.2.1,c.2.2.2.1.push x,c.2.2.2.2.1+1,0))
   else pure (.yield (none,c.2.1-1,c.2.2.1,c.2.2.2.1.push x,c.2.2.2.2.1+1,0))
  else do
   let y←elem' b (c.2.2.1-1)
   if (c.2.2.1-1==1)=true then pure (.done (some (M4 a b (c.2.2.2.1.push y) c.2.1 (c.2.2.1-1)),c.2.1,c.2.2.1-1,c.2.2.2.1.push y,0,c.2.2.2.2.2+1))
   else if c.2.2.2.2.2+1≥mg then pure (.done (none,c.2.1,c.2.2.1-1,c.2.2.2.1.push y,0,c.2.2.2.2.2+1))
   else pure (.yield (none,c.2.1,c.2.2.1-1,c.2.2.2.1.push y,0,c.2.2.2.2.2+1))
 | _=>pure (.done (some (GH a b c.2.2.2.1 c.2.1 c.2.2.1),c.2.1,c.2.2.1,c.2.2.2.1,c.2.2.2.2.1,c.2.2.2.2.2))
def QP(a b o:Array Keyed)(i j mg k l:Nat):StateT SortSt Sem (ForInStep T2):=do
 let x←elem' a (i-1)
 if (i-1==0)=true then pure (.done (some (GH a b (o.push x) (i-1) j),i-1,j,o.push x,mg,k,l))
 else if (decide (k<7)&&decide (l<7))=true then pure (.done (none,i-1,j,o.push x,mg,k,l))
 else pure (.yield (none,i-1,j,o.push x,mg,k,l))
def Tp(a b o:Array Keyed)(i j mg k bc:Nat):StateT SortSt Sem (ForInStep T2):=do
 let x←elem' a (i-1)
 let z←y9 true x b 0 j (j-1)
 match z with
 |some t=>if j-t>0 then(if (t==1)=true then pure (.done (some (M4 a b (o++(b.extract t j).reverse) i t),i,t,o++(b.extract t j).reverse,mg,k,j-t))else if (t==0)=true then pure (.done (some (GH a b (o++(b.extract t j).reverse) i t),i,t,o++(b.extract t j).reverse,mg,k,j-t))else QP a b (o++(b.extract t j).reverse) i t mg k (j-t))else QP a b o i j mg k (j-t)
 | _=>pure (.done (some (GH a b o i j),i,j,o,mg,k,bc))
def QR(a b o:Array Keyed)(i j mg k bc:Nat):StateT SortSt Sem (ForInStep T2):=do
 let y←elem' b (j-1)
 if (j-1==1)=true then pure (.done (some (M4 a b (o.push y) i (j-1)),i,j-1,o.push y,mg,k,bc))else Tp a b (o.push y) i (j-1) mg k bc
def GI(a b o:Array Keyed)(i j mg ac bc:Nat):StateT SortSt Sem (ForInStep T2):=do
 setG mg
 let y←elem' b (j-1)
 let z←y9 false y a 0 i (i-1)
 match z with
 |some t=>if i-t>0 then(if (t==0)=true then pure (.done (some (GH a b (o++(a.extract t i).reverse) t j),t,j,o++(a.extract t i).reverse,mg,i-t,bc))else QR a b (o++(a.extract t i).reverse) t j mg (i-t) bc)else QR a b o i j mg (i-t) bc
 | _=>pure (.done (some (GH a b o i j),i,j,o,mg,ac,bc))
def Tq(a b:Array Keyed)(c:T2):StateT SortSt Sem (ForInStep T2):=if c.2.2.2.2.1>1 then GI a b c.2.2.2.1 c.2.1 c.2.2.1 (c.2.2.2.2.1-1) c.2.2.2.2.2.1 c.2.2.2.2.2.2 else GI a b c.2.2.2.1 c.2.1 c.2.2.1 c.2.2.2.2.1 c.2.2.2.2.2.1 c.2.2.2.2.2.2
def Tr(a b:Array Keyed)(c:T3):StateT SortSt Sem (ForInStep T3):=do
 let t←forIn [0:a.size+b.size] ((none,c.2.1,c.2.2.1,c.2.2.2.1,0,0):T1) (fun _=>To a b c.2.2.2.2)
 match t.1 with
 |some r=>pure (.done (some r,t.2.1,t.2.2.1,t.2.2.2.1,c.2.2.2.2))
 |none=>do
  liftM (rule "list.sort.gallop")
  let u←forIn [0:a.size+b.size] ((none,t.2.1,t.2.2.1,t.2.2.2.1,c.2.2.2.2+1,t.2.2.2.2.1,t.2.2.2.2.2):T2) (fun _=>Tq a b)
  match u.1 with
  |some r=>pure (.done (some r,u.2.1,u.2.2.1,u.2.2.2.1,u.2.2.2.2.1))
  |none=>do
   setG (u.2.2.2.2.1+1)
   pure (.yield (none,u.2.1,u.2.2.1,u.2.2.2.1,u.2.2.2.2.1+1))
theorem HY(a b:Array Keyed):Lr a b=(do
 liftM (rule "list.sort.merge-hi")
 let x←elem' a (a.size-1)
 if (a.size-1==0)=true then pure (GH a b #[x] (a.size-1) b.size)
 else if (b.size==1)=true then pure (M4 a b #[x] (a.size-1) b.size)
 else do
  let g←get
  let t←forIn [0:a.size+b.size] ((none,a.size-1,b.size,#[x],gallopOf g):T3) (fun _=>Tr a b)
  match t.1 with
  |some r=>pure r
  |none=>unsupported "internal:list.sort.merge-bound"):=by kernel_rfl
theorem lP{α:Type}{l:List α}{i:Nat}{x:α}:x∈l.drop i↔∃t:Nat,l[i+t]?=some x:=by
 rw[List.mem_iff_getElem?];simp only[List.getElem?_drop]
theorem tR{α:Type}{l:List α}{i k:Nat}{x:α}:x∈(l.drop i).take k↔∃t:Nat,t<k∧l[i+t]?=some x:=by
 rw[List.mem_iff_getElem?];constructor
 ·rintro⟨t,ht⟩;rw[List.getElem?_take]at ht;split at ht
  ·rw[List.getElem?_drop]at ht;exact⟨t,by assumption,ht⟩
  ·cases ht
 ·rintro⟨t,h1,h2⟩;exact⟨t,by rw[List.getElem?_take,MJ h1,List.getElem?_drop];exact h2⟩
theorem oT{α:Type}{l:List α}{i:Nat}{x:α}(h:l[i]?=some x):l.drop i=x::l.drop (i+1):=by
 obtain⟨h1,h2⟩:=YG h;rw[List.drop_eq_getElem_cons h1,h2]
theorem oU{α:Type}(l:List α)(i k:Nat):l.drop i=(l.drop i).take k++l.drop (i+k):=by
 rw[←List.drop_drop,List.take_append_drop]
abbrev Pw(lt:Keyed→Keyed→Bool)(l:List Keyed):Prop:=l.Pairwise fun x y=>lt x y=true
theorem Pw.at{lt:Keyed→Keyed→Bool}{l:List Keyed}(h:Pw lt l){i j:Nat}{x y:Keyed}(uQ:i<j)(hx:l[i]?=some x)(hy:l[j]?=some y):lt x y=true:=by
 obtain⟨h1,e1⟩:=YG hx;obtain⟨h2,e2⟩:=YG hy;have:=List.pairwise_iff_getElem.mp h i j h1 h2 uQ;rw[e1,e2]at this;exact this
section
variable{X:List Keyed}{lt:Keyed→Keyed→Bool}{P Q:List Keyed}
structure MC(X:List Keyed)(lt:Keyed→Keyed→Bool)(P Q:List Keyed):Prop where
 sa:Pw lt P
 sb:Pw lt Q
 ia:∀x∈P,x∈X
 ib:∀x∈Q,x∈X
 ne:∀x∈P,∀y∈Q,x≠y
 fst:∀x∈P,∀y,Q[0]?=some y→lt y x=true
 lst:∀y∈Q,∀x,P[P.length-1]?=some x→lt y x=true
structure ML(lt:Keyed→Keyed→Bool)(P Q O:List Keyed)(i j:Nat):Prop where
 hi:i≤P.length
 hj:j≤Q.length
 qH:Pw lt O
 low:∀x∈O,∀y,y∈P.drop i∨y∈Q.drop j→lt x y=true
 HZ:(O++(P.drop i++Q.drop j)).Perm (P++Q)
def MG(lt:Keyed→Keyed→Bool)(P Q R:List Keyed):Prop:=R.Perm (P++Q)∧Pw lt R
theorem ML.a{O:List Keyed}{i j k:Nat}(M:MC X lt P Q)(m:ML lt P Q O i j)(hk:i+k≤P.length)(h:∀x∈(P.drop i).take k,∀y∈Q.drop j,lt x y=true):ML lt P Q (O++(P.drop i).take k) (i+k) j:=by
 have sp:=oU P i k;have sd:Pw lt (P.drop i):=M.sa.sublist (List.drop_sublist _ _);rw[sp]at sd;obtain⟨s1,s2,s3⟩:=List.pairwise_append.mp sd;refine⟨hk,m.hj,List.pairwise_append.mpr ⟨m.qH,s1,fun x hx y hy=>m.low x hx y (.inl (List.mem_of_mem_take hy))⟩,fun x hx y hy=>?_,?_⟩
 ·rcases List.mem_append.mp hx with hx|hx
  ·exact m.low x hx y (hy.imp (fun z=>by rw[sp];exact Δ z) id)
  ·rcases hy with hy|hy
   ·exact s3 x hx y hy
   ·exact h x hx y hy
 ·have:=m.HZ;rw[sp]at this;rw[List.append_assoc,←List.append_assoc ((P.drop i).take k)];exact this
theorem ML.b{O:List Keyed}{i j k:Nat}(M:MC X lt P Q)(m:ML lt P Q O i j)(hk:j+k≤Q.length)(h:∀y∈(Q.drop j).take k,∀x∈P.drop i,lt y x=true):ML lt P Q (O++(Q.drop j).take k) i (j+k):=by
 have sp:=oU Q j k;have sd:Pw lt (Q.drop j):=M.sb.sublist (List.drop_sublist _ _);rw[sp]at sd;obtain⟨s1,s2,s3⟩:=List.pairwise_append.mp sd;refine⟨m.hi,hk,List.pairwise_append.mpr ⟨m.qH,s1,fun x hx y hy=>m.low x hx y (.inr (List.mem_of_mem_take hy))⟩,fun x hx y hy=>?_,?_⟩
 ·rcases List.mem_append.mp hx with hx|hx
  ·exact m.low x hx y (hy.imp id (fun z=>by rw[sp];exact Δ z))
  ·rcases hy with hy|hy
   ·exact h x hx y hy
   ·exact s3 x hx y hy
 ·have:=m.HZ;rw[sp]at this;refine List.Perm.trans ?_ this;rw[List.append_assoc];refine List.Perm.append_left O ?_;rw[←List.append_assoc,←List.append_assoc];exact List.Perm.append_right _ List.perm_append_comm
theorem ML.dn{O:List Keyed}{i j:Nat}(M:MC X lt P Q)(m:ML lt P Q O i j)(h:i=P.length∨j=Q.length):MG lt P Q (O++P.drop i++Q.drop j):=by
 refine⟨by rw[List.append_assoc];exact m.HZ,?_⟩;have sa:Pw lt (P.drop i):=M.sa.sublist (List.drop_sublist _ _);have sb:Pw lt (Q.drop j):=M.sb.sublist (List.drop_sublist _ _);rw[List.append_assoc];refine List.pairwise_append.mpr ⟨m.qH,List.pairwise_append.mpr ⟨sa,sb,fun x hx y hy=>?_⟩,fun x hx y hy=>m.low x hx y (List.mem_append.mp hy)⟩;rcases h with h|h
 ·rw[h,List.drop_length]at hx;cases hx
 ·rw[h,List.drop_length]at hy;cases hy
theorem ML.ls{O:List Keyed}{i j:Nat}(M:MC X lt P Q)(m:ML lt P Q O i j)(h:i+1=P.length):MG lt P Q (O++Q.drop j++P.drop i):=by
 have sa:Pw lt (P.drop i):=M.sa.sublist (List.drop_sublist _ _);have sb:Pw lt (Q.drop j):=M.sb.sublist (List.drop_sublist _ _);rw[List.append_assoc];refine⟨(List.Perm.append_left O List.perm_append_comm).trans m.HZ,List.pairwise_append.mpr ⟨m.qH,List.pairwise_append.mpr ⟨sb,sa,fun y hy x hx=>?_⟩,fun x hx y hy=>m.low x hx y (List.mem_append.mp hy).symm⟩⟩;obtain⟨t,ht⟩:=lP.mp hx;have hl:=(YG ht).1;exact M.lst y (List.mem_of_mem_drop hy) x (by rw[←ht];congr 1;lia)
end
def Eg(st aT:SortSt):Prop:=kindOf aT=kindOf st∧arrOf aT=arrOf st∧pendingOf aT=pendingOf st∧failedOf aT=failedOf st
theorem Eg.refl(st:SortSt):Eg st st:=⟨rfl,rfl,rfl,rfl⟩
theorem Eg.trans{a b c:SortSt}(h:Eg a b)(k:Eg b c):Eg a c:=⟨k.1.trans h.1,k.2.1.trans h.2.1,k.2.2.1.trans h.2.2.1,k.2.2.2.trans h.2.2.2⟩
section
variable{prog:Program}{w:World}{A:Around}{E:Value→Shared→Prop}{s:Shared}{X:List Keyed}{κ:SortKind}{lt:Keyed→Keyed→Bool}(C:Fg prog w A s X κ lt){a b:Array Keyed}(M:MC X lt a.toList b.toList)
theorem sQ{st:SortSt}{g:Nat}{Q:Unit→SortSt→Prop}(h:∀aT,Eg st aT→Q () aT):wpS (model prog w) A E s (setG g) Q st:=wpS_modify (h _ ⟨rfl,rfl,rfl,rfl⟩)
theorem y_(o:Array Keyed)(i j:Nat):(GG a b o i j).toList=o.toList++a.toList.drop i++b.toList.drop j:=by
 unfold GG;simp[Array.toList_extract,List.extract_eq_take_drop];rw[List.take_of_length_le Vs,List.take_of_length_le Vs]
theorem BS(o:Array Keyed)(i j:Nat):(M0 a b o i j).toList=o.toList++b.toList.drop j++a.toList.drop i:=by
 unfold M0;simp[Array.toList_extract,List.extract_eq_take_drop];rw[List.take_of_length_le Vs,List.take_of_length_le Vs]
theorem JF(o:Array Keyed)(c:Array Keyed)(i k:Nat):(o++c.extract i (i+k)).toList=o.toList++(c.toList.drop i).take k:=by
 simp[Array.toList_extract,List.extract_eq_take_drop]
theorem GJ{l:List Keyed}{i:Nat}{x:Keyed}(h:l[i]?=some x):(l.drop i).take 1=[x]:=by rw[oT h];simp
def BU(lt:Keyed→Keyed→Bool)(a b:Array Keyed)(o:Array Keyed)(i j m:Nat):Prop:=ML lt a.toList b.toList o.toList i j∧i+1<a.size∧j<b.size∧m≤i+j
def P2(lt:Keyed→Keyed→Bool)(a b:Array Keyed)(m:Nat)(st:SortSt)(r:ForInStep S2)(aT:SortSt):Prop:=Eg st aT∧match r with
 | .done c=>(∃x,c.1=some x∧MG lt a.toList b.toList x.toList)∨(c.1=none∧BU lt a b c.2.1 c.2.2.1 c.2.2.2.1 m)
 | .yield c=>c.1=none∧BU lt a b c.2.1 c.2.2.1 c.2.2.2.1 m
include C M
theorem Fh{st:SortSt}{o:Array Keyed}{i j mg k l m:Nat}(ml:ML lt a.toList b.toList o.toList i j)(hi:i+1<a.size)(hj:j<b.size)(hm:m≤i+j+1)(h:∀x,a.toList[i]?=some x→∀y∈b.toList.drop j,lt x y=true):wpS (model prog w) A E s (QM a b o i j mg k l) (P2 lt a b m st) st:=by
 unfold QM;have ex:a[i]?=some a[i]:=XC;have gK:a.toList[i]?=some a[i]:=by rw[Array.getElem?_toList];exact ex
 refine wpS_bind (eY ex ?_);have m2:ML lt a.toList b.toList (o.push a[i]).toList (i+1) j:=by
  have:=ml.a M (k:=1) (by simp;lia) (fun x hx y hy=>by
   rw[GJ gK]at hx;have:x=a[i]:=by simpa using hx
   rw[this];exact h _ gK y hy)
  rw[GJ gK]at this;rw[Array.toList_push];exact this
 by_cases e:(i+1+1==a.size)=true
 ·rw[MJ e];refine wpS_pure ⟨.refl _, .inl ⟨_,rfl,?_⟩⟩;rw[BS];exact m2.ls M (by have:=beq_iff_eq.mp e;simp;lia)
 ·rw[Je e];have e:i+1+1≠a.size:=fun z=>e Μ
  split
  ·exact ZK ⟨.refl _, .inr ⟨rfl,m2,by show i+1+1<a.size;lia,hj,by show m≤i+1+j;lia⟩⟩
  ·exact ZK ⟨.refl _,rfl,m2,by show i+1+1<a.size;lia,hj,by show m≤i+1+j;lia⟩
theorem Ls{st:SortSt}{o:Array Keyed}{i j mg k bc m:Nat}(hk:kindOf st=κ)(ml:ML lt a.toList b.toList o.toList i j)(hi:i+1<a.size)(hj:j<b.size)(hm:m≤i+j+1):wpS (model prog w) A E s (Ti a b o i j mg k bc) (P2 lt a b m st) st:=by
 unfold Ti;have ex:a[i]?=some a[i]:=XC;have gK:a.toList[i]?=some a[i]:=by rw[Array.getElem?_toList];exact ex
 have hx:a[i]∈a.toList:=ZI gK;refine wpS_bind (eY ex ?_);generalize a[i]=x at ex gK hx;have gb:∀t,t<b.size-j→b[j+t]?=some (b.getD (j+t) (.none, .none)):=fun t ht=>by simp[show j+t<b.size by lia]
 have rY:∀t,t<b.size-j→b.toList[j+t]?=some (b.getD (j+t) (.none, .none)):=fun t ht=>by rw[Array.getElem?_toList];exact gb t ht
 refine wpS_bind (qG C (fun t=>b.getD (j+t) (.none, .none)) hk (M.ia _ hx) (fun t ht=>⟨gb t ht,M.ib _ (ZI (rY t ht))⟩) (fun t u h1 h2=>M.sb.at (i:=j+t) (j:=j+u) (by lia) (rY t (by lia)) (rY u h2)) (by lia) fun l hl h1 h2=>?_);dsimp only;have low:∀y∈(b.toList.drop j).take l,∀z∈a.toList.drop i,lt y z=true:=fun y hy z hz=>by
  obtain⟨t,ht,et⟩:=tR.mp hy;rw[rY t (by lia)]at et;cases et;have hb:=h1 t ht;simp only[lr,if_true]at hb;rw[oT gK]at hz;rcases List.mem_cons.mp hz with rfl|hz
  ·exact hb
  ·obtain⟨u,hu⟩:=lP.mp hz;exact C.tr _ (M.ib _ (ZI (rY t (by lia)))) _ (M.ia _ hx) _ (M.ia _ (ZI hu)) hb (M.sa.at Hy gK hu)
 have zN:∀y∈b.toList.drop (j+l),lt x y=true:=fun y hy=>by
  obtain⟨t,ht⟩:=lP.mp hy;have ic:=(YG ht).1;have ic:j+l+t<b.size:=by simpa using ic
  have hb:=h2 (l+t) (by lia) (by lia);have e:b.toList[j+(l+t)]?=some y:=by rw[←Nat.add_assoc];exact ht
  rw[rY (l+t) (by lia)]at e;have e:=ZO e;simp only[lr,if_true]at hb;rw[e]at hb;exact C.no (M.ib _ (ZI ht)) (M.ia _ hx) (fun z=>M.ne _ hx _ (ZI ht) z.symm) hb
 have m2:ML lt a.toList b.toList (o++b.extract j (j+l)).toList i (j+l):=by
  rw[JF];exact ml.b M (by simp;lia) low
 by_cases GK:l>0
 ·rw[MJ GK];by_cases e:(j+l==b.size)=true
  ·rw[MJ e];refine wpS_pure ⟨.refl _, .inl ⟨_,rfl,?_⟩⟩;rw[y_];exact m2.dn M (.inr (by have:=beq_iff_eq.mp e;simpa using this))
  ·rw[Je e];have e:j+l≠b.size:=fun z=>e Μ
   exact Fh C M m2 hi Hy (by lia) fun y hy=>by rw[gK]at hy;cases hy;exact zN
 ·rw[Je GK];have:l=0:=by lia
  subst this;exact Fh C M ml hi hj hm fun y hy=>by rw[gK]at hy;cases hy;exact zN
theorem Fi{st:SortSt}{o:Array Keyed}{i j mg k bc m:Nat}(hk:kindOf st=κ)(ml:ML lt a.toList b.toList o.toList i j)(hi:i+1<a.size)(hj:j<b.size)(hm:m≤i+j+2)(h:∀y,b.toList[j]?=some y→∀x∈a.toList.drop i,lt y x=true):wpS (model prog w) A E s (QN a b o i j mg k bc) (P2 lt a b m st) st:=by
 unfold QN;have ex:b[j]?=some b[j]:=XC;have gK:b.toList[j]?=some b[j]:=by rw[Array.getElem?_toList];exact ex
 refine wpS_bind (eY ex ?_);have m2:ML lt a.toList b.toList (o.push b[j]).toList i (j+1):=by
  have:=ml.b M (k:=1) (by simp;lia) (fun x hx y hy=>by
   rw[GJ gK]at hx;have:x=b[j]:=by simpa using hx
   rw[this];exact h _ gK y hy)
  rw[GJ gK]at this;rw[Array.toList_push];exact this
 by_cases e:(j+1==b.size)=true
 ·rw[MJ e];refine wpS_pure ⟨.refl _, .inl ⟨_,rfl,?_⟩⟩;rw[y_];exact m2.dn M (.inr (by have:=beq_iff_eq.mp e;simpa using this))
 ·rw[Je e];have e:j+1≠b.size:=fun z=>e Μ
  exact Ls C M hk m2 hi Hy (by lia)
theorem Fj{st:SortSt}{o:Array Keyed}{i j mg ac bc m:Nat}(hk:kindOf st=κ)(h:BU lt a b o i j m):wpS (model prog w) A E s (QO a b o i j mg ac bc) (P2 lt a b (m+2) st) st:=by
 obtain⟨ml,hi,hj,hm⟩:=h;unfold QO;refine wpS_bind (sQ fun AA eg=>?_);have JG:kindOf AA=κ:=eg.1.trans hk;have fin:∀{m:Nat}{p:StateT SortSt Sem (ForInStep S2)},wpS (model prog w) A E s p (P2 lt a b m AA) AA→wpS (model prog w) A E s p (P2 lt a b m st) AA:=fun h=>wpS_mono h fun r aT z=>⟨eg.trans z.1,z.2⟩
 refine fin ?_;have ex:b[j]?=some b[j]:=XC;have gK:b.toList[j]?=some b[j]:=by rw[Array.getElem?_toList];exact ex
 have hx:b[j]∈b.toList:=ZI gK;refine wpS_bind (eY ex ?_);generalize b[j]=y at ex gK hx;have gb:∀t,t<a.size-i→a[i+t]?=some (a.getD (i+t) (.none, .none)):=fun t ht=>by simp[show i+t<a.size by lia]
 have rY:∀t,t<a.size-i→a.toList[i+t]?=some (a.getD (i+t) (.none, .none)):=fun t ht=>by rw[Array.getElem?_toList];exact gb t ht
 refine wpS_bind (qG C (fun t=>a.getD (i+t) (.none, .none)) JG (M.ib _ hx) (fun t ht=>⟨gb t ht,M.ia _ (ZI (rY t ht))⟩) (fun t u h1 h2=>M.sa.at (i:=i+t) (j:=i+u) (by lia) (rY t (by lia)) (rY u h2)) (by lia) fun k hl h1 h2=>?_);dsimp only;have low:∀x∈(a.toList.drop i).take k,∀z∈b.toList.drop j,lt x z=true:=fun x uR z hz=>by
  obtain⟨t,ht,et⟩:=tR.mp uR;rw[rY t (by lia)]at et;cases et;have ja:=ZI (rY t (by lia));have hb:=h1 t ht;simp only[lr,Bool.false_eq_true,if_false,Bool.not_eq_true']at hb;have hb:=C.no (M.ib _ hx) (M.ia _ ja) (fun z=>M.ne _ ja _ hx z.symm) hb;rw[oT gK]at hz;rcases List.mem_cons.mp hz with rfl|hz
  ·exact hb
  ·obtain⟨u,hu⟩:=lP.mp hz;exact C.tr _ (M.ia _ ja) _ (M.ib _ hx) _ (M.ib _ (ZI hu)) hb (M.sb.at Hy gK hu)
 have zN:∀x∈a.toList.drop (i+k),lt y x=true:=fun x uR=>by
  obtain⟨t,ht⟩:=lP.mp uR;have ic:=(YG ht).1;have ic:i+k+t<a.size:=by simpa using ic
  have hb:=h2 (k+t) (by lia) (by lia);have e:a.toList[i+(k+t)]?=some x:=by rw[←Nat.add_assoc];exact ht
  rw[rY (k+t) (by lia)]at e;have e:=ZO e;simp only[lr,Bool.false_eq_true,if_false,Bool.not_eq_false']at hb;rw[e]at hb;exact hb
 have m2:ML lt a.toList b.toList (o++a.extract i (i+k)).toList (i+k) j:=by
  rw[JF];exact ml.a M (by simp;lia) low
 by_cases xt:k>0
 ·rw[MJ xt];by_cases e:(i+k+1==a.size)=true
  ·rw[MJ e];refine wpS_pure ⟨.refl _, .inl ⟨_,rfl,?_⟩⟩;rw[BS];exact m2.ls M (by have:=beq_iff_eq.mp e;simpa using this)
  ·rw[Je e];have e:i+k+1≠a.size:=fun z=>e Μ
   by_cases e2:(i+k==a.size)=true
   ·rw[MJ e2];refine wpS_pure ⟨.refl _, .inl ⟨_,rfl,?_⟩⟩;rw[y_];exact m2.dn M (.inl (by have:=beq_iff_eq.mp e2;simpa using this))
   ·rw[Je e2];have e2:i+k≠a.size:=fun z=>e2 Μ
    exact Fi C M JG m2 Hy hj Hy fun z hz=>by rw[gK]at hz;cases hz;exact zN
 ·rw[Je xt];have:k=0:=by lia
  subst this;exact Fi C M JG ml hi hj Hy fun z hz=>by rw[gK]at hz;cases hz;exact zN
theorem Lu{st:SortSt}{c:S2}{m:Nat}(hk:kindOf st=κ)(h:BU lt a b c.2.1 c.2.2.1 c.2.2.2.1 m):wpS (model prog w) A E s (Tj a b c) (P2 lt a b (m+2) st) st:=by
 unfold Tj;split
 ·exact Fj C M hk h
 ·exact Fj C M hk h
theorem Lv{st:SortSt}{c:S1}{mg m:Nat}(hk:kindOf st=κ)(h:BU lt a b c.2.1 c.2.2.1 c.2.2.2.1 m):wpS (model prog w) A E s (lo1 a b mg c) (fun r aT=>aT=st∧match r with
  | .done c=>(∃x,c.1=some x∧MG lt a.toList b.toList x.toList)∨(c.1=none∧BU lt a b c.2.1 c.2.2.1 c.2.2.2.1 (m+1))
  | .yield c=>c.1=none∧BU lt a b c.2.1 c.2.2.1 c.2.2.2.1 (m+1)) st:=by
 obtain⟨r,o,i,j,ac,bc⟩:=c;obtain⟨ml,hi,hj,hm⟩:=h;dsimp only at ml hi hj hm;unfold lo1;dsimp only;have ex:a[i]?=some a[i]:=XC;have gK:a.toList[i]?=some a[i]:=by rw[Array.getElem?_toList];exact ex
 have ey:b[j]?=some b[j]:=XC;have zO:b.toList[j]?=some b[j]:=by rw[Array.getElem?_toList];exact ey
 have hx:a[i]∈a.toList:=ZI gK;have hy:b[j]∈b.toList:=ZI zO;refine wpS_bind (eY ey (wpS_bind (eY ex ?_)));generalize a[i]=x at ex gK hx;generalize b[j]=y at ey zO hy;refine wpS_bind (C.ask hk (M.ib _ hy) (M.ia _ hx) ?_);dsimp only;cases e:lt y x with
 |true=>
  rw[if_pos rfl];refine wpS_bind (eY ey ?_);have m2:ML lt a.toList b.toList (o.push y).toList i (j+1):=by
   have:=ml.b M (k:=1) (by simp;lia) (fun y' OZ z hz=>by
    rw[GJ zO]at OZ;have:y'=y:=by simpa using OZ
    rw[this];rw[oT gK]at hz;rcases List.mem_cons.mp hz with rfl|hz
    ·exact e
    ·obtain⟨u,hu⟩:=lP.mp hz;exact C.tr _ (M.ib _ hy) _ (M.ia _ hx) _ (M.ia _ (ZI hu)) e (M.sa.at Hy gK hu))
   rw[GJ zO]at this;rw[Array.toList_push];exact this
  by_cases e2:(j+1==b.size)=true
  ·rw[MJ e2];refine wpS_pure ⟨rfl, .inl ⟨_,rfl,?_⟩⟩;rw[y_];exact m2.dn M (.inr (by have:=beq_iff_eq.mp e2;simpa using this))
  ·rw[Je e2];have e2:j+1≠b.size:=fun z=>e2 Μ
   split
   ·exact ZK ⟨rfl, .inr ⟨rfl,m2,hi,by show j+1<b.size;lia,by show m+1≤i+(j+1);lia⟩⟩
   ·exact ZK ⟨rfl,rfl,m2,hi,by show j+1<b.size;lia,by show m+1≤i+(j+1);lia⟩
 |false=>
  rw[if_neg Vs];refine wpS_bind (eY ex ?_);have e:=C.no (M.ib _ hy) (M.ia _ hx) (fun z=>M.ne _ hx _ hy z.symm) e;have m2:ML lt a.toList b.toList (o.push x).toList (i+1) j:=by
   have:=ml.a M (k:=1) (by simp;lia) (fun x' uR z hz=>by
    rw[GJ gK]at uR;have:x'=x:=by simpa using uR
    rw[this];rw[oT zO]at hz;rcases List.mem_cons.mp hz with rfl|hz
    ·exact e
    ·obtain⟨u,hu⟩:=lP.mp hz;exact C.tr _ (M.ia _ hx) _ (M.ib _ hy) _ (M.ib _ (ZI hu)) e (M.sb.at Hy zO hu))
   rw[GJ gK]at this;rw[Array.toList_push];exact this
  by_cases e2:(i+1+1==a.size)=true
  ·rw[MJ e2];refine wpS_pure ⟨rfl, .inl ⟨_,rfl,?_⟩⟩;rw[BS];exact m2.ls M (by have:=beq_iff_eq.mp e2;simpa using this)
  ·rw[Je e2];have e2:i+1+1≠a.size:=fun z=>e2 Μ
   split
   ·exact ZK ⟨rfl, .inr ⟨rfl,m2,by show i+1+1<a.size;lia,hj,by show m+1≤i+1+j;lia⟩⟩
   ·exact ZK ⟨rfl,rfl,m2,by show i+1+1<a.size;lia,hj,by show m+1≤i+1+j;lia⟩
theorem Lw{st:SortSt}{c:S3}{m:Nat}(hk:kindOf st=κ)(h:BU lt a b c.2.1 c.2.2.1 c.2.2.2.1 m):wpS (model prog w) A E s (Tn a b c) (fun r aT=>Eg st aT∧match r with
  | .done c=>∃x,c.1=some x∧MG lt a.toList b.toList x.toList
  | .yield c=>c.1=none∧BU lt a b c.2.1 c.2.2.1 c.2.2.2.1 (m+1)) st:=by
 unfold Tn;refine wpS_bind (wpS_mono (wpS_forRange (I:=fun x c aT=>aT=st∧c.1=none∧BU lt a b c.2.1 c.2.2.1 c.2.2.2.1 (m+x)) (Q:=fun c aT=>aT=st∧((∃x,c.1=some x∧MG lt a.toList b.toList x.toList)∨(c.1=none∧BU lt a b c.2.1 c.2.2.1 c.2.2.2.1 (m+1)))) ?_ ?_ ⟨rfl,rfl,h⟩) ?_)
 ·rintro x c aT _ hx ⟨rfl,hc,hI⟩;refine wpS_mono (Lv C M hk hI) fun r aT hr=>?_
  obtain⟨rfl,hr⟩:=hr;cases r with
  |done c=>exact⟨rfl,hr.imp id fun z=>⟨z.1,z.2.1,z.2.2.1,z.2.2.2.1,by have:=z.2.2.2.2;lia⟩⟩
  |yield c=>exact⟨rfl,hr.1,hr.2⟩
 ·rintro c aT ⟨rfl,hc,h1,h2,h3,h4⟩
  lia
 rintro t aT ⟨rfl,ht⟩;rcases ht with⟨x,e,hg⟩|⟨e,hI⟩
 ·rw[e];exact ZK ⟨.refl _,x,rfl,hg⟩
 rw[e];dsimp only;refine wpS_bind (wpS_lift (wpAny_rule ⟨rfl,?_⟩));refine wpS_bind (wpS_mono (wpS_forRange (I:=fun x c dP=>Eg aT dP∧c.1=none∧BU lt a b c.2.1 c.2.2.1 c.2.2.2.1 (m+1+x)) (Q:=fun c dP=>Eg aT dP∧((∃x,c.1=some x∧MG lt a.toList b.toList x.toList)∨(c.1=none∧BU lt a b c.2.1 c.2.2.1 c.2.2.2.1 (m+1)))) ?_ ?_ ⟨.refl _,rfl,hI⟩) ?_)
 ·rintro x c dP _ hx ⟨eg,hc,hI⟩;refine wpS_mono (Lu C M (eg.1.trans hk) hI) fun r Ea hr=>?_
  obtain⟨Fl,hr⟩:=hr;cases r with
  |done c=>exact⟨eg.trans Fl,hr.imp id fun z=>⟨z.1,z.2.1,z.2.2.1,z.2.2.2.1,by have:=z.2.2.2.2;lia⟩⟩
  |yield c=>exact⟨eg.trans Fl,hr.1,hr.2.1,hr.2.2.1,hr.2.2.2.1,by have:=hr.2.2.2.2;lia⟩
 ·rintro c dP ⟨eg,hc,h1,h2,h3,h4⟩
  lia
 rintro u dP ⟨eg,hu⟩;rcases hu with⟨x,e,hg⟩|⟨e,hI⟩
 ·rw[e];exact ZK ⟨eg,x,rfl,hg⟩
 rw[e];dsimp only;exact wpS_bind (sQ fun Ea Ts=>ZK ⟨eg.trans Ts,rfl,hI⟩)
theorem Lx{st:SortSt}{Q:Array Keyed→SortSt→Prop}(hk:kindOf st=κ)(ha:0<a.size)(hb:0<b.size)(q:∀r aT,Eg st aT→MG lt a.toList b.toList r.toList→Q r aT):wpS (model prog w) A E s (Lq a b) Q st:=by
 rw[HX];refine wpS_bind (wpS_lift (wpAny_rule ⟨rfl,?_⟩));have ey:b[0]?=some b[0]:=XC;have zO:b.toList[0]?=some b[0]:=by rw[Array.getElem?_toList];exact ey
 refine wpS_bind (eY ey ?_);have m0:ML lt a.toList b.toList [] 0 0:=⟨XC,XC, .nil,fun x hx=>(by cases hx),XC⟩
 have m1:ML lt a.toList b.toList (#[b[0]]:Array Keyed).toList 0 1:=by
  have:=m0.b M (k:=1) (by simp;lia) (fun y hy x hx=>by
   rw[GJ zO]at hy;have:y=b[0]:=by simpa using hy
   rw[this];exact M.fst x (List.mem_of_mem_drop hx) _ zO)
  rw[GJ zO]at this;exact this
 by_cases e:(1==b.size)=true
 ·rw[MJ e];refine wpS_pure (q _ _ (.refl _) ?_);rw[y_];exact m1.dn M (.inr (by have:=beq_iff_eq.mp e;simpa using this))
 rw[Je e];have e:1≠b.size:=fun z=>e Μ
 by_cases e2:(0+1==a.size)=true
 ·rw[MJ e2];refine wpS_pure (q _ _ (.refl _) ?_);rw[BS];exact m1.ls M (by have:=beq_iff_eq.mp e2;simpa using this)
 rw[Je e2];have e2:0+1≠a.size:=fun z=>e2 Μ
 refine wpS_bind (wpS_get ?_);refine wpS_bind (wpS_mono (wpS_forRange (I:=fun x c dP=>Eg st dP∧c.1=none∧BU lt a b c.2.1 c.2.2.1 c.2.2.2.1 x) (Q:=fun c dP=>Eg st dP∧∃x,c.1=some x∧MG lt a.toList b.toList x.toList) ?_ ?_ ⟨.refl _,rfl,m1,by show 0+1<a.size;lia,by show 1<b.size;lia,by show 0≤0+1;lia⟩) ?_)
 ·rintro x c dP _ hx ⟨eg,hc,hI⟩;refine wpS_mono (Lw C M (eg.1.trans hk) hI) fun r Ea hr=>?_
  obtain⟨Fl,hr⟩:=hr;cases r with
  |done c=>exact⟨eg.trans Fl,hr⟩
  |yield c=>exact⟨eg.trans Fl,hr⟩
 ·rintro c dP ⟨eg,hc,h1,h2,h3,h4⟩
  lia
 ·rintro c dP ⟨eg,x,e,hg⟩;rw[e];exact ZK (q x dP eg hg)
end
theorem xu{α:Type}{l:List α}{i:Nat}{x:α}:x∈l.take i↔∃t:Nat,t<i∧l[t]?=some x:=by
 have:=tR (l:=l) (i:=0) (k:=i) (x:=x);simpa using this
theorem za{α:Type}{l:List α}{i t:Nat}{x:α}:x∈(l.take i).drop t↔∃u:Nat,t≤u∧u<i∧l[u]?=some x:=by
 rw[lP];constructor
 ·rintro⟨u,hu⟩;rw[List.getElem?_take]at hu;split at hu
  ·exact⟨t+u,by lia,by assumption,hu⟩
  ·cases hu
 ·rintro⟨u,h1,h2,h3⟩;exact⟨u-t,by rw[List.getElem?_take,MJ Hy,show t+(u-t)=u by lia];exact h3⟩
theorem zb{α:Type}(l:List α){i t:Nat}(h:t≤i):l.take i=l.take t++(l.take i).drop t:=by
 conv=>lhs;rw[←List.take_append_drop t (l.take i)]
 rw[List.take_take,Nat.min_eq_left h]
section
variable{X:List Keyed}{lt:Keyed→Keyed→Bool}{P Q:List Keyed}
structure MH(lt:Keyed→Keyed→Bool)(P Q O:List Keyed)(i j:Nat):Prop where
 hi:i≤P.length
 hj:j≤Q.length
 qH:Pw lt O
 zN:∀y∈O,∀x,x∈P.take i∨x∈Q.take j→lt x y=true
 HZ:((P.take i++Q.take j)++O).Perm (P++Q)
theorem MH.a{O:List Keyed}{i j t:Nat}(M:MC X lt P Q)(m:MH lt P Q O i j)(ht:t≤i)(h:∀x∈(P.take i).drop t,∀y∈Q.take j,lt y x=true):MH lt P Q ((P.take i).drop t++O) t j:=by
 have sp:=zb P ht;have sd:Pw lt (P.take i):=M.sa.sublist (List.take_sublist _ _);rw[sp]at sd;obtain⟨s1,s2,s3⟩:=List.pairwise_append.mp sd;refine⟨by have:=m.hi;lia,m.hj,List.pairwise_append.mpr ⟨s2,m.qH,fun x hx y hy=>m.zN y hy x (.inl (List.mem_of_mem_drop hx))⟩,fun y hy x hx=>?_,?_⟩
 ·rcases List.mem_append.mp hy with hy|hy
  ·rcases hx with hx|hx
   ·exact s3 x hx y hy
   ·exact h y hy x hx
  ·exact m.zN y hy x (hx.imp (fun z=>by rw[sp];exact γ z) id)
 ·have:=m.HZ;rw[sp]at this;refine List.Perm.trans ?_ this;rw[←List.append_assoc];refine List.Perm.append_right O ?_;rw[List.append_assoc,List.append_assoc];exact List.Perm.append_left _ List.perm_append_comm
theorem MH.b{O:List Keyed}{i j t:Nat}(M:MC X lt P Q)(m:MH lt P Q O i j)(ht:t≤j)(h:∀y∈(Q.take j).drop t,∀x∈P.take i,lt x y=true):MH lt P Q ((Q.take j).drop t++O) i t:=by
 have sp:=zb Q ht;have sd:Pw lt (Q.take j):=M.sb.sublist (List.take_sublist _ _);rw[sp]at sd;obtain⟨s1,s2,s3⟩:=List.pairwise_append.mp sd;refine⟨m.hi,by have:=m.hj;lia,List.pairwise_append.mpr ⟨s2,m.qH,fun x hx y hy=>m.zN y hy x (.inr (List.mem_of_mem_drop hx))⟩,fun y hy x hx=>?_,?_⟩
 ·rcases List.mem_append.mp hy with hy|hy
  ·rcases hx with hx|hx
   ·exact h y hy x hx
   ·exact s3 x hx y hy
  ·exact m.zN y hy x (hx.imp id (fun z=>by rw[sp];exact γ z))
 ·have:=m.HZ;rw[sp]at this;rw[←List.append_assoc,List.append_assoc (P.take i)];exact this
theorem MH.dn{O:List Keyed}{i j:Nat}(M:MC X lt P Q)(m:MH lt P Q O i j)(h:i=0∨j=0):MG lt P Q (P.take i++Q.take j++O):=by
 refine⟨m.HZ,?_⟩;have sa:Pw lt (P.take i):=M.sa.sublist (List.take_sublist _ _);have sb:Pw lt (Q.take j):=M.sb.sublist (List.take_sublist _ _);refine List.pairwise_append.mpr ⟨List.pairwise_append.mpr ⟨sa,sb,fun x hx y hy=>?_⟩,m.qH,fun x hx y hy=>m.zN y hy x (List.mem_append.mp hx)⟩;rcases h with h|h
 ·rw[h,List.take_zero]at hx;cases hx
 ·rw[h,List.take_zero]at hy;cases hy
theorem MH.fb{O:List Keyed}{i j:Nat}(M:MC X lt P Q)(m:MH lt P Q O i j)(h:j=1):MG lt P Q (Q.take j++P.take i++O):=by
 have sa:Pw lt (P.take i):=M.sa.sublist (List.take_sublist _ _);have sb:Pw lt (Q.take j):=M.sb.sublist (List.take_sublist _ _);refine⟨(List.Perm.append_right O List.perm_append_comm).trans m.HZ,List.pairwise_append.mpr ⟨List.pairwise_append.mpr ⟨sb,sa,fun y hy x hx=>?_⟩,m.qH,fun x hx y hy=>m.zN y hy x (List.mem_append.mp hx).symm⟩⟩;obtain⟨t,h1,h2⟩:=xu.mp hy;have:t=0:=by lia
 subst this;exact M.fst x (List.mem_of_mem_take hx) y h2
end
section
variable{prog:Program}{w:World}{A:Around}{E:Value→Shared→Prop}{s:Shared}{X:List Keyed}{κ:SortKind}{lt:Keyed→Keyed→Bool}(C:Fg prog w A s X κ lt){a b:Array Keyed}(M:MC X lt a.toList b.toList)
theorem zc(o:Array Keyed)(i j:Nat):(GH a b o i j).toList=a.toList.take i++b.toList.take j++o.toList.reverse:=by
 unfold GH;simp[Array.toList_extract,List.extract_eq_take_drop]
theorem BV(o:Array Keyed)(i j:Nat):(M4 a b o i j).toList=b.toList.take j++a.toList.take i++o.toList.reverse:=by
 unfold M4;simp[Array.toList_extract,List.extract_eq_take_drop]
theorem JH(o:Array Keyed)(c:Array Keyed)(t i:Nat):(o++(c.extract t i).reverse).toList.reverse=(c.toList.take i).drop t++o.toList.reverse:=by
 simp[Array.toList_extract,List.extract_eq_take_drop,List.drop_take]
theorem BX(o:Array Keyed)(x:Keyed):(o.push x).toList.reverse=[x]++o.toList.reverse:=XC
theorem GL{l:List Keyed}{i:Nat}{x:Keyed}(h0:0<i)(h:l[i-1]?=some x):(l.take i).drop (i-1)=[x]:=by
 have:l.take i=l.take (i-1)++[x]:=by
  conv=>lhs;rw[show i=i-1+1 by lia]
  rw[List.take_succ,h];rfl
 rw[this];have hl:=(YG h).1;rw[List.drop_left' (by simp;lia)]
theorem sT{l:List Keyed}(C:Fg prog w A s X κ lt)(hs:Pw lt l)(lJ:∀x∈l,x∈X){i:Nat}{x z:Keyed}(h:l[i-1]?=some x)(hz:z∈l.take i){y:Keyed}(hy:y∈X)(AB:lt x y=true):lt z y=true:=by
 obtain⟨t,h1,h2⟩:=xu.mp hz;by_cases e:t=i-1
 ·subst e;rw[h]at h2;cases h2;exact AB
 ·exact C.tr _ (lJ _ (ZI h2)) _ (lJ _ (ZI h)) _ hy (hs.at Hy h2 h) AB
def BY(lt:Keyed→Keyed→Bool)(a b:Array Keyed)(o:Array Keyed)(i j m:Nat):Prop:=MH lt a.toList b.toList o.toList.reverse i j∧0<i∧1<j∧m+i+j≤a.size+b.size
def Ly(lt:Keyed→Keyed→Bool)(a b:Array Keyed)(m:Nat)(st:SortSt)(r:ForInStep T2)(aT:SortSt):Prop:=Eg st aT∧match r with
 | .done c=>(∃x,c.1=some x∧MG lt a.toList b.toList x.toList)∨(c.1=none∧BY lt a b c.2.2.2.1 c.2.1 c.2.2.1 m)
 | .yield c=>c.1=none∧BY lt a b c.2.2.2.1 c.2.1 c.2.2.1 m
include C M
theorem Fm{st:SortSt}{o:Array Keyed}{i j mg k l m:Nat}(ml:MH lt a.toList b.toList o.toList.reverse i j)(hi:0<i)(hj:1<j)(hm:m+i+j≤a.size+b.size+1)(h:∀x,a.toList[i-1]?=some x→∀y∈b.toList.take j,lt y x=true):wpS (model prog w) A E s (QP a b o i j mg k l) (Ly lt a b m st) st:=by
 unfold QP;have Tt:i≤a.size:=by have:=ml.hi;simpa using this
 have ex:a[i-1]?=some a[i-1]:=XC;have gK:a.toList[i-1]?=some a[i-1]:=by rw[Array.getElem?_toList];exact ex
 refine wpS_bind (eY ex ?_);have m2:MH lt a.toList b.toList (o.push a[i-1]).toList.reverse (i-1) j:=by
  have:=ml.a M (t:=i-1) (by lia) (fun x hx y hy=>by
   rw[GL hi gK]at hx;have:x=a[i-1]:=by simpa using hx
   rw[this];exact h _ gK y hy)
  rw[GL hi gK]at this;rw[BX];exact this
 by_cases e:(i-1==0)=true
 ·rw[MJ e];refine wpS_pure ⟨.refl _, .inl ⟨_,rfl,?_⟩⟩;rw[zc];exact m2.dn M (.inl (beq_iff_eq.mp e))
 ·rw[Je e];have e:i-1≠0:=fun z=>e Μ
  split
  ·exact ZK ⟨.refl _, .inr ⟨rfl,m2,by show 0<i-1;lia,hj,by show m+(i-1)+j≤_;lia⟩⟩
  ·exact ZK ⟨.refl _,rfl,m2,by show 0<i-1;lia,hj,by show m+(i-1)+j≤_;lia⟩
theorem Lz{st:SortSt}{o:Array Keyed}{i j mg k bc m:Nat}(hk:kindOf st=κ)(ml:MH lt a.toList b.toList o.toList.reverse i j)(hi:0<i)(hj:1<j)(hm:m+i+j≤a.size+b.size+1):wpS (model prog w) A E s (Tp a b o i j mg k bc) (Ly lt a b m st) st:=by
 unfold Tp;have Tt:i≤a.size:=by have:=ml.hi;simpa using this
 have Tu:j≤b.size:=by have:=ml.hj;simpa using this
 have ex:a[i-1]?=some a[i-1]:=XC;have gK:a.toList[i-1]?=some a[i-1]:=by rw[Array.getElem?_toList];exact ex
 have hx:a[i-1]∈a.toList:=ZI gK;refine wpS_bind (eY ex ?_);generalize a[i-1]=x at ex gK hx;have gb:∀t,t<j→b[0+t]?=some (b.getD t (.none, .none)):=fun t ht=>by simp[show t<b.size by lia]
 have rY:∀t,t<j→b.toList[t]?=some (b.getD t (.none, .none)):=fun t ht=>by rw[Array.getElem?_toList];simpa using gb t ht
 refine wpS_bind (qG C (fun t=>b.getD t (.none, .none)) hk (M.ia _ hx) (fun t ht=>⟨gb t ht,M.ib _ (ZI (rY t ht))⟩) (fun t u h1 h2=>M.sb.at h1 (rY t (by lia)) (rY u h2)) (by lia) fun t hl h1 h2=>?_);dsimp only;have zN:∀y∈(b.toList.take j).drop t,∀z∈a.toList.take i,lt z y=true:=fun y hy z hz=>by
  obtain⟨u,h3,h4,h5⟩:=za.mp hy;have hb:=h2 u h3 h4;rw[rY u h4]at h5;have h5:=ZO h5;simp only[lr,if_true]at hb;rw[h5]at hb;have Tv:=List.mem_of_mem_take (List.mem_of_mem_drop hy);have hb:=C.no (M.ib _ Tv) (M.ia _ hx) (fun z=>M.ne _ hx _ Tv z.symm) hb;exact sT C M.sa M.ia gK hz (M.ib _ Tv) hb
 have low:∀y∈b.toList.take t,lt y x=true:=fun y hy=>by
  obtain⟨u,h3,h4⟩:=xu.mp hy;have hb:=h1 u h3;rw[rY u Hy]at h4;have h4:=ZO h4;simp only[lr,if_true]at hb;rw[h4]at hb;exact hb
 have m2:MH lt a.toList b.toList (o++(b.extract t j).reverse).toList.reverse i t:=by
  rw[JH];exact ml.b M hl zN
 by_cases GK:j-t>0
 ·rw[MJ GK];by_cases e:(t==1)=true
  ·rw[MJ e];refine wpS_pure ⟨.refl _, .inl ⟨_,rfl,?_⟩⟩;rw[BV];exact m2.fb M (beq_iff_eq.mp e)
  ·rw[Je e];have e:t≠1:=fun z=>e Μ
   by_cases e2:(t==0)=true
   ·rw[MJ e2];refine wpS_pure ⟨.refl _, .inl ⟨_,rfl,?_⟩⟩;rw[zc];exact m2.dn M (.inr (beq_iff_eq.mp e2))
   ·rw[Je e2];have e2:t≠0:=fun z=>e2 Μ
    exact Fm C M m2 hi Hy (by lia) fun y hy=>by rw[gK]at hy;cases hy;exact low
 ·rw[Je GK];have:t=j:=by lia
  subst this;exact Fm C M ml hi hj hm fun y hy=>by rw[gK]at hy;cases hy;exact low
theorem Fn{st:SortSt}{o:Array Keyed}{i j mg k bc m:Nat}(hk:kindOf st=κ)(ml:MH lt a.toList b.toList o.toList.reverse i j)(hi:0<i)(hj:1<j)(hm:m+i+j≤a.size+b.size+2)(h:∀y,b.toList[j-1]?=some y→∀x∈a.toList.take i,lt x y=true):wpS (model prog w) A E s (QR a b o i j mg k bc) (Ly lt a b m st) st:=by
 unfold QR;have Tu:j≤b.size:=by have:=ml.hj;simpa using this
 have ex:b[j-1]?=some b[j-1]:=XC;have gK:b.toList[j-1]?=some b[j-1]:=by rw[Array.getElem?_toList];exact ex
 refine wpS_bind (eY ex ?_);have m2:MH lt a.toList b.toList (o.push b[j-1]).toList.reverse i (j-1):=by
  have:=ml.b M (t:=j-1) (by lia) (fun x hx y hy=>by
   rw[GL Hy gK]at hx;have:x=b[j-1]:=by simpa using hx
   rw[this];exact h _ gK y hy)
  rw[GL Hy gK]at this;rw[BX];exact this
 by_cases e:(j-1==1)=true
 ·rw[MJ e];refine wpS_pure ⟨.refl _, .inl ⟨_,rfl,?_⟩⟩;rw[BV];exact m2.fb M (beq_iff_eq.mp e)
 ·rw[Je e];have e:j-1≠1:=fun z=>e Μ
  exact Lz C M hk m2 hi Hy (by lia)
theorem Fo{st:SortSt}{o:Array Keyed}{i j mg ac bc m:Nat}(hk:kindOf st=κ)(h:BY lt a b o i j m):wpS (model prog w) A E s (GI a b o i j mg ac bc) (Ly lt a b (m+2) st) st:=by
 obtain⟨ml,hi,hj,hm⟩:=h;have Tt:i≤a.size:=by have:=ml.hi;simpa using this
 have Tu:j≤b.size:=by have:=ml.hj;simpa using this
 unfold GI;refine wpS_bind (sQ fun AA eg=>?_);have JG:kindOf AA=κ:=eg.1.trans hk;have fin:∀{m:Nat}{p:StateT SortSt Sem (ForInStep T2)},wpS (model prog w) A E s p (Ly lt a b m AA) AA→wpS (model prog w) A E s p (Ly lt a b m st) AA:=fun h=>wpS_mono h fun r aT z=>⟨eg.trans z.1,z.2⟩
 refine fin ?_;have ex:b[j-1]?=some b[j-1]:=XC;have gK:b.toList[j-1]?=some b[j-1]:=by rw[Array.getElem?_toList];exact ex
 have hx:b[j-1]∈b.toList:=ZI gK;refine wpS_bind (eY ex ?_);generalize b[j-1]=y at ex gK hx;have gb:∀t,t<i→a[0+t]?=some (a.getD t (.none, .none)):=fun t ht=>by simp[show t<a.size by lia]
 have rY:∀t,t<i→a.toList[t]?=some (a.getD t (.none, .none)):=fun t ht=>by rw[Array.getElem?_toList];simpa using gb t ht
 refine wpS_bind (qG C (fun t=>a.getD t (.none, .none)) JG (M.ib _ hx) (fun t ht=>⟨gb t ht,M.ia _ (ZI (rY t ht))⟩) (fun t u h1 h2=>M.sa.at h1 (rY t (by lia)) (rY u h2)) (by lia) fun t hl h1 h2=>?_);dsimp only;have zN:∀x∈(a.toList.take i).drop t,∀z∈b.toList.take j,lt z x=true:=fun x uR z hz=>by
  obtain⟨u,h3,h4,h5⟩:=za.mp uR;have hb:=h2 u h3 h4;rw[rY u h4]at h5;have h5:=ZO h5;simp only[lr,Bool.false_eq_true,if_false,Bool.not_eq_false']at hb;rw[h5]at hb;exact sT C M.sb M.ib gK hz (M.ia _ (List.mem_of_mem_take (List.mem_of_mem_drop uR))) hb
 have low:∀x∈a.toList.take t,lt x y=true:=fun x uR=>by
  obtain⟨u,h3,h4⟩:=xu.mp uR;have hb:=h1 u h3;rw[rY u Hy]at h4;have h4:=ZO h4;have CL:=List.mem_of_mem_take uR;simp only[lr,Bool.false_eq_true,if_false,Bool.not_eq_true']at hb;rw[h4]at hb;exact C.no (M.ib _ hx) (M.ia _ CL) (fun z=>M.ne _ CL _ hx z.symm) hb
 have m2:MH lt a.toList b.toList (o++(a.extract t i).reverse).toList.reverse t j:=by
  rw[JH];exact ml.a M hl zN
 by_cases xt:i-t>0
 ·rw[MJ xt];by_cases e:(t==0)=true
  ·rw[MJ e];refine wpS_pure ⟨.refl _, .inl ⟨_,rfl,?_⟩⟩;rw[zc];exact m2.dn M (.inl (beq_iff_eq.mp e))
  ·rw[Je e];have e:t≠0:=fun z=>e Μ
   exact Fn C M JG m2 Hy hj Hy fun z hz=>by rw[gK]at hz;cases hz;exact low
 ·rw[Je xt];have:t=i:=by lia
  subst this;exact Fn C M JG ml hi hj Hy fun z hz=>by rw[gK]at hz;cases hz;exact low
theorem LA{st:SortSt}{c:T2}{m:Nat}(hk:kindOf st=κ)(h:BY lt a b c.2.2.2.1 c.2.1 c.2.2.1 m):wpS (model prog w) A E s (Tq a b c) (Ly lt a b (m+2) st) st:=by
 unfold Tq;split
 ·exact Fo C M hk h
 ·exact Fo C M hk h
theorem LB{st:SortSt}{c:T1}{mg m:Nat}(hk:kindOf st=κ)(h:BY lt a b c.2.2.2.1 c.2.1 c.2.2.1 m):wpS (model prog w) A E s (To a b mg c) (fun r aT=>aT=st∧match r with
  | .done c=>(∃x,c.1=some x∧MG lt a.toList b.toList x.toList)∨(c.1=none∧BY lt a b c.2.2.2.1 c.2.1 c.2.2.1 (m+1))
  | .yield c=>c.1=none∧BY lt a b c.2.2.2.1 c.2.1 c.2.2.1 (m+1)) st:=by
 obtain⟨r,i,j,o,ac,bc⟩:=c;obtain⟨ml,hi,hj,hm⟩:=h;dsimp only at ml hi hj hm;have Tt:i≤a.size:=by have:=ml.hi;simpa using this
 have Tu:j≤b.size:=by have:=ml.hj;simpa using this
 unfold To;dsimp only;have ex:a[i-1]?=some a[i-1]:=XC;have gK:a.toList[i-1]?=some a[i-1]:=by rw[Array.getElem?_toList];exact ex
 have ey:b[j-1]?=some b[j-1]:=XC;have zO:b.toList[j-1]?=some b[j-1]:=by rw[Array.getElem?_toList];exact ey
 have hx:a[i-1]∈a.toList:=ZI gK;have hy:b[j-1]∈b.toList:=ZI zO;refine wpS_bind (eY ey (wpS_bind (eY ex ?_)));generalize a[i-1]=x at ex gK hx;generalize b[j-1]=y at ey zO hy;refine wpS_bind (C.ask hk (M.ib _ hy) (M.ia _ hx) ?_);dsimp only;cases e:lt y x with
 |true=>
  rw[if_pos rfl];refine wpS_bind (eY ex ?_);have m2:MH lt a.toList b.toList (o.push x).toList.reverse (i-1) j:=by
   have:=ml.a M (t:=i-1) (by lia) (fun x' uR z hz=>by
    rw[GL hi gK]at uR;have:x'=x:=by simpa using uR
    rw[this];exact sT C M.sb M.ib zO hz (M.ia _ hx) e)
   rw[GL hi gK]at this;rw[BX];exact this
  by_cases e2:(i-1==0)=true
  ·rw[MJ e2];refine wpS_pure ⟨rfl, .inl ⟨_,rfl,?_⟩⟩;rw[zc];exact m2.dn M (.inl (beq_iff_eq.mp e2))
  ·rw[Je e2];have e2:i-1≠0:=fun z=>e2 Μ
   split
   ·exact ZK ⟨rfl, .inr ⟨rfl,m2,by show 0<i-1;lia,hj,by show m+1+(i-1)+j≤_;lia⟩⟩
   ·exact ZK ⟨rfl,rfl,m2,by show 0<i-1;lia,hj,by show m+1+(i-1)+j≤_;lia⟩
 |false=>
  rw[if_neg Vs];refine wpS_bind (eY ey ?_);have e:=C.no (M.ib _ hy) (M.ia _ hx) (fun z=>M.ne _ hx _ hy z.symm) e;have m2:MH lt a.toList b.toList (o.push y).toList.reverse i (j-1):=by
   have:=ml.b M (t:=j-1) (by lia) (fun y' OZ z hz=>by
    rw[GL Hy zO]at OZ;have:y'=y:=by simpa using OZ
    rw[this];exact sT C M.sa M.ia gK hz (M.ib _ hy) e)
   rw[GL Hy zO]at this;rw[BX];exact this
  by_cases e2:(j-1==1)=true
  ·rw[MJ e2];refine wpS_pure ⟨rfl, .inl ⟨_,rfl,?_⟩⟩;rw[BV];exact m2.fb M (beq_iff_eq.mp e2)
  ·rw[Je e2];have e2:j-1≠1:=fun z=>e2 Μ
   split
   ·exact ZK ⟨rfl, .inr ⟨rfl,m2,hi,by show 1<j-1;lia,by show m+1+i+(j-1)≤_;lia⟩⟩
   ·exact ZK ⟨rfl,rfl,m2,hi,by show 1<j-1;lia,by show m+1+i+(j-1)≤_;lia⟩
theorem LC{st:SortSt}{c:T3}{m:Nat}(hk:kindOf st=κ)(h:BY lt a b c.2.2.2.1 c.2.1 c.2.2.1 m):wpS (model prog w) A E s (Tr a b c) (fun r aT=>Eg st aT∧match r with
  | .done c=>∃x,c.1=some x∧MG lt a.toList b.toList x.toList
  | .yield c=>c.1=none∧BY lt a b c.2.2.2.1 c.2.1 c.2.2.1 (m+1)) st:=by
 unfold Tr;refine wpS_bind (wpS_mono (wpS_forRange (I:=fun x c aT=>aT=st∧c.1=none∧BY lt a b c.2.2.2.1 c.2.1 c.2.2.1 (m+x)) (Q:=fun c aT=>aT=st∧((∃x,c.1=some x∧MG lt a.toList b.toList x.toList)∨(c.1=none∧BY lt a b c.2.2.2.1 c.2.1 c.2.2.1 (m+1)))) ?_ ?_ ⟨rfl,rfl,h⟩) ?_)
 ·rintro x c aT _ hx ⟨rfl,hc,hI⟩;refine wpS_mono (LB C M hk hI) fun r aT hr=>?_
  obtain⟨rfl,hr⟩:=hr;cases r with
  |done c=>exact⟨rfl,hr.imp id fun z=>⟨z.1,z.2.1,z.2.2.1,z.2.2.2.1,by have:=z.2.2.2.2;lia⟩⟩
  |yield c=>exact⟨rfl,hr.1,hr.2⟩
 ·rintro c aT ⟨rfl,hc,h1,h2,h3,h4⟩
  lia
 rintro t aT ⟨rfl,ht⟩;rcases ht with⟨x,e,hg⟩|⟨e,hI⟩
 ·rw[e];exact ZK ⟨.refl _,x,rfl,hg⟩
 rw[e];dsimp only;refine wpS_bind (wpS_lift (wpAny_rule ⟨rfl,?_⟩));refine wpS_bind (wpS_mono (wpS_forRange (I:=fun x c dP=>Eg aT dP∧c.1=none∧BY lt a b c.2.2.2.1 c.2.1 c.2.2.1 (m+1+x)) (Q:=fun c dP=>Eg aT dP∧((∃x,c.1=some x∧MG lt a.toList b.toList x.toList)∨(c.1=none∧BY lt a b c.2.2.2.1 c.2.1 c.2.2.1 (m+1)))) ?_ ?_ ⟨.refl _,rfl,hI⟩) ?_)
 ·rintro x c dP _ hx ⟨eg,hc,hI⟩;refine wpS_mono (LA C M (eg.1.trans hk) hI) fun r Ea hr=>?_
  obtain⟨Fl,hr⟩:=hr;cases r with
  |done c=>exact⟨eg.trans Fl,hr.imp id fun z=>⟨z.1,z.2.1,z.2.2.1,z.2.2.2.1,by have:=z.2.2.2.2;lia⟩⟩
  |yield c=>exact⟨eg.trans Fl,hr.1,hr.2.1,hr.2.2.1,hr.2.2.2.1,by have:=hr.2.2.2.2;lia⟩
 ·rintro c dP ⟨eg,hc,h1,h2,h3,h4⟩
  lia
 rintro u dP ⟨eg,hu⟩;rcases hu with⟨x,e,hg⟩|⟨e,hI⟩
 ·rw[e];exact ZK ⟨eg,x,rfl,hg⟩
 rw[e];dsimp only;exact wpS_bind (sQ fun Ea Ts=>ZK ⟨eg.trans Ts,rfl,hI⟩)
theorem LD{st:SortSt}{Q:Array Keyed→SortSt→Prop}(hk:kindOf st=κ)(ha:0<a.size)(hb:0<b.size)(q:∀r aT,Eg st aT→MG lt a.toList b.toList r.toList→Q r aT):wpS (model prog w) A E s (Lr a b) Q st:=by
 rw[HY];refine wpS_bind (wpS_lift (wpAny_rule ⟨rfl,?_⟩));have ex:a[a.size-1]?=some a[a.size-1]:=XC;have gK:a.toList[a.size-1]?=some a[a.size-1]:=by rw[Array.getElem?_toList];exact ex
 refine wpS_bind (eY ex ?_);have m0:MH lt a.toList b.toList [] a.size b.size:=⟨XC,XC, .nil,fun x hx=>(by cases hx),by rw[List.take_of_length_le Vs,List.take_of_length_le Vs];simp⟩
 have m1:MH lt a.toList b.toList (#[a[a.size-1]]:Array Keyed).toList.reverse (a.size-1) b.size:=by
  have:=m0.a M (t:=a.size-1) (by lia) (fun x hx y hy=>by
   rw[GL ha gK]at hx;have:x=a[a.size-1]:=by simpa using hx
   rw[this];exact M.lst y (List.mem_of_mem_take hy) _ (by simpa using gK))
  rw[GL ha gK]at this;simpa using this
 by_cases e:(a.size-1==0)=true
 ·rw[MJ e];refine wpS_pure (q _ _ (.refl _) ?_);rw[zc];exact m1.dn M (.inl (beq_iff_eq.mp e))
 rw[Je e];have e:a.size-1≠0:=fun z=>e Μ
 by_cases e2:(b.size==1)=true
 ·rw[MJ e2];refine wpS_pure (q _ _ (.refl _) ?_);rw[BV];exact m1.fb M (beq_iff_eq.mp e2)
 rw[Je e2];have e2:b.size≠1:=fun z=>e2 Μ
 refine wpS_bind (wpS_get ?_);refine wpS_bind (wpS_mono (wpS_forRange (I:=fun x c dP=>Eg st dP∧c.1=none∧BY lt a b c.2.2.2.1 c.2.1 c.2.2.1 x) (Q:=fun c dP=>Eg st dP∧∃x,c.1=some x∧MG lt a.toList b.toList x.toList) ?_ ?_ ⟨.refl _,rfl,m1,by show 0<a.size-1;lia,by show 1<b.size;lia,by show 0+(a.size-1)+b.size≤_;lia⟩) ?_)
 ·rintro x c dP _ hx ⟨eg,hc,hI⟩;refine wpS_mono (LC C M (eg.1.trans hk) hI) fun r Ea hr=>?_
  obtain⟨Fl,hr⟩:=hr;cases r with
  |done c=>exact⟨eg.trans Fl,hr⟩
  |yield c=>exact⟨eg.trans Fl,hr⟩
 ·rintro c dP ⟨eg,hc,h1,h2,h3,h4⟩
  lia
 ·rintro c dP ⟨eg,x,e,hg⟩;rw[e];exact ZK (q x dP eg hg)
end
def QS(lo i n:Nat):StateT SortSt Sem AscSt:=forIn [i:n] ((none,i):AscSt) fun _ c=>do
 let z←ltAt' (lo+c.2) (lo+c.2-1)
 match z with
 |some v=>if v=true then pure (.done (none,c.2))else pure (.yield (none,c.2+1))
 | _=>pure (.done (some none,c.2))
def QT(lo i n:Nat):StateT SortSt Sem (Option Nat):=do
 reverseSlice' lo (lo+i)
 let t←QS lo i n
 match t.1 with
 |some r=>pure r
 |none=>pure (some t.2)
def Tw(lo i n:Nat):StateT SortSt Sem DescSt:=forIn [i:n] ((none,i,0):DescSt) fun _ c=>do
 let z←ltAt' (lo+c.2.1) (lo+c.2.1-1)
 match z with
 |some v=>
  if v=true then
   if c.2.2>0 then do
    reverseSlice' (lo+c.2.1-(c.2.2+1)) (lo+c.2.1)
    pure (.yield (none,c.2.1+1,0))
   else pure (.yield (none,c.2.1+1,0))
  else do
   let z←ltAt' (lo+c.2.1-1) (lo+c.2.1)
   match z with
   |some v=>if v=true then pure (.done (none,c.2.1,c.2.2))else pure (.yield (none,c.2.1+1,c.2.2+1))
   | _=>pure (.done (some none,c.2.1,c.2.2))
 | _=>pure (.done (some none,c.2.1,c.2.2))
def Tx(lo i n:Nat):StateT SortSt Sem (Option Nat):=do
 liftM (rule "list.sort.descending-run")
 let t←Tw lo (i+1) n
 match t.1 with
 |some r=>pure r
 |none=>
  if t.2.2>0 then do
   reverseSlice' (lo+t.2.1-(t.2.2+1)) (lo+t.2.1)
   QT lo t.2.1 n
  else QT lo t.2.1 n
theorem LF(lo n:Nat):countRun' lo n=(do
 let t←QS lo 1 n
 match t.1 with
 |some r=>pure r
 |none=>
  if (t.2==n)=true then pure (some t.2)
  else if t.2>1 then do
   let z←ltAt' lo (lo+t.2-1)
   match z with
   |some v=>if v=true then pure (some t.2)else do
     reverseSlice' lo (lo+t.2)
     Tx lo t.2 n
   | _=>pure none
  else Tx lo t.2 n):=by kernel_rfl
def VA(lo k:Nat):StateT SortSt Sem (Option Bool×Nat×Nat):=forIn [0:k] ((none,0,k):Option Bool×Nat×Nat) fun _ c=>
 if c.2.1≥c.2.2 then pure (.done (none,c.2.1,c.2.2))
 else do
  let z←ltAt' (lo+k) (lo+(c.2.1+c.2.2)/2)
  match z with
  |some v=>if v=true then pure (.yield (none,c.2.1,(c.2.1+c.2.2)/2))else pure (.yield (none,(c.2.1+c.2.2)/2+1,c.2.2))
  | _=>pure (.done (some false,c.2.1,c.2.2))
theorem LG(lo n ok:Nat):binarySort' lo n ok=(do
 let t←forIn [max ok 1:n] ((none,()):Option Bool×Unit) fun k _=>do
  let t←VA lo k
  match t.1 with
  |some r=>pure (.done (some r,()))
  |none=>do
   moveDown' (lo+k) (lo+t.2.1)
   pure (.yield (none,()))
 match t.1 with
 |some r=>pure r
 |none=>pure true):=by kernel_rfl
def DR(j:Nat)(m:Array Keyed)(st:SortSt):SortSt:=setArr st (m.toList.zipIdx.foldl (fun c q=>c.setIfInBounds (j+q.2) q.1) (Wu st))
theorem LH(i:Nat):mergeAt' i=(do
 let g←get
 let (some (p,m,v),some (q,n,_)):=((Z7 g)[i]?,(Z7 g)[i+1]?)|unsupported "internal:list.sort.pending"
 set (setPending g (((Z7 g).setIfInBounds i (p,m+n,v)).eraseIdxIfInBounds (i+1)))
 let some k←y9 false (←elem' (Wu g) q) (Wu g) p m 0|return false
 if m-k==0 then return true
 let some n←y9 true (←elem' (Wu g) (p+k+(m-k)-1)) (Wu g) q n (n-1)|return false
 if n==0 then return true
 let r←if m-k≤n then Lq ((Wu g).extract (p+k) q) ((Wu g).extract q (q+n))else Lr ((Wu g).extract (p+k) q) ((Wu g).extract q (q+n))
 modify fun st=>DR (p+k) r st
 return (failedOf (←get)).isNone):=by kernel_rfl
def Tz(n w:Nat):StateT SortSt Sem (Option Unit×Unit):=forIn [0:n] ((none,()):Option Unit×Unit) fun _ _=>do
 let g←get
 match (if (Z7 g).size>1 then(Z7 g)[(Z7 g).size-2]? else none)with
 |some (_,_,v)=>
  if v≤w then pure (.done (none,()))
  else do
   let z←mergeAt' ((Z7 g).size-2)
   if (!z)=true then pure (.done (some (),()))else pure (.yield (none,()))
 | _=>pure (.done (none,()))
def VB(w:Nat)(st:SortSt):SortSt:=setPending st ((Z7 st).modify ((Z7 st).size-1) fun(p,l,_)=>(p,l,w))
def QU(lo n:Nat)(st:SortSt):SortSt:=setPending st ((Z7 st).push (lo,n,0))
def QV(N lo n:Nat):StateT SortSt Sem (ForInStep (Option Unit×Nat)):=do
 let g←get
 match (Z7 g).back? with
 |some (p,l,_)=>do
  let t←Tz N (power' N (2*p+l) (2*p+l+l+n) N)
  match t.1 with
  |some r=>pure (.done (some r,lo))
  |none=>do
   modify (VB (power' N (2*p+l) (2*p+l+l+n) N))
   modify (QU lo n)
   pure (.yield (none,lo+n))
 | _=>do
  modify (QU lo n)
  pure (.yield (none,lo+n))
def TC(N:Nat):StateT SortSt Sem (Option Unit×Unit):=forIn [0:N] ((none,()):Option Unit×Unit) fun _ _=>do
 let g←get
 if (Z7 g).size≤1 then pure (.done (none,()))
 else do
  let z←mergeAt' (if (if (Z7 g).size-2>0 then((Z7 g)[(Z7 g).size-2-1]?).map (·.2.1)else none).any (·<((Z7 g)[(Z7 g).size-2+1]?.elim 0 (·.2.1)))then(Z7 g).size-2-1 else(Z7 g).size-2)
  if (!z)=true then pure (.done (some (),()))else pure (.yield (none,()))
theorem H_:sortRuns'=(do
 let g←get
 let t←forIn [0:(Wu g).size] ((none,0):Option Unit×Nat) fun _ c=>
  if c.2≥(Wu g).size then pure (.done (none,c.2))
  else do
   let z←countRun' c.2 ((Wu g).size-c.2)
   match z with
   |some n=>
    if n<minRun' (Wu g).size (Wu g).size 0 then do
     liftM (rule "list.sort.binary-insertion")
     let z←binarySort' c.2 (min ((Wu g).size-c.2) (minRun' (Wu g).size (Wu g).size 0)) n
     if (!z)=true then pure (.done (some (),c.2))else QV (Wu g).size c.2 (min ((Wu g).size-c.2) (minRun' (Wu g).size (Wu g).size 0))
    else QV (Wu g).size c.2 n
   | _=>pure (.done (some (),c.2))
 match t.1 with
 |some r=>pure r
 |none=>do
  let u←TC (Wu g).size
  match u.1 with
  |some r=>pure r
  |none=>pure ()):=by kernel_rfl
abbrev gg(xs:Array Keyed)(k:Nat):Keyed:=xs.getD k (.none, .none)
theorem oV(xs:Array Keyed)(k:Nat):gg xs k=(xs[k]?).getD (.none, .none):=by unfold gg;rw[Array.getD_eq_getD_getElem?]
theorem lb{xs:Array Keyed}{k:Nat}(h:k<xs.size):xs[k]?=some (gg xs k):=by simp[h]
def Sw(lt:Keyed→Keyed→Bool)(xs:Array Keyed)(a b:Nat):Prop:=∀i j,a≤i→i<j→j<b→lt (gg xs i) (gg xs j)=true
def Dw(lt:Keyed→Keyed→Bool)(xs:Array Keyed)(a b:Nat):Prop:=∀i j,a≤i→i<j→j<b→lt (gg xs j) (gg xs i)=true
theorem Sw.congr{lt:Keyed→Keyed→Bool}{xs ys:Array Keyed}{a b:Nat}(h:Sw lt xs a b)(e:∀t,a≤t→t<b→gg ys t=gg xs t):Sw lt ys a b:=fun i j h1 h2 h3=>by rw[e i h1 Hy,e j Hy h3];exact h i j h1 h2 h3
structure SB(X:List Keyed)(κ:SortKind)(st:SortSt):Prop where
 pm:(Wu st).toList.Perm X
 kd:kindOf st=κ
 fl:failedOf st=none
theorem Ia{σ:Type}{M:Model}{A:Around}{E:Value→Shared→Prop}{s:Shared}{x:σ}{Q:PUnit→σ→Prop}{st:σ}(h:Q ⟨⟩ x):wpS M A E s (set x:StateT σ Sem PUnit) Q st:=by
 unfold wpS;rw[StateT.run_set];exact ZF ⟨rfl,h⟩
section
variable{prog:Program}{w:World}{A:Around}{E:Value→Shared→Prop}{s:Shared}{X:List Keyed}{κ:SortKind}{lt:Keyed→Keyed→Bool}
theorem SB.size{st:SortSt}(b:SB X κ st):(Wu st).size=X.length:=by have:=b.pm.length_eq;simpa using this
theorem SB.mem{st:SortSt}(b:SB X κ st){k:Nat}(h:k<X.length):gg ZP k∈X:=by
 have:=lb (xs:=Wu st) (k:=k) (by rw[b.size];exact h);rw[←Array.getElem?_toList]at this;exact b.pm.mem_iff.mp (ZI this)
theorem SB.inj{st:SortSt}(C:Fg prog w A s X κ lt)(b:SB X κ st){i j:Nat}(hi:i<X.length)(hj:j<X.length)(h:i≠j):gg ZP i≠gg ZP j:=fun e=>by
 have h1:=lb (xs:=Wu st) (k:=i) (by rw[b.size];exact hi);have h2:=lb (xs:=Wu st) (k:=j) (by rw[b.size];exact hj);rw[←Array.getElem?_toList]at h1 h2;have nd:(Wu st).toList.Nodup:=b.pm.nodup_iff.mpr C.nd;exact h ((List.getElem?_inj (YG h1).1 nd).mp (by rw[h1,h2,e]))
theorem SB.set{st:SortSt}{xs:Array Keyed}(b:SB X κ st)(h:xs.Perm ZP):SB X κ (setArr st xs):=⟨(Array.perm_iff_toList_perm.mp h).trans b.pm,b.kd,b.fl⟩
variable(C:Fg prog w A s X κ lt)
include C
theorem zd{st:SortSt}{i j:Nat}{Q:Option Bool→SortSt→Prop}(b:SB X κ st)(hi:i<X.length)(hj:j<X.length)(h:Q (some (lt (gg ZP i) (gg ZP j))) st):wpS (model prog w) A E s (ltAt' i j) Q st:=by
 rw[ltAt'_eq];refine wpS_bind (wpS_get ?_);show wpS _ _ _ _ (do let x←elem' ZP i;let y←elem' ZP j;lt' x y) Q st;exact wpS_bind (eY (lb (by rw[b.size];exact hi)) (wpS_bind (eY (lb (by rw[b.size];exact hj)) (C.ask b.kd (b.mem hi) (b.mem hj) h))))
theorem SB.no{st:SortSt}(b:SB X κ st){i j:Nat}(hi:i<X.length)(hj:j<X.length)(h:i≠j)(e:lt (gg ZP i) (gg ZP j)=false):lt (gg ZP j) (gg ZP i)=true:=C.no (b.mem hi) (b.mem hj) (b.inj C hi hj h) e
theorem Sw.next{st:SortSt}(b:SB X κ st){lo n:Nat}(h1:1≤n)(hn:lo+n<X.length)(h:Sw lt (Wu st) lo (lo+n))(e:lt (gg ZP (lo+n)) (gg ZP (lo+n-1))=false):Sw lt (Wu st) lo (lo+(n+1)):=fun i j hi uQ hj=>by
 have hl:=b.no C (i:=lo+n) (j:=lo+n-1) hn Hy (by lia) e;by_cases ej:j=lo+n
 ·subst ej;by_cases ei:i=lo+n-1
  ·subst ei;exact hl
  ·exact C.tr _ (b.mem Hy) _ (b.mem Hy) _ (b.mem hn) (h i (lo+n-1) hi Hy (by lia)) hl
 ·exact h i j hi uQ Hy
theorem Fp{st:SortSt}{lo i n:Nat}{Q:AscSt→SortSt→Prop}(b:SB X κ st)(hn:lo+n≤X.length)(h1:1≤i)(lJ:i≤n)(hs:Sw lt (Wu st) lo (lo+i))(q:∀m,i≤m→m≤n→Sw lt (Wu st) lo (lo+m)→(m=n∨lt (gg ZP (lo+m)) (gg ZP (lo+m-1))=true)→Q (none,m) st):wpS (model prog w) A E s (QS lo i n) Q st:=by
 unfold QS;refine wpS_forRange (I:=fun x c aT=>aT=st∧c=(none,x)∧Sw lt (Wu st) lo (lo+x)) ?_ ?_ ⟨rfl,rfl,hs⟩
 ·rintro x c aT lu hx ⟨rfl,rfl,mZ⟩;refine wpS_bind (zd C b (by show lo+x<_;lia) (by show lo+x-1<_;lia) ?_);dsimp only;cases e:lt (gg (Wu aT) (lo+x)) (gg (Wu aT) (lo+x-1))with
  |true=>
   rw[if_pos rfl];exact ZK (q x lu Hy mZ (.inr e))
  |false=>
   rw[if_neg Vs];exact ZK ⟨rfl,rfl,Sw.next C b (by lia) (by lia) mZ e⟩
 ·rintro c aT ⟨rfl,rfl,mZ⟩;rw[show max i n=n by lia]at mZ⊢;exact q n lJ ZT mZ (.inl rfl)
omit C in
theorem AD{xs:Array Keyed}{i j:Nat}(hj:j≤xs.size)(k:Nat):gg (mirror xs i j ((j-i)/2)) k=if i≤k∧k<j then gg xs (i+j-1-k)else gg xs k:=by
 rw[oV,getElem?_mirror_all hj];split<;>rw[oV]
theorem LI{st:SortSt}{lo i n:Nat}{Q:Option Nat→SortSt→Prop}(b:SB X κ st)(hn:lo+n≤X.length)(h1:1≤i)(lJ:i≤n)(hs:Dw lt (Wu st) lo (lo+i))(q:∀m aT,SB X κ aT→pendingOf aT=pendingOf st→(∀t,t<lo→gg (Wu aT) t=gg ZP t)→1≤m→m≤n→Sw lt (Wu aT) lo (lo+m)→Q (some m) aT):wpS (model prog w) A E s (QT lo i n) Q st:=by
 unfold QT;refine wpS_bind ?_;rw[reverseSlice'_eq];refine wpS_modify ?_;have hsz:lo+i≤(Wu st).size:=by rw[b.size];lia
 have b':SB X κ (setArr st (mirror ZP lo (lo+i) ((lo+i-lo)/2))):=b.set (mirror_perm _ _ _ _);refine wpS_bind (Fp C b' hn h1 lJ (fun x y hx AB hy=>?_) fun m a1 a2 a3 _=>ZK (q m _ b' rfl (fun t ht=>?_) (by lia) a2 a3))
 ·show lt (gg (mirror ZP lo (lo+i) ((lo+i-lo)/2)) x) (gg (mirror ZP lo (lo+i) ((lo+i-lo)/2)) y)=true;rw[AD hsz,AD hsz,MJ Hy,MJ Hy];exact hs _ _ (by lia) (by lia) (by lia)
 ·show gg (mirror ZP lo (lo+i) ((lo+i-lo)/2)) t=_;rw[AD hsz,Je Hy]
theorem LJ{st:SortSt}{lo i n:Nat}{Q:DescSt→SortSt→Prop}(b:SB X κ st)(hn:lo+n≤X.length)(h1:1≤i)(lJ:i≤n)(hs:Dw lt (Wu st) lo (lo+i))(q:∀m,i≤m→m≤n→Dw lt (Wu st) lo (lo+m)→Q (none,m,0) st):wpS (model prog w) A E s (Tw lo i n) Q st:=by
 unfold Tw;refine wpS_forRange (I:=fun x c aT=>aT=st∧c=(none,x,0)∧Dw lt (Wu st) lo (lo+x)) ?_ ?_ ⟨rfl,rfl,hs⟩
 ·rintro x c aT lu hx ⟨rfl,rfl,mZ⟩;refine wpS_bind (zd C b (by show lo+x<_;lia) (by show lo+x-1<_;lia) ?_);dsimp only;cases e:lt (gg (Wu aT) (lo+x)) (gg (Wu aT) (lo+x-1))with
  |true=>
   rw[if_pos rfl,Je Hy];refine wpS_pure ⟨rfl,rfl,fun y z hy TK hz=>?_⟩;by_cases ez:z=lo+x
   ·subst ez;by_cases ey:y=lo+x-1
    ·subst ey;exact e
    ·exact C.tr _ (b.mem Hy) _ (b.mem Hy) _ (b.mem Hy) e (mZ y (lo+x-1) hy Hy (by lia))
   ·exact mZ y z hy TK Hy
  |false=>
   rw[if_neg Vs];have e':=b.no C (i:=lo+x) (j:=lo+x-1) (by lia) (by lia) (by lia) e;refine wpS_bind (zd C b (by lia) (by lia) ?_);rw[e'];dsimp only;rw[if_pos rfl];exact ZK (q x lu Hy mZ)
 ·rintro c aT ⟨rfl,rfl,mZ⟩;rw[show max i n=n by lia]at mZ⊢;exact q n lJ ZT mZ
theorem O0{st:SortSt}{lo n:Nat}{Q:Option Nat→SortSt→Prop}(b:SB X κ st)(hn:lo+n≤X.length)(h1:1≤n)(q:∀m aT,SB X κ aT→pendingOf aT=pendingOf st→(∀t,t<lo→gg (Wu aT) t=gg ZP t)→1≤m→m≤n→Sw lt (Wu aT) lo (lo+m)→Q (some m) aT):wpS (model prog w) A E s (countRun' lo n) Q st:=by
 rw[LF];refine wpS_bind (Fp C b hn ZT h1 (fun i j a b c=>by lia) fun m a1 a2 a3 a4=>?_);dsimp only;by_cases e:(m==n)=true
 ·rw[MJ e];exact ZK (q m st b rfl (fun _ _=>rfl) a1 a2 a3)
 ·rw[Je e];have e:m≠n:=fun z=>e Μ
  by_cases e2:m>1
  ·rw[MJ e2];refine wpS_bind (zd C b (by lia) (by lia) ?_);rw[a3 lo (lo+m-1) (Nat.le_refl _) (by lia) (by lia)];dsimp only;rw[if_pos rfl];exact ZK (q m st b rfl (fun _ _=>rfl) a1 a2 a3)
  ·rw[Je e2];have:m=1:=by lia
   subst this;unfold Tx;refine wpS_bind (wpS_lift (wpAny_rule ⟨rfl,?_⟩));refine wpS_bind (LJ C b hn Hy (by lia) (fun i j hi uQ hj=>?_) fun m c1 c2 c3=>?_)
   ·have hi:i=lo:=by lia
    have hj:j=lo+1:=by lia
    subst hi hj;exact a4.resolve_left e
   ·dsimp only;rw[Je Hy];exact LI C b hn Hy c2 c3 q
omit C in
theorem LK{xs:Array Keyed}{src d:Nat}(hs:src<xs.size)(hd:d≤src)(k:Nat):gg (bubble xs src d) k=if k=src-d then gg xs src else if src-d<k∧k≤src then gg xs (k-1)else gg xs k:=by
 rw[oV,getElem?_bubble hs d hd];by_cases h1:k=src-d
 ·rw[MJ h1,MJ h1,oV]
 ·rw[Je h1,Je h1];by_cases h2:src-d<k∧k≤src
  ·rw[MJ h2,MJ h2,oV]
  ·rw[Je h2,Je h2,oV]
theorem O1{st:SortSt}{lo n ok:Nat}{Q:Bool→SortSt→Prop}(b:SB X κ st)(hn:lo+n≤X.length)(h1:1≤ok)(bX:ok≤n)(hs:Sw lt (Wu st) lo (lo+ok))(q:∀aT,SB X κ aT→pendingOf aT=pendingOf st→(∀t,t<lo→gg (Wu aT) t=gg ZP t)→Sw lt (Wu aT) lo (lo+n)→Q true aT):wpS (model prog w) A E s (binarySort' lo n ok) Q st:=by
 rw[LG];refine wpS_bind (wpS_mono (wpS_forRange (I:=fun k c aT=>c=(none,())∧SB X κ aT∧pendingOf aT=pendingOf st∧(∀t,t<lo→gg (Wu aT) t=gg ZP t)∧Sw lt (Wu aT) lo (lo+k)) (Q:=fun c aT=>c=(none,())∧SB X κ aT∧pendingOf aT=pendingOf st∧(∀t,t<lo→gg (Wu aT) t=gg ZP t)∧Sw lt (Wu aT) lo (lo+n)) ?_ ?_ ⟨rfl,b,rfl,fun _ _=>rfl,by rw[show max ok 1=ok by lia];exact hs⟩) ?_)
 ·rintro k c aT JG hk ⟨rfl,b',hp,hf,mZ⟩;unfold VA;refine wpS_bind (wpS_mono (wpS_forRange (I:=fun x c dP=>dP=aT∧∃l r,c=(none,l,r)∧l≤r∧r≤k∧(∀i,i<l→lt (gg (Wu aT) (lo+i)) (gg (Wu aT) (lo+k))=true)∧(∀i,r≤i→i<k→lt (gg (Wu aT) (lo+k)) (gg (Wu aT) (lo+i))=true)∧r-l+x≤k) (Q:=fun c dP=>dP=aT∧∃l r,c=(none,l,r)∧l≤k∧(∀i,i<l→lt (gg (Wu aT) (lo+i)) (gg (Wu aT) (lo+k))=true)∧(∀i,l≤i→i<k→lt (gg (Wu aT) (lo+k)) (gg (Wu aT) (lo+i))=true)) ?_ ?_ ⟨rfl,0,k,rfl,by lia,by lia,fun i hi=>by lia,fun i h1 h2=>by lia,by lia⟩) ?_)
  ·rintro x c dP _ hx ⟨rfl,l,r,rfl,a1,a2,a3,a4,a5⟩;dsimp only;by_cases VC:l≥r
   ·rw[MJ VC];exact ZK ⟨rfl,l,r,rfl,by lia,a3,fun i h1 h2=>a4 i Hy h2⟩
   ·rw[Je VC];refine wpS_bind (zd C b' Hy (by lia) ?_);dsimp only;cases e:lt (gg (Wu dP) (lo+k)) (gg (Wu dP) (lo+(l+r)/2))with
    |true=>
     rw[if_pos rfl];refine wpS_pure ⟨rfl,l,(l+r)/2,rfl,by lia,by lia,a3,fun i h1 h2=>?_,by lia⟩;by_cases ei:i=(l+r)/2
     ·subst ei;exact e
     ·exact C.tr _ (b'.mem Hy) _ (b'.mem Hy) _ (b'.mem Hy) e (mZ (lo+(l+r)/2) (lo+i) (by lia) (by lia) (by lia))
    |false=>
     rw[if_neg Vs];have e':=b'.no C (i:=lo+k) (j:=lo+(l+r)/2) (by lia) (by lia) (by lia) e;refine wpS_pure ⟨rfl,(l+r)/2+1,r,rfl,by lia,a2,fun i h1=>?_,a4,by lia⟩;by_cases ei:i=(l+r)/2
     ·subst ei;exact e'
     ·exact C.tr _ (b'.mem Hy) _ (b'.mem Hy) _ (b'.mem Hy) (mZ (lo+i) (lo+(l+r)/2) (by lia) (by lia) (by lia)) e'
  ·rintro c dP ⟨rfl,l,r,rfl,a1,a2,a3,a4,a5⟩;exact⟨rfl,l,r,rfl,by lia,a3,fun i h1 h2=>a4 i Hy h2⟩
  rintro c dP ⟨rfl,l,r,rfl,a1,a2,a3⟩;dsimp only;refine wpS_bind ?_;rw[moveDown'_eq];refine wpS_modify (ZK ?_);have hsz:lo+k<(Wu dP).size:=by rw[b'.size];lia
  have gb:=fun t=>LK (xs:=Wu dP) hsz (d:=lo+k-(lo+l)) (by lia) t
  have es:lo+k-(lo+k-(lo+l))=lo+l:=by lia
  rw[es]at gb;refine⟨rfl,b'.set (bubble_perm _ _ _),hp,fun t ht=>?_,fun i j hi uQ hj=>?_⟩
  ·show gg (bubble (Wu dP) (lo+k) (lo+k-(lo+l))) t=_;rw[gb,Je Hy,Je Hy];exact hf t ht
  ·show lt (gg (bubble (Wu dP) (lo+k) (lo+k-(lo+l))) i) (gg (bubble (Wu dP) (lo+k) (lo+k-(lo+l))) j)=true;rw[gb,gb];have XT:∀t,lo≤t→t<lo+l→lt (gg (Wu dP) t) (gg (Wu dP) (lo+k))=true:=fun t h1 h2=>by have:=a2 (t-lo) (by lia);rw[show lo+(t-lo)=t by lia]at this;exact this
   have XU:∀t,lo+l≤t→t<lo+k→lt (gg (Wu dP) (lo+k)) (gg (Wu dP) t)=true:=fun t h1 h2=>by have:=a3 (t-lo) (by lia) (by lia);rw[show lo+(t-lo)=t by lia]at this;exact this
   by_cases e1:i=lo+l
   ·rw[MJ e1,Je Hy,MJ Hy];exact XU _ (by lia) (by lia)
   ·rw[Je e1];by_cases e2:lo+l<i∧i≤lo+k
    ·rw[MJ e2,Je Hy,MJ Hy];exact mZ _ _ (by lia) (by lia) (by lia)
    ·rw[Je e2];by_cases e3:j=lo+l
     ·rw[MJ e3];exact XT _ (by lia) (by lia)
     ·rw[Je e3];by_cases e4:lo+l<j∧j≤lo+k
      ·rw[MJ e4];exact mZ _ _ (by lia) (by lia) (by lia)
      ·rw[Je e4];exact mZ _ _ (by lia) (by lia) (by lia)
 ·rintro c aT ⟨rfl,b',hp,hf,mZ⟩;rw[show max (max ok 1) n=n by lia]at mZ;exact⟨rfl,b',hp,hf,mZ⟩
 ·rintro c aT ⟨rfl,b',hp,hf,mZ⟩;exact ZK (q aT b' hp hf mZ)
end
theorem LL(ys:List Keyed)(j:Nat):∀(k:Nat)(xs:Array Keyed),j+k+ys.length≤xs.size→∀t:Nat,((ys.zipIdx k).foldl (fun c q=>c.setIfInBounds (j+q.2) q.1) xs)[t]?=if j+k≤t∧t<j+k+ys.length then ys[t-(j+k)]? else xs[t]?:=by
 induction ys with
 |nil=>
  intro k xs h t;rw[Je (fun z=>by have z1:=z.1;have z2:=z.2;simp only[List.length_nil]at z2;lia)];rfl
 |cons y ys ih=>
  intro k xs h t;rw[List.zipIdx_cons,List.foldl_cons,ih (k+1) _ (by simp at h⊢;lia) t];simp only[List.length_cons]at h⊢;by_cases h1:j+(k+1)≤t∧t<j+(k+1)+ys.length
  ·rw[MJ h1,MJ Hy,show t-(j+k)=(t-(j+(k+1)))+1 by lia];rfl
  ·rw[Je h1,Array.getElem?_setIfInBounds];by_cases h2:j+k=t
   ·subst h2;rw[if_pos rfl,MJ Hy,MJ Hy];simp
   ·rw[Je h2,Je Hy]
theorem Fq(ys:List Keyed)(j:Nat)(xs:Array Keyed)(h:j+ys.length≤xs.size):(ys.zipIdx.foldl (fun c q=>c.setIfInBounds (j+q.2) q.1) xs).toList=xs.toList.take j++ys++xs.toList.drop (j+ys.length):=by
 apply List.ext_getElem?;intro t;rw[Array.getElem?_toList,LL ys j 0 xs Hy t,Nat.add_zero];by_cases h1:t<j
 ·rw[Je Hy,List.append_assoc,ZZ (by simp;lia),List.getElem?_take,MJ h1,Array.getElem?_toList]
 ·by_cases h2:t<j+ys.length
  ·rw[MJ Hy,List.append_assoc,Α (by simp;lia),ZZ (by simp;lia)]
   congr 1
   simp
   lia
  ·rw[Je Hy,Α (by simp;lia),List.getElem?_drop,Array.getElem?_toList]
   congr 1
   simp
   lia
section
variable{prog:Program}{w:World}{A:Around}{E:Value→Shared→Prop}{s:Shared}{X:List Keyed}{κ:SortKind}{lt:Keyed→Keyed→Bool}
theorem Sw.pw{xs:Array Keyed}{p m:Nat}(h:Sw lt xs p (p+m)):Pw lt ((xs.toList.drop p).take m):=by
 refine List.pairwise_iff_getElem.mpr ?_;intro i j hi hj uQ;have DS:j<m∧p+j<xs.size:=by simp at hj;lia
 have e1:((xs.toList.drop p).take m)[i]=gg xs (p+i):=by
  have:((xs.toList.drop p).take m)[i]?=some (gg xs (p+i)):=by rw[List.getElem?_take,MJ Hy,List.getElem?_drop,Array.getElem?_toList];exact lb Hy
  exact(YG this).2
 have e2:((xs.toList.drop p).take m)[j]=gg xs (p+j):=by
  have:((xs.toList.drop p).take m)[j]?=some (gg xs (p+j)):=by rw[List.getElem?_take,MJ Hy,List.getElem?_drop,Array.getElem?_toList];exact lb Hy
  exact(YG this).2
 rw[e1,e2];exact h _ _ (by lia) (by lia) (by lia)
theorem Fs{xs:Array Keyed}{p m t:Nat}(h:t<m)(hs:p+m≤xs.size):((xs.toList.drop p).take m)[t]?=some (gg xs (p+t)):=by
 rw[List.getElem?_take,MJ h,List.getElem?_drop,Array.getElem?_toList];exact lb Hy
variable(C:Fg prog w A s X κ lt)
include C
theorem O2{st:SortSt}{i p m v n u:Nat}{Q:Bool→SortSt→Prop}(b:SB X κ st)(e1:(Z7 st)[i]?=some (p,m,v))(e2:(Z7 st)[i+1]?=some (p+m,n,u))(hm:1≤m)(hn:1≤n)(hX:p+m+n≤X.length)(s1:Sw lt (Wu st) p (p+m))(s2:Sw lt (Wu st) (p+m) (p+m+n))
  (q:∀aT,SB X κ aT→pendingOf aT=((Z7 st).setIfInBounds i (p,m+n,v)).eraseIdxIfInBounds (i+1)→(∀t,t<p∨p+m+n≤t→gg (Wu aT) t=gg ZP t)→Sw lt (Wu aT) p (p+m+n)→Q true aT):wpS (model prog w) A E s (mergeAt' i) Q st:=by
 rw[LH];refine wpS_bind (wpS_get ?_);rw[e1,e2];dsimp only;refine wpS_bind (Ia ?_);have hsz:=b.size;refine wpS_bind (eY (lb (xs:=Wu st) (k:=p+m) (by lia)) ?_);have mem:∀t,t<X.length→gg ZP t∈X:=fun t h=>b.mem h
 generalize LM:setPending st (((Z7 st).setIfInBounds i (p,m+n,v)).eraseIdxIfInBounds (i+1))=AA;have AE:arrOf AA=arrOf st:=by rw[←LM]
 have b1:SB X κ AA:=by rw[←LM];exact⟨b.pm,b.kd,b.fl⟩
 have AF:pendingOf AA=((Z7 st).setIfInBounds i (p,m+n,v)).eraseIdxIfInBounds (i+1):=by rw[←LM]
 refine wpS_bind (qG C (fun t=>gg ZP (p+t)) b1.kd (mem _ (by lia)) (fun t ht=>⟨lb Hy,mem _ (by lia)⟩) (fun x y h1 h2=>s1 _ _ (by lia) (by lia) (by lia)) (by lia) fun k hk g1 g2=>?_);dsimp only;have O3:∀t,t<k→lt (gg ZP (p+t)) (gg ZP (p+m))=true:=fun t ht=>by
  have:=g1 t ht;simp only[lr,Bool.false_eq_true,if_false,Bool.not_eq_true']at this;exact b.no C (by lia) (by lia) (by lia) this
 have VD:∀t,k≤t→t<m→lt (gg ZP (p+m)) (gg ZP (p+t))=true:=fun t h1 h2=>by
  have:=g2 t h1 h2;simp only[lr,Bool.false_eq_true,if_false,Bool.not_eq_false']at this;exact this
 have tr:=fun{x y z:Nat}(hx:x<X.length)(hy:y<X.length)(hz:z<X.length)=>C.tr _ (mem x hx) _ (mem y hy) _ (mem z hz)
 by_cases ek:(m-k==0)=true
 ·rw[MJ ek];have:k=m:=by have:=beq_iff_eq.mp ek;lia
  subst this;refine wpS_pure (q AA b1 AF (fun _ _=>by rw[AE]) ?_);rw[AE];intro x y hx AB hy;by_cases h1:y<p+k
  ·exact s1 x y hx AB h1
  ·by_cases h2:p+k≤x
   ·exact s2 x y h2 AB hy
   ·have h3:=O3 (x-p) (by lia);rw[show p+(x-p)=x by lia]at h3;by_cases h4:y=p+k
    ·rw[h4];exact h3
    ·exact tr Hy (by lia) (by lia) h3 (s2 (p+k) y Hy (by lia) hy)
 rw[Je ek];have ek:k<m:=by
  have:m-k≠0:=fun z=>ek Μ
  lia
 refine wpS_bind (eY (lb (xs:=Wu st) (k:=p+k+(m-k)-1) (by lia)) ?_);rw[show p+k+(m-k)-1=p+m-1 by lia];refine wpS_bind (qG C (fun t=>gg ZP (p+m+t)) b1.kd (mem _ (by lia)) (fun t ht=>⟨lb Hy,mem _ (by lia)⟩) (fun x y h1 h2=>s2 _ _ (by lia) (by lia) (by lia)) (by lia) fun l hl g3 g4=>?_);dsimp only;have TL:∀t,t<l→lt (gg ZP (p+m+t)) (gg ZP (p+m-1))=true:=fun t ht=>by
  have:=g3 t ht;simp only[lr,if_true]at this;exact this
 have VE:∀t,l≤t→t<n→lt (gg ZP (p+m-1)) (gg ZP (p+m+t))=true:=fun t h1 h2=>by
  have:=g4 t h1 h2;simp only[lr,if_true]at this;exact b.no C (by lia) (by lia) (by lia) this
 have GK:0<l:=by
  rcases Nat.lt_or_ge 0 l with h|h
  ·exact h
  ·have h1:=VE 0 (by lia) (by lia);have h2:=VD (m-1) (by lia) (by lia);rw[show p+(m-1)=p+m-1 by lia]at h2;rw[Nat.add_zero]at h1;have:=C.as _ (mem _ (by lia)) _ (mem _ (by lia)) h1;rw[h2]at this;cases this
 rw[Je (by simp;lia)];have ex:((Wu st).extract (p+k) (p+m)).toList=((Wu st).toList.drop (p+k)).take (m-k):=by
  simp[Array.toList_extract,List.extract_eq_take_drop]
  congr 1
  lia
 have ey:((Wu st).extract (p+m) (p+m+l)).toList=((Wu st).toList.drop (p+m)).take l:=by
  simp[Array.toList_extract,List.extract_eq_take_drop]
 have VF:∀t,t<m-k→(((Wu st).toList.drop (p+k)).take (m-k))[t]?=some (gg ZP (p+k+t)):=fun t ht=>Fs ht Hy
 have VG:∀t,t<l→(((Wu st).toList.drop (p+m)).take l)[t]?=some (gg ZP (p+m+t)):=fun t ht=>Fs ht Hy
 have lx:(((Wu st).toList.drop (p+k)).take (m-k)).length=m-k:=by simp;lia
 have ly:(((Wu st).toList.drop (p+m)).take l).length=l:=by simp;lia
 have QW:∀x∈((Wu st).toList.drop (p+k)).take (m-k),∃t,t<m-k∧x=gg ZP (p+k+t):=fun x hx=>by
  obtain⟨t,ht⟩:=List.mem_iff_getElem?.mp hx;have ic:=(YG ht).1;rw[lx]at ic;rw[VF t ic]at ht;exact⟨t,ic,(ZO ht).symm⟩
 have QX:∀x∈((Wu st).toList.drop (p+m)).take l,∃t,t<l∧x=gg ZP (p+m+t):=fun x hx=>by
  obtain⟨t,ht⟩:=List.mem_iff_getElem?.mp hx;have ic:=(YG ht).1;rw[ly]at ic;rw[VG t ic]at ht;exact⟨t,ic,(ZO ht).symm⟩
 have MM:MC X lt ((Wu st).extract (p+k) (p+m)).toList ((Wu st).extract (p+m) (p+m+l)).toList:=by
  rw[ex,ey];refine⟨Sw.pw fun x y h1 h2 h3=>s1 x y Hy h2 Hy,Sw.pw fun x y h1 h2 h3=>s2 x y h1 h2 Hy,fun x hx=>?_,fun x hx=>?_,fun x hx y hy=>?_,fun x hx y hy=>?_,fun y hy x hx=>?_⟩
  ·obtain⟨t,ht,rfl⟩:=QW x hx;exact mem _ (by lia)
  ·obtain⟨t,ht,rfl⟩:=QX x hx;exact mem _ (by lia)
  ·obtain⟨t,ht,rfl⟩:=QW x hx;obtain⟨u,hu,rfl⟩:=QX y hy;exact b.inj C (by lia) (by lia) (by lia)
  ·obtain⟨t,ht,rfl⟩:=QW x hx;rw[VG 0 GK]at hy;cases hy;have:=VD (k+t) (by lia) (by lia);rw[←Nat.add_assoc]at this;exact this
  ·obtain⟨t,ht,rfl⟩:=QX y hy;rw[lx,VF _ (by lia)]at hx;cases hx;rw[show p+k+(m-k-1)=p+m-1 by lia];exact TL t ht
 have fin:∀r dP,Eg AA dP→MG lt ((Wu st).extract (p+k) (p+m)).toList ((Wu st).extract (p+m) (p+m+l)).toList r.toList→wpS (model prog w) A E s (do
   modify fun st=>DR (p+k) r st
   return (failedOf (←get)).isNone) Q dP:=fun r dP eg mg=>by
  refine wpS_bind (wpS_modify (wpS_bind (wpS_get (ZK ?_))));have M5:arrOf dP=arrOf st:=eg.2.1.trans AE;have QY:failedOf dP=none:=eg.2.2.2.trans b1.fl;rw[ex,ey]at mg;have M6:r.toList.length=m-k+l:=by have:=mg.1.length_eq;rw[List.length_append,lx,ly]at this;exact this
  have el:(Wu (DR (p+k) r dP)).toList=(Wu st).toList.take (p+k)++r.toList++(Wu st).toList.drop (p+m+l):=by
   show(r.toList.zipIdx.foldl (fun c q=>c.setIfInBounds (p+k+q.2) q.1) (Wu dP)).toList=_;rw[Fq _ _ _ (by rw[M5,M6];lia),M5,M6,show p+k+(m-k+l)=p+m+l by lia]
  have XW:(Wu st).toList=(Wu st).toList.take (p+k)++(((Wu st).toList.drop (p+k)).take (m-k)++((Wu st).toList.drop (p+m)).take l)++(Wu st).toList.drop (p+m+l):=by
   have h1:=oU (Wu st).toList (p+k) (m-k);have h2:=oU (Wu st).toList (p+m) l;rw[show p+k+(m-k)=p+m by lia]at h1
   conv=>lhs;rw[←List.take_append_drop (p+k) (Wu st).toList,h1,h2]
   simp only[List.append_assoc]
  have TN:∀t,gg (Wu (DR (p+k) r dP)) t=((Wu (DR (p+k) r dP)).toList[t]?).getD (.none, .none):=fun t=>by rw[oV,Array.getElem?_toList]
  have g0:∀t,gg ZP t=((Wu st).toList[t]?).getD (.none, .none):=fun t=>by rw[oV,Array.getElem?_toList]
  have LN:∀t,t<p+k→gg (Wu (DR (p+k) r dP)) t=gg ZP t:=fun t ht=>by
   rw[TN,g0,el,List.append_assoc,ZZ (by simp;lia),List.getElem?_take,MJ ht]
  have Ft:∀t,p+m+l≤t→gg (Wu (DR (p+k) r dP)) t=gg ZP t:=fun t ht=>by
   have ic:((Wu st).toList.take (p+k)++r.toList).length=p+m+l:=by
    rw[List.length_append,M6,List.length_take,Array.length_toList]
    lia
   rw[TN,g0,el,Α Hy,List.getElem?_drop,ic]
   congr 2
   lia
  have TQ:∀t,p+k≤t→t<p+m+l→r.toList[t-(p+k)]?=some (gg (Wu (DR (p+k) r dP)) t):=fun t h1 h2=>by
   rw[TN,el,List.append_assoc,Α (by simp;lia),ZZ (by rw[List.length_take,Array.length_toList];lia)];rw[show(List.take (p+k) (Wu st).toList).length=p+k by simp;lia];rw[Χ Hy];rfl
  have cont:∀t,p+k≤t→t<p+m+l→∃u,p+k≤u∧u<p+m+l∧gg (Wu (DR (p+k) r dP)) t=gg ZP u:=fun t h1 h2=>by
   have:=mg.1.mem_iff.mp (ZI (TQ t h1 h2));rcases List.mem_append.mp this with z|z
   ·obtain⟨u,hu,e⟩:=QW _ z;exact⟨p+k+u,by lia,by lia,e⟩
   ·obtain⟨u,hu,e⟩:=QX _ z;exact⟨p+m+u,by lia,by lia,e⟩
  have hb:SB X κ (DR (p+k) r dP):=by
   refine⟨?_,eg.1.trans b1.kd,QY⟩;rw[el];refine List.Perm.trans ?_ b.pm
   conv=>rhs;rw[XW]
   exact(List.Perm.append_left _ mg.1).append_right _
  have NM:(failedOf (DR (p+k) r dP)).isNone=true:=by rw[show failedOf (DR (p+k) r dP)=failedOf dP from rfl,QY];rfl
  rw[NM];refine q _ hb (eg.2.2.1.trans AF) (fun t ht=>?_) fun x y hx AB hy=>?_
  ·rcases ht with ht|ht
   ·exact LN t (by lia)
   ·exact Ft t (by lia)
  ·
   have A1:∀t u,p≤t→t<p+k→p+k≤u→u<p+m+n→lt (gg ZP t) (gg ZP u)=true:=fun t u h1 h2 h3 h4=>by
    by_cases h5:u<p+m
    ·exact s1 t u h1 Hy h5
    ·have h6:=O3 (t-p) (by lia);rw[show p+(t-p)=t by lia]at h6;by_cases h7:u=p+m
     ·rw[h7];exact h6
     ·exact tr Hy (by lia) (by lia) h6 (s2 (p+m) u Hy (by lia) h4)
   have A2:∀t u,p+k≤t→t<p+m+l→p+m+l≤u→u<p+m+n→lt (gg ZP t) (gg ZP u)=true:=fun t u h1 h2 h3 h4=>by
    by_cases h5:p+m≤t
    ·exact s2 t u h5 Hy h4
    ·have h6:=VE (u-(p+m)) (by lia) (by lia);rw[show p+m+(u-(p+m))=u by lia]at h6;by_cases h7:t=p+m-1
     ·rw[h7];exact h6
     ·exact tr Hy (by lia) (by lia) (s1 t (p+m-1) (by lia) (by lia) (by lia)) h6
   by_cases h1:x<p+k
   ·rw[LN x h1];by_cases h2:y<p+k
    ·rw[LN y h2];exact s1 x y hx AB Hy
    ·by_cases h3:y<p+m+l
     ·obtain⟨u,u1,u2,u3⟩:=cont y Hy h3;rw[u3];exact A1 x u hx h1 u1 Hy
     ·rw[Ft y Hy];exact A1 x y hx h1 Hy hy
   ·by_cases h3:x<p+m+l
    ·by_cases h4:y<p+m+l
     ·exact mg.2.at (i:=x-(p+k)) (j:=y-(p+k)) (by lia) (TQ x (by lia) h3) (TQ y Hy h4)
     ·rw[Ft y Hy];obtain⟨u,u1,u2,u3⟩:=cont x (by lia) h3;rw[u3];exact A2 u y u1 u2 Hy hy
    ·rw[Ft x (by lia),Ft y Hy];exact s2 x y Hy AB hy
 have sx:0<((Wu st).extract (p+k) (p+m)).size:=by simp;lia
 have sy:0<((Wu st).extract (p+m) (p+m+l)).size:=by simp;lia
 by_cases VH:m-k≤l
 ·rw[MJ VH];exact wpS_bind (Lx C MM b1.kd sx sy fin)
 ·rw[Je VH];exact wpS_bind (LD C MM b1.kd sx sy fin)
end
abbrev Rn:=Nat×Nat×Nat
def Ch:List Rn→Nat→Nat→Prop
 |[],s,e=>s=e
 |q::r,s,e=>q.1=s∧1≤q.2.1∧Ch r (s+q.2.1) e
theorem Ch.all:∀{l:List Rn}{s e:Nat},Ch l s e→s+l.length≤e∧∀q∈l,s≤q.1∧q.1+q.2.1≤e
 |[],s,e,h=>⟨by have:s=e:=h;simp;lia,fun q hq=>by cases hq⟩
 |q::r,s,e,⟨h1,h2,h3⟩=>by
  obtain⟨a1,a2⟩:=Ch.all h3;refine⟨by simp;lia,fun x hx=>?_⟩;rcases List.mem_cons.mp hx with rfl|hx
  ·lia
  ·have:=a2 x hx;lia
theorem Ch.split:∀{l r:List Rn}{s e:Nat},Ch (l++r) s e↔∃m,Ch l s m∧Ch r m e
 |[],r,s,e=>⟨fun h=>⟨s,rfl,h⟩,fun⟨m,h1,h2⟩=>by have:s=m:=h1;rw[this];exact h2⟩
 |q::l,r,s,e=>by
  constructor
  ·rintro⟨h1,h2,h3⟩;obtain⟨m,a1,a2⟩:=Ch.split.mp h3;exact⟨m,⟨h1,h2,a1⟩,a2⟩
  ·rintro⟨m,⟨h1,h2,a1⟩,a2⟩;exact⟨h1,h2,Ch.split.mpr ⟨m,a1,a2⟩⟩
theorem Ch.mod{f:Rn→Rn}(hf:∀q,(f q).1=q.1∧(f q).2.1=q.2.1):∀{l:List Rn}{j s e:Nat},Ch l s e→Ch (l.modify j f) s e
 |[],j,s,e,h=>by simpa using h
 |q::r,0,s,e,h=>by
  rw[List.modify_zero_cons];obtain⟨h1,h2,h3⟩:=h;refine⟨by rw[(hf q).1];exact h1,by rw[(hf q).2];exact h2,by rw[(hf q).2];exact h3⟩
 |q::r,j+1,s,e,h=>by
  rw[List.modify_succ_cons];exact⟨h.1,h.2.1,Ch.mod hf h.2.2⟩
theorem B0{f:Rn→Rn}:∀{l:List Rn}{j:Nat}{q:Rn},q∈l.modify j f→q∈l∨∃x∈l,q=f x
 |[],j,q,h=>by simp at h
 |x::r,0,q,h=>by
  rw[List.modify_zero_cons]at h;rcases List.mem_cons.mp h with h|h
  ·exact .inr ⟨x,XC,h⟩
  ·exact .inl (Θ h)
 |x::r,j+1,q,h=>by
  rw[List.modify_succ_cons]at h;rcases List.mem_cons.mp h with h|h
  ·exact .inl (by rw[h];simp)
  ·rcases B0 h with h|⟨y,h1,h2⟩
   ·exact .inl (Θ h)
   ·exact .inr ⟨y,Θ h1,h2⟩
structure RI(X:List Keyed)(κ:SortKind)(lt:Keyed→Keyed→Bool)(st:SortSt)(lo n:Nat):Prop where
 b:SB X κ st
 ch:Ch (Z7 st).toList 0 lo
 sw:∀q∈(Z7 st).toList,Sw lt (Wu st) q.1 (q.1+q.2.1)
 tl:Sw lt (Wu st) lo (lo+n)
section
variable{prog:Program}{w:World}{A:Around}{E:Value→Shared→Prop}{s:Shared}{X:List Keyed}{κ:SortKind}{lt:Keyed→Keyed→Bool}(C:Fg prog w A s X κ lt)
include C
theorem JI{st:SortSt}{lo n i:Nat}{Q:Bool→SortSt→Prop}(r:RI X κ lt st lo n)(MU:lo≤X.length)(hi:i+1<(Z7 st).size)(q:∀aT,RI X κ lt aT lo n→(Z7 aT).size+1=(Z7 st).size→Q true aT):wpS (model prog w) A E s (mergeAt' i) Q st:=by
 have hl:(Z7 st).toList.length=(Z7 st).size:=XC;obtain⟨P1,x,y,P2,e,el⟩:∃P1 x y P2,(Z7 st).toList=P1++x::y::P2∧P1.length=i:=by
  refine⟨(Z7 st).toList.take i,(Z7 st).toList[i],(Z7 st).toList[i+1],(Z7 st).toList.drop (i+2),?_,by simp;lia⟩
  conv=>lhs;rw[←List.take_append_drop i (Z7 st).toList]
  rw[List.drop_eq_getElem_cons Hy,List.drop_eq_getElem_cons Hy]
 obtain⟨p,m,v⟩:=x;obtain⟨p2,k,u⟩:=y;have ch:=r.ch;rw[e]at ch;obtain⟨mid,c1,c2⟩:=Ch.split.mp ch;obtain⟨d1,d2,d3,d4,d5⟩:=c2;dsimp only at d1 d2 d3 d4 d5;subst d1 d3;have a1:=c1.all;have a2:=d5.all;have i1:(Z7 st)[i]?=some (p,m,v):=by rw[←Array.getElem?_toList,e,Α Hy,el];simp
 have i2:(Z7 st)[i+1]?=some (p+m,k,u):=by rw[←Array.getElem?_toList,e,Α Hy,el];simp
 have w1:=r.sw (p,m,v) (by rw[e];simp);have w2:=r.sw (p+m,k,u) (by rw[e];simp);refine O2 C r.b i1 i2 d2 d4 Hy w1 w2 fun aT b' hp LO SN=>?_
 have ep:(Z7 aT).toList=P1++(p,m+k,v)::P2:=by
  rw[hp];simp only[Array.toList_eraseIdxIfInBounds,Array.toList_setIfInBounds];rw[e,List.set_append_right _ _ (by lia),el,Nat.sub_self,List.set_cons_zero,List.eraseIdx_append_of_length_le Hy,el,show i+1-i=1 by lia];rfl
 refine q aT ⟨b',?_,fun z hz=>?_,r.tl.congr fun t h1 h2=>LO t (.inr Hy)⟩ ?_
 ·rw[ep];refine Ch.split.mpr ⟨p,c1,rfl,by show 1≤m+k;lia,?_⟩;show Ch P2 (p+(m+k)) lo;rw[←Nat.add_assoc];exact d5
 ·rw[ep]at hz;rcases List.mem_append.mp hz with hz|hz
  ·have h1:=a1.2 z hz;exact(r.sw z (by rw[e];simp[hz])).congr fun t _ h2=>LO t (.inl Hy)
  ·rcases List.mem_cons.mp hz with rfl|hz
   ·show Sw lt (Wu aT) p (p+(m+k));rw[←Nat.add_assoc];exact SN
   ·have h1:=a2.2 z hz;exact(r.sw z (by rw[e];simp[hz])).congr fun t h2 _=>LO t (.inr Hy)
 ·have h1:=congrArg List.length ep;have h2:=congrArg List.length e;simp at h1 h2
  lia
theorem LP{st:SortSt}{lo n N w':Nat}{Q:Option Unit×Unit→SortSt→Prop}(r:RI X κ lt st lo n)(MU:lo≤X.length)(q:∀aT,RI X κ lt aT lo n→Q (none,()) aT):wpS (model prog w) A E s (Tz N w') Q st:=by
 unfold Tz;refine wpS_forRange (I:=fun _ c aT=>c=(none,())∧RI X κ lt aT lo n) ?_ (fun c aT h=>by rw[h.1];exact q aT h.2) ⟨rfl,r⟩;rintro x c aT _ _ ⟨rfl,r'⟩;refine wpS_bind (wpS_get ?_);by_cases hs:(Z7 aT).size>1
 ·rw[MJ hs];have e:(Z7 aT)[(Z7 aT).size-2]?=some (Z7 aT)[(Z7 aT).size-2]:=XC;rw[e];generalize (Z7 aT)[(Z7 aT).size-2]=z;obtain⟨z1,z2,z3⟩:=z;dsimp only;split
  ·exact ZK (q aT r')
  ·refine wpS_bind (JI C r' MU Hy fun dP r2 _=>?_);rw[if_neg Vs];exact ZK ⟨rfl,r2⟩
 ·rw[Je hs];exact ZK (q aT r')
theorem Fu{st:SortSt}{lo n N:Nat}{Q:ForInStep (Option Unit×Nat)→SortSt→Prop}(r:RI X κ lt st lo n)(h1:1≤n)(MU:lo+n≤X.length)(q:∀aT,RI X κ lt aT (lo+n) 0→Q (.yield (none,lo+n)) aT):wpS (model prog w) A E s (QV N lo n) Q st:=by
 have push:∀aT,RI X κ lt aT lo n→RI X κ lt (QU lo n aT) (lo+n) 0:=fun aT r'=>by
  have ep:(Z7 (QU lo n aT)).toList=(Z7 aT).toList++[(lo,n,0)]:=by
   show((Z7 aT).push (lo,n,0)).toList=_;simp
  refine⟨⟨r'.b.pm,r'.b.kd,r'.b.fl⟩,?_,fun z hz=>?_,fun i j a b c=>by lia⟩
  ·rw[ep];exact Ch.split.mpr ⟨lo,r'.ch,rfl,h1,rfl⟩
  ·rw[ep]at hz;rcases List.mem_append.mp hz with hz|hz
   ·exact r'.sw z hz
   ·have:z=(lo,n,0):=by simpa using hz
    subst this;exact r'.tl
 unfold QV;refine wpS_bind (wpS_get ?_);cases e:(Z7 st).back? with
 |none=>exact wpS_bind (wpS_modify (ZK (q _ (push _ r))))
 |some z=>
  obtain⟨z1,z2,z3⟩:=z;dsimp only;refine wpS_bind (LP C r Hy fun dP r2=>?_);dsimp only;refine wpS_bind (wpS_modify (wpS_bind (wpS_modify (ZK (q _ (push _ ?_))))));have ep:(Z7 (VB (power' N (2*z1+z2) (2*z1+z2+z2+n) N) dP)).toList=(Z7 dP).toList.modify ((Z7 dP).size-1) fun(p,l,_)=>(p,l,power' N (2*z1+z2) (2*z1+z2+z2+n) N):=by
   show((Z7 dP).modify _ _).toList=_;simp
  refine⟨⟨r2.b.pm,r2.b.kd,r2.b.fl⟩,?_,fun z hz=>?_,r2.tl⟩
  ·rw[ep];refine Ch.mod ?_ r2.ch;exact fun _=>⟨rfl,rfl⟩
  ·rw[ep]at hz;rcases B0 hz with hz|⟨x,h1,h2⟩
   ·exact r2.sw z hz
   ·rw[h2];exact r2.sw x h1
theorem LQ{st:SortSt}{N:Nat}{Q:Option Unit×Unit→SortSt→Prop}(hN:N=X.length)(h0:0<N)(r:RI X κ lt st N 0)(q:∀aT,SB X κ aT→Sw lt (Wu aT) 0 N→Q (none,()) aT):wpS (model prog w) A E s (TC N) Q st:=by
 have one:∀aT,RI X κ lt aT N 0→(Z7 aT).size≤1→Q (none,()) aT:=fun aT r' hs=>by
  have ch:=r'.ch;have sw:=r'.sw;cases e:(Z7 aT).toList with
  |nil=>rw[e]at ch;have:0=N:=ch;lia
  |cons x l=>
   have hl:l=[]:=by
    have:=congrArg List.length e;simp at this;exact List.length_eq_zero_iff.mp Hy
   subst hl;rw[e]at ch sw;obtain⟨c1,c2,c3⟩:=ch;have c3:0+x.2.1=N:=c3;have:=sw x (XC);rw[c1,c3]at this;exact q aT r'.b this
 unfold TC;refine wpS_forRange (I:=fun x c aT=>c=(none,())∧RI X κ lt aT N 0∧((Z7 aT).size+x≤N∨(Z7 aT).size≤1)) ?_ ?_ ⟨rfl,r, .inl ?_⟩
 ·rintro x c aT _ hx ⟨rfl,r',hs⟩;refine wpS_bind (wpS_get ?_);by_cases h1:(Z7 aT).size≤1
  ·rw[MJ h1];exact ZK (one aT r' h1)
  ·rw[Je h1];refine wpS_bind (JI C r' Hy ?_ fun dP r2 KH=>?_)
   ·have key:∀c:Bool,(if c=true then(Z7 aT).size-2-1 else(Z7 aT).size-2)+1<(Z7 aT).size:=fun c=>by cases c<;>simp<;>lia
    exact key _
   ·rw[if_neg Vs];exact ZK ⟨rfl,r2,by lia⟩
 ·rintro c aT ⟨rfl,r',hs⟩;exact one aT r' (by rcases hs with hs|hs<;>lia)
 ·have:=r.ch.all.1;simp at this
  lia
theorem LR{st:SortSt}{Q:Unit→SortSt→Prop}(h0:0<X.length)(b:SB X κ st)(hp:pendingOf st=#[])(q:∀aT,SB X κ aT→Sw lt (Wu aT) 0 X.length→Q () aT):wpS (model prog w) A E s sortRuns' Q st:=by
 rw[H_];refine wpS_bind (wpS_get ?_);rw[b.size];refine wpS_bind (wpS_mono (wpS_forRange (I:=fun x c aT=>∃lo,c=(none,lo)∧RI X κ lt aT lo 0∧lo≤X.length∧x≤lo) (Q:=fun c aT=>c.1=none∧RI X κ lt aT X.length 0) ?_ ?_ ⟨0,rfl,⟨b,by rw[hp];rfl,(fun q hq=>by rw[hp]at hq;cases hq),fun i j a b c=>by lia⟩,by lia,by lia⟩) ?_)
 ·rintro x c aT _ hx ⟨lo,rfl,r,MU,TU⟩;dsimp only;by_cases h1:lo≥X.length
  ·rw[MJ h1];have:lo=X.length:=by lia
   subst this;exact ZK ⟨rfl,r⟩
  ·rw[Je h1];refine wpS_bind (O0 C r.b Hy (by lia) fun m dP b2 wN QY m1 m2 QZ=>?_);dsimp only;have r2:RI X κ lt dP lo m:=⟨b2,by rw[wN];exact r.ch,fun z hz=>by
    rw[wN]at hz;have:=r.ch.all.2 z hz;exact(r.sw z hz).congr fun t _ h2=>QY t (by lia),QZ⟩
   by_cases h2:m<minRun' X.length X.length 0
   ·rw[MJ h2];refine wpS_bind (wpS_lift (wpAny_rule ⟨rfl,?_⟩));refine wpS_bind (O1 C b2 (n:=min (X.length-lo) (minRun' X.length X.length 0)) (by lia) m1 Hy QZ fun Ea b3 M7 XX XY=>?_);rw[if_neg Vs];refine Fu C ⟨b3,by rw[M7,wN];exact r.ch,fun z hz=>?_,XY⟩ Hy (by lia) fun QE r4=>⟨_,rfl,r4,by lia,by lia⟩
    rw[M7]at hz;have:=r2.ch.all.2 z hz;exact(r2.sw z hz).congr fun t _ h2=>XX t (by lia)
   ·rw[Je h2];exact Fu C r2 m1 Hy fun QE r4=>⟨_,rfl,r4,by lia,by lia⟩
 ·rintro c aT ⟨lo,rfl,r,MU,TU⟩;have:lo=X.length:=by lia
  subst this;exact⟨rfl,r⟩
 ·rintro⟨c1,c2⟩ aT ⟨e,r⟩;dsimp only at e⊢;subst e;exact wpS_bind (LQ C rfl h0 r fun dP b2 QZ=>ZK (q dP b2 QZ))
end
open Classical in
noncomputable def Fv(X:List Keyed)(x:Keyed):Nat:=if h:∃i:Nat,X[i]?=some x then Classical.choose h else 0
theorem nH{X:List Keyed}{x:Keyed}(h:x∈X):X[Fv X x]?=some x:=by
 have h':∃i:Nat,X[i]?=some x:=List.mem_iff_getElem?.mp h;unfold Fv;rw[dif_pos h'];exact Classical.choose_spec h'
theorem LS{X:List Keyed}(nd:X.Nodup){i:Nat}{x:Keyed}(h:X[i]?=some x):Fv X x=i:=by
 have:=nH (ZI h);exact(List.getElem?_inj (YG this).1 nd).mp (this.trans h.symm)
theorem nJ{X:List Keyed}{x:Keyed}(h:x∈X):Fv X x<X.length:=(YG (nH h)).1
section
variable{prog:Program}{w:World}{A:Around}{E:Value→Shared→Prop}{s:Shared}{X:List Keyed}{κ:SortKind}{lt:Nat→Nat→Bool}
theorem Ib{st:SortSt}{Q:Unit→SortSt→Prop}(nd:X.Nodup)(h0:0<X.length)(L:Ay X.length lt)(ha:(Wu st).toList=X)(hk:kindOf st=κ)(hp:pendingOf st=#[])(hf:failedOf st=none)
  (hc:∀i j x y,X[i]?=some x→X[j]?=some y→∀C:Bool→Shared→Prop,C (lt i j) s→wpAny (model prog w) A (keyLt' κ x.1 y.1) C (fun _ _=>False) s)
  (q:∀p aT,yw X.length p→Sd lt p X.length→(Wu aT).toList=p.toList.map (fun i=>X.getD i (.none, .none))→failedOf aT=none→Q () aT):wpS (model prog w) A E s sortRuns' Q st:=by
 have C:Fg prog w A s X κ fun x y=>lt (Fv X x) (Fv X y):=by
  refine⟨fun x hx y hy=>hc _ _ x y (nH hx) (nH hy),fun x hx y hy z hz=>L.tr _ _ _ (nJ hx) (nJ hy) (nJ hz),fun x hx y hy=>L.as _ _ (nJ hx) (nJ hy),fun x hx y hy hn=>L.Th _ _ (nJ hx) (nJ hy) fun e=>hn ?_,nd⟩;have h1:=nH hx;rw[e,nH hy]at h1;exact(ZO h1).symm
 refine LR C h0 ⟨by rw[ha],hk,hf⟩ hp fun aT b sw=>?_
 have mem:∀x∈(Wu aT).toList,x∈X:=fun x hx=>b.pm.mem_iff.mp hx
 refine q ((Wu aT).map (Fv X)) aT ?_ (fun i j uQ hj=>?_) ?_ b.fl
 ·unfold yw;rw[Array.toList_map];have h1:=b.pm.map (Fv X);have h2:X.map (Fv X)=List.range X.length:=by
   apply List.ext_getElem
   ·simp
   ·intro i h1 h2;simp only[List.getElem_map,List.getElem_range];exact LS nd (by simp at h1;simp[h1])
  rw[h2]at h1;exact h1
 ·have:=sw i j (Nat.zero_le _) uQ hj;have g:∀k,k<X.length→gd ((Wu aT).map (Fv X)) k=Fv X (gg (Wu aT) k):=fun k hk=>by
   have E2:k<(Wu aT).size:=by rw[b.size];exact hk
   rw[Ff,oV];simp[E2]
  rw[g i Hy,g j hj];exact this
 ·rw[Array.toList_map,List.map_map]
  conv=>lhs;rw[←List.map_id (Wu aT).toList]
  apply List.map_congr_left;intro x hx;have:=nH (mem x hx);simp[List.getD_eq_getElem?_getD,this]
theorem B1{ks vs:List Value}(hl:ks.length=vs.length)(h0:0<vs.length)(L:Ay vs.length lt)(nd:ks.Nodup)
  (hc:∀i j,i<vs.length→j<vs.length→∀C:Bool→Shared→Prop,C (lt i j) s→wpAny (model prog w) A (keyLt' κ (ks.getD i .none) (ks.getD j .none)) C (fun _ _=>False) s):
  wpAny (model prog w) A ((sortRuns').run (SortSt.mk' κ (ks.toArray.zip vs.toArray) #[] 7 none)) (fun r s'=>∃p:Array Nat,s'=s∧yw vs.length p∧Sd lt p vs.length∧arrOf r.2=p.map (kas_item (ks.toArray.zip vs.toArray))∧failedOf r.2=none) E s:=by
 have hz:(ks.zip vs).length=vs.length:=by rw[List.length_zip];lia
 have ea:(ks.toArray.zip vs.toArray).toList=ks.zip vs:=XC;have XZ:(ks.zip vs).Nodup:=by
  refine List.pairwise_iff_getElem.mpr fun i j hi hj uQ e=>?_
  rw[List.getElem_zip,List.getElem_zip]at e;have:=(List.getElem_inj nd).mp (Prod.mk.inj e).1
  lia
 have run:=Ib (prog:=prog) (w:=w) (A:=A) (E:=E) (s:=s) (X:=ks.zip vs) (κ:=κ) (lt:=lt) (st:=SortSt.mk' κ (ks.toArray.zip vs.toArray) #[] 7 none) (Q:=fun _ aT=>∃p:Array Nat,yw vs.length p∧Sd lt p vs.length∧arrOf aT=p.map (kas_item (ks.toArray.zip vs.toArray))∧failedOf aT=none) XZ Hy (by rw[hz];exact L) ea rfl rfl rfl (fun i j x y hx hy C h=>?_) fun p aT h1 h2 h3 h4=>⟨p,by rw[←hz];exact h1,by rw[←hz];exact h2,?_,h4⟩
 ·unfold wpS at run;refine wpAny_mono run (fun r s' ⟨h1,p,h2⟩=>⟨p,h1,h2⟩) fun _ _ e=>e
 ·obtain⟨x1,x2⟩:=x;obtain⟨y1,y2⟩:=y;have hi:=(YG hx).1;have hj:=(YG hy).1;rw[hz]at hi hj;obtain⟨e1,_⟩:=List.getElem?_zip_eq_some.mp hx;obtain⟨e2,_⟩:=List.getElem?_zip_eq_some.mp hy;have:=hc i j hi hj C h;simpa[List.getD_eq_getElem?_getD,e1,e2]using this
 ·apply Array.toList_inj.mp;rw[h3,Array.toList_map];apply List.map_congr_left;intro i _;unfold kas_item;rw[Array.getD_eq_getD_getElem?,←Array.getElem?_toList,ea,List.getD_eq_getElem?_getD]
end
def Kp(a:Addr)(h h':Heap):Prop:=∀b o,b≠a→h.get? b=some o→h'.get? b=some o
section
variable{prog:Program}{w:World}{A:Around}{E:Value→Shared→Prop}{s:Shared}
theorem Df{a:Addr}{vs:List Value}{n:Nat}{κ:SortKind}{lt:Nat→Nat→Bool}{P:PySem.Fin→Shared→Prop}(ho:s.heap.get? a=some (seqObj "list" vs.toArray n))(h2:2≤vs.length)(Fw:vs.length<10000)(O4:vs.Nodup)(L:Ay vs.length lt)
  (hk:∀s',Kp a s.heap s'.heap→∀Q':SortKind→Shared→Prop,Q' κ s'→wpAny (model prog w) A (keyKind' vs.toArray) Q' (fun _ _=>False) s')
  (hc:∀i j,i<vs.length→j<vs.length→∀s',Kp a s.heap s'.heap→∀C:Bool→Shared→Prop,C (lt i j) s'→wpAny (model prog w) A (keyLt' κ (vs.getD i .none) (vs.getD j .none)) C (fun _ _=>False) s')
  (h:∀p h' c,yw vs.length p→Sd lt p vs.length→Kp a s.heap h'→h'.get? a=some (seqObj "list" (List.toArray (p.toList.map fun i=>vs.getD i Value.none)) c)→P (.done (.ret .none)) {s with heap:=h'}):
  wpAny (model prog w) A (Builtin.«list.sort» ⟨[.ref a],[]⟩) P E s:=by
 have s1:=Heap.SameBut.update s.heap a (Obj.mapSeq fun _=>(#[]:Array Value));obtain⟨e1,Ic⟩:∃e1,(η a).get? a=some (seqObj "list" #[] e1):=⟨_,get?_update_seq ho fun _=>#[]⟩
 rw[list_sort_plain];refine wpAny_bind (listItems_at ho rfl (ZN (listUpdate_at ho rfl ?_ (by rw[List.size_toArray,sizeLine_eq];lia) (Nat.zero_le _))));refine wpAny_bind (χ Ic);generalize hh:(((η a).push {cls:= .type "tuple",data:= .seq vs.toArray 0}).push {cls:= .type "list",data:= .seq #[] 0})=h3;have k3:Kp a s.heap h3:=fun b o hb e=>by
  rw[←hh];exact ZU (ZU ((s1.2 b hb).trans e))
 have LU:h3.get? a=some (seqObj "list" #[] e1):=by
  rw[←hh];exact ZU (ZU Ic)
 show wpAny (model prog w) A _ P E {s with heap:=h3};dsimp only;have yr:¬vs.toArray.size<2:=by rw[List.size_toArray];lia
 rw[Je yr,Je yr];refine wpAny_bind (wpAny_mono (hk {s with heap:=h3} k3 (fun Q0 s'=>Q0=κ∧s'={s with heap:=h3}) ⟨rfl,rfl⟩) ?_ fun _ _ x=>x.elim);rintro _ _ ⟨rfl,rfl⟩;refine wpAny_bind (wpAny_mono (B1 (lt:=lt) rfl (by lia) L O4 fun i j hi hj C hC=>hc i j hi hj {s with heap:=h3} k3 C hC) ?_ fun _ _ e=>e);rintro⟨⟨⟩,aT⟩ s' ⟨p,rfl,hp,hs,TX,hf⟩;dsimp only;rw[kat_snds rfl TX];have hsz:(List.toArray (p.toList.map fun i=>vs.getD i Value.none)).size=vs.length:=by rw[List.size_toArray,List.length_map,Array.length_toList,hp.size]
 have s2:=Heap.SameBut.update h3 a (Obj.mapSeq fun _=>List.toArray (p.toList.map fun i=>vs.getD i Value.none));obtain⟨c2,uP⟩:∃c2,(h3.update a (Obj.mapSeq fun _=>List.toArray (p.toList.map fun i=>vs.getD i Value.none))).get? a=some (seqObj "list" (List.toArray (p.toList.map fun i=>vs.getD i Value.none)) c2):=⟨_,get?_update_seq LU fun _=>List.toArray (p.toList.map fun i=>vs.getD i Value.none)⟩
 refine wpAny_bind (seqEpoch_at (s:={s with heap:=h3}) LU rfl (ZN (listUpdate_at (s:={s with heap:=h3}) LU rfl ?_ (Nat.zero_le _) (Nat.le_trans (Nat.le_of_eq hsz) (by rw[sizeLine_eq];lia)))));rw[hf];simp only[bne_self_eq_false,Bool.false_eq_true,if_false];exact ZF (h p _ c2 hp hs (fun b o hb e=>(s2.2 b hb).trans (k3 b o hb e)) uP)
theorem ze{a:Addr}{vs:List Value}{n:Nat}{P:PySem.Fin→Shared→Prop}(ho:s.heap.get? a=some (seqObj "list" vs.toArray n))(h2:vs.length<2)
  (h:∀h' c,Kp a s.heap h'→h'.get? a=some (seqObj "list" vs.toArray c)→P (.done (.ret .none)) {s with heap:=h'}):
  wpAny (model prog w) A (Builtin.«list.sort» ⟨[.ref a],[]⟩) P E s:=by
 have s1:=Heap.SameBut.update s.heap a (Obj.mapSeq fun _=>(#[]:Array Value));obtain⟨e1,Ic⟩:∃e1,(η a).get? a=some (seqObj "list" #[] e1):=⟨_,get?_update_seq ho fun _=>#[]⟩
 rw[list_sort_plain];refine wpAny_bind (listItems_at ho rfl (ZN (listUpdate_at ho rfl ?_ (by rw[List.size_toArray,sizeLine_eq];lia) (Nat.zero_le _))));refine wpAny_bind (χ Ic);generalize hh:(((η a).push {cls:= .type "tuple",data:= .seq vs.toArray 0}).push {cls:= .type "list",data:= .seq #[] 0})=h3;have k3:Kp a s.heap h3:=fun b o hb e=>by
  rw[←hh];exact ZU (ZU ((s1.2 b hb).trans e))
 have LU:h3.get? a=some (seqObj "list" #[] e1):=by
  rw[←hh];exact ZU (ZU Ic)
 show wpAny (model prog w) A _ P E {s with heap:=h3};dsimp only;have yr:vs.toArray.size<2:=by rw[List.size_toArray];lia
 rw[MJ yr,MJ yr];refine wpAny_bind (ZF (ZN (ZF ?_)));dsimp only;have TY:(Wu (SortSt.mk' general' (vs.toArray.zip vs.toArray) #[] 7 none)).map (·.2)=vs.toArray:=by
  show(vs.toArray.zip vs.toArray).map (·.2)=vs.toArray;apply Array.toList_inj.mp;rw[Array.toList_map,Array.toList_zip];exact List.map_snd_zip ZT
 have s2:=Heap.SameBut.update h3 a (Obj.mapSeq fun _=>vs.toArray);obtain⟨c2,uP⟩:∃c2,(h3.update a (Obj.mapSeq fun _=>vs.toArray)).get? a=some (seqObj "list" vs.toArray c2):=⟨_,get?_update_seq LU fun _=>vs.toArray⟩
 rw[TY];refine wpAny_bind (seqEpoch_at (s:={s with heap:=h3}) LU rfl (ZN (listUpdate_at (s:={s with heap:=h3}) LU rfl ?_ (Nat.zero_le _) (by rw[List.size_toArray,sizeLine_eq];lia))));simp only[bne_self_eq_false,Bool.false_eq_true,if_false];exact ZF (h _ c2 (fun b o hb e=>(s2.2 b hb).trans (k3 b o hb e)) uP)
theorem AG{l:Addr}{vs:List Value}{κ:SortKind}{lt:Nat→Nat→Bool}{Q:Value→Shared→Prop}(hl:s.heap.IsList l vs.toArray)(Fw:vs.length<10000)(O4:vs.Nodup)(L:Ay vs.length lt)
  (hk:2≤vs.length→∀s',(∀b o,s.heap.get? b=some o→s'.heap.get? b=some o)→∀Q':SortKind→Shared→Prop,Q' κ s'→wpAny (model prog w) A.in1.in1 (keyKind' vs.toArray) Q' (fun _ _=>False) s')
  (hc:∀i j,i<vs.length→j<vs.length→∀s',(∀b o,s.heap.get? b=some o→s'.heap.get? b=some o)→∀C:Bool→Shared→Prop,C (lt i j) s'→wpAny (model prog w) A.in1.in1 (keyLt' κ (vs.getD i .none) (vs.getD j .none)) C (fun _ _=>False) s')
  (h:∀p h' D c,yw vs.length p→Sd lt p vs.length→(∀b o,s.heap.get? b=some o→h'.get? b=some o)→s.heap.objs.size≤D→h'.get? D=some (seqObj "list" (List.toArray (p.toList.map fun i=>vs.getD i Value.none)) c)→Q (.ref D) {s with heap:=h'}):
  wpAny (model prog w) A (call (.builtin "sorted") [.ref l]) Q E s:=by
 refine Calls.call_function_entry kind_sorted plain_sorted entry_sorted (args_sorted1 _) ?_;unfold Builtin.«sorted»;refine wpAny_bind (m:=checkCount "sorted" 1 1 _) (ZF (ZN (collect_list hl (ZN (wpAny_newList ?_ (by rw[sizeLine_eq];lia))) (by rw[sizeLine_eq];lia))));generalize hh:((s.heap.push (seqObj "list" #[] 0)).update s.heap.objs.size (Obj.mapSeq (·++vs.toArray)))=h1;have hsz:h1.objs.size=s.heap.objs.size+1:=by rw[←hh,Heap.size_update,size_push']
 have keep:∀b o,s.heap.get? b=some o→(h1.push (seqObj "list" vs.toArray 0)).get? b=some o:=fun b o q=>by
  have ic:b<s.heap.objs.size:=ZS q;rw[Heap.get?_push_ne _ _ _ (by rw[hsz];exact Nat.ne_of_lt (Nat.lt_succ_of_lt ic)),←hh,Heap.get?_update_ne _ _ _ _ (Nat.ne_of_lt ic),Heap.get?_push_ne _ _ _ (Nat.ne_of_lt ic)];exact q
 have I_:(h1.push (seqObj "list" vs.toArray 0)).get? h1.objs.size=some (seqObj "list" vs.toArray 0):=Heap.get?_push_size _ rfl;have JJ:∀h',Kp h1.objs.size (h1.push (seqObj "list" vs.toArray 0)) h'→∀b o,s.heap.get? b=some o→h'.get? b=some o:=fun h' k b o q=>k b o (by have:=Heap.lt_size q;rw[hsz];exact Nat.ne_of_lt (Nat.lt_succ_of_lt this)) (keep b o q)
 show wpAny _ _ _ _ _ {s with heap:=h1.push (seqObj "list" vs.toArray 0)};refine wpAny_bind (wpAny_holding (wpAny_call_entry slot_list_sort ⟨_,I_,rfl⟩ entry_list_sort ?_ (args_list_sort _)));by_cases h2:2≤vs.length
 ·refine Df (s:={s with heap:=h1.push (seqObj "list" vs.toArray 0)}) (lt:=lt) I_ h2 Fw O4 L (fun s' k Q' q=>hk h2 s' (JJ _ k) Q' q) (fun i j hi hj s' k C q=>hc i j hi hj s' (JJ _ k) C q) fun p h' c hp hs k e=>?_
  exact⟨_,rfl,ZF ⟨_,rfl,h p h' _ c hp hs (JJ _ k) (by rw[show({s with heap:=h1}:Shared).heap.objs.size=h1.objs.size from rfl,hsz];exact Nat.le_succ _) e⟩⟩
 ·refine ze (s:={s with heap:=h1.push (seqObj "list" vs.toArray 0)}) I_ Hy fun h' c k e=>?_
  have hp:yw vs.length (List.toArray (ZR vs.length)):=by unfold yw;simp
  refine⟨_,rfl,ZF ⟨_,rfl,h _ h' _ c hp (fun i j uQ hj=>by lia) (JJ _ k) (by rw[show({s with heap:=h1}:Shared).heap.objs.size=h1.objs.size from rfl,hsz];exact Nat.le_succ _) ?_⟩⟩;rw[e]
  congr 2
  match vs,h2 with
  |[],_=>rfl
  |[x],_=>rfl
  |x::y::r,h=>simp at h
end
def iW(p q:Int×Int):Bool:=if p.1=q.1 then decide (p.2<q.2)else decide (p.1<q.1)
theorem Fx{p q r:Int×Int}(a:iW p q=true)(b:iW q r=true):iW p r=true:=by
 unfold iW at*;split at a<;>split at b<;>split<;>simp_all<;>lia
theorem AH{p q:Int×Int}(a:iW p q=true):iW q p=false:=by
 unfold iW at*;split at a<;>split<;>simp_all<;>lia
theorem B2{p q:Int×Int}(h:p≠q):iW p q=true∨iW q p=true:=by
 unfold iW;by_cases e:p.1=q.1
 ·have:p.2≠q.2:=fun z=>h (Prod.ext e z)
  simp[e];lia
 ·have e':¬q.1=p.1:=fun z=>e z.symm
  simp[e,e'];lia
section
variable{prog:Program}{w:World}{A:Around}{E:Value→Shared→Prop}{s:Shared}
def rZ(h:Heap)(x:Addr)(p:Int×Int):Prop:=∃o t u n,h.get? x=some o∧o.cls= .type "tuple"∧o.data= .seq #[.int p.1 t, .int p.2 u] n
theorem Ie{x y:Addr}{p q:Int×Int}{C:Bool→Shared→Prop}(hx:rZ s.heap x p)(hy:rZ s.heap y q)(h:C (iW p q) s):wpAny (model prog w) A (keyLt' (tuples' true) (.ref x) (.ref y)) C E s:=by
 obtain⟨ox,t,u,n,h1,h2,h3⟩:=hx;obtain⟨oy,t',u',n',g1,g2,g3⟩:=hy;refine kat_lt h1 h3 g1 g3 (kat_cons ?_);have e0:SeqAt.EqAt A s (.int p.1 t) (.int q.1 t') (qt (.int p.1) (.int q.1)):=tq ⟨t,rfl⟩ ⟨t',rfl⟩ rfl rfl;have e1:SeqAt.EqAt A s (.int p.2 u) (.int q.2 u') (qt (.int p.2) (.int q.2)):=tq ⟨u,rfl⟩ ⟨u',rfl⟩ rfl rfl;refine e0 _ _ _ _ ?_;by_cases a:p.1=q.1
 ·have:qt (.int p.1) (.int q.1)=true:=by simp[qt,a]
  rw[this];refine kat_yes (kat_cons (e1 _ _ _ _ ?_));by_cases b:p.2=q.2
  ·have:qt (.int p.2) (.int q.2)=true:=by simp[qt,b]
   rw[this];refine kat_yes (kat_nil ?_);have:iW p q=decide (#[Value.int p.1 t, .int p.2 u].size<#[Value.int q.1 t', .int q.2 u'].size):=by simp[iW,a,b]
   rw[this]at h;exact h
  ·have:qt (.int p.2) (.int q.2)=false:=by simp[qt,b]
   rw[this];refine kat_no (kat_one _ _ (lt_int ?_));have:iW p q=decide (p.2<q.2):=by simp[iW,a]
   rw[this]at h;exact h
 ·have:qt (.int p.1) (.int q.1)=false:=by simp[qt,a]
  rw[this];refine kat_no (oneLt_int ?_);have:iW p q=decide (p.1<q.1):=by simp[iW,a]
  rw[this]at h;exact h
theorem wb{h:Heap}:∀{its:List Value},(∀v∈its,∃x p,v= .ref x∧rZ h x p)→∃fs,KatTups h its fs∧fs.length=its.length∧∀f∈fs,∃i t,f=Value.int i t
 |[],_=>⟨[], .nil,rfl,fun f hf=>by cases hf⟩
 |v::r,hv=>by
  obtain⟨x,p,rfl,o,t,u,n,h1,h2,h3⟩:=hv v (List.mem_cons_self ..);obtain⟨fs,k1,k2,k3⟩:=wb (its:=r) fun v N3=>hv v (Θ N3)
  refine⟨.int p.1 t::fs, .cons h1 h2 h3 rfl k1,by simp[k2],fun f hf=>?_⟩;rcases List.mem_cons.mp hf with rfl|hf
  ·exact⟨_,_,rfl⟩
  ·exact k3 f hf
theorem Dg{its:List Value}{Q:SortKind→Shared→Prop}(eQ:0<its.length)(hv:∀v∈its,∃x p,v= .ref x∧rZ s.heap x p)(h:Q (tuples' true) s):wpAny (model prog w) A (keyKind' its.toArray) Q E s:=by
 obtain⟨fs,k1,k2,k3⟩:=wb hv;refine kat_kind (T:= .type "int") k1 Hy (fun v hv=>?_) (WV) h;obtain⟨i,t,rfl⟩:=k3 v hv;exact .now
end
theorem zf{l:List Nat}{f:Nat→V}{g:Nat→Value}(h:∀i∈l,RelV (f i) (g i)):Vals (l.map f) (l.map g):=by
 induction l with
 |nil=>exact .nil
 |cons i r ih=>exact .cons (h i (List.mem_cons_self ..)) (ih fun j hj=>h j (Θ hj))
end L2
namespace QF
open PySem L2 PySem.Spec PyProof.Rows PySem.W PySem.Calls
inductive Fy(K:Frag)(vs:List V)(H:Hp)(Q:VK):Prop
 |mk (l:Addr) (xs:List V) (ps:List Pr) (_:vs=[.ref l]) (_:ir K H l xs) (_:fT H xs ps) (_:ps.Nodup) (_:ps.length<10000) (_:∀D ys qs,H D=none→fT H ys qs→qs.Perm ps→qs.Pairwise (fun p q=>iW p q=true)→Q (.ref D) (upd H D (.lst ys))):Fy K vs H Q
theorem AI{X:Cx}(K:Frag)(hK:X.K=K:=by rfl):i4 X (.builtin "sorted") (Fy K):=by
 subst hK;intro pins s σ H vs us Q I r h;obtain⟨l,xs,ps,rfl,hq,PS,nd,Fw,q⟩:=h;obtain⟨u,rfl,rx⟩:=vals1 r;cases rx;obtain⟨its,r',pl,hz⟩:=I.list hq;have hlen:=r'.length;have rG:=PS.1;have key:∀i,i<its.length→∃t,xs[i]?=some (.ref t)∧its[i]?=some (.ref t)∧H t=some (.tup (jk (ps.getD i (0,0))))∧rZ s.heap t (ps.getD i (0,0)):=fun i hi=>by
  have hp:ps[i]?=some (ps.getD i (0,0)):=by simp[show i<ps.length by lia]
  obtain⟨t,h1,h2⟩:=PS.2 i _ hp;obtain⟨v,h3,h4⟩:=r'.get h1;cases h4;refine⟨t,h1,h3,h2,?_⟩;obtain⟨aaL,r2,⟨o,e1,e2,n,e3⟩,_⟩:=I.tuple (xs:=jk (ps.getD i (0,0))) (.of h2);cases r2 with
  |cons a b=>
   cases b with
   |cons c d=>
    cases d;obtain⟨ta,rfl⟩:=a;obtain⟨tc,rfl⟩:=c;exact⟨o,ta,tc,n,e1,e2,e3⟩
 have JJ:∀{h':Heap},(∀b o,s.heap.get? b=some o→h'.get? b=some o)→∀{x p},rZ s.heap x p→rZ h' x p:=fun k _ _ ⟨o,t,u,n,a,b⟩=>⟨o,t,u,n,k _ _ a,b⟩
 have L:Ay its.length fun i j=>iW (ps.getD i (0,0)) (ps.getD j (0,0)):=by
  refine⟨fun i j k _ _ _ a b=>Fx a b,fun i j _ _ a=>AH a,fun i j hi hj eQ=>B2 fun e=>eQ ?_⟩;have e:ps[i]?=ps[j]?:=by
   rw[Χ Hy,Χ Hy];simpa[show i<ps.length by lia,show j<ps.length by lia]using e
  exact(List.getElem?_inj Hy nd).mp e
 have O4:its.Nodup:=by
  refine List.pairwise_iff_getElem.mpr fun i j hi hj uQ e=>?_
  obtain⟨t1,_,a2,a3,_⟩:=key i hi;obtain⟨t2,_,b2,b3,_⟩:=key j hj;rw[Χ hi]at a2;rw[Χ hj,←e,a2]at b2;cases b2;rw[a3]at b3;have h1:ps[i]?=some (ps.getD i (0,0)):=by simp[show i<ps.length by lia]
  have h2:ps[j]?=some (ps.getD j (0,0)):=by simp[show j<ps.length by lia]
  have e9:ps.getD i (0,0)=ps.getD j (0,0):=by
   have:=HO.tup.inj (ZO b3);simp only[jk,List.cons.injEq,V.int.injEq,and_true]at this;exact Prod.ext this.1 this.2
  have:=(List.getElem?_inj Hy nd).mp (h1.trans (by rw[e9];exact h2.symm))
  lia
 refine AG (κ:=tuples' true) pl.isList Hy O4 L (fun h2 s' k Q' hq=>?_) (fun i j hi hj s' k C hC=>?_) fun p h' D c hp hs k hD e=>?_
 ·refine Dg Hy (fun v hv=>?_) hq;obtain⟨i,hi,rfl⟩:=List.mem_iff_getElem.mp hv;obtain⟨t,_,h3,_,h5⟩:=key i hi;exact⟨t,_,by rw[Χ hi]at h3;exact ZO h3,JJ k h5⟩
 ·obtain⟨t,_,h3,_,h5⟩:=key i hi;obtain⟨t',_,g3,_,g5⟩:=key j hj;have e1:its.getD i .none= .ref t:=by simp[h3]
  have e2:its.getD j .none= .ref t':=by simp[g3]
  rw[e1,e2];exact Ie (JJ k h5) (JJ k g5) hC
 ·have mem:∀i∈p.toList,i<its.length:=fun i hi=>by
   have:=hp.mem_iff.mp hi;simpa using this
  have rel:Vals (p.toList.map fun i=>xs.getD i .cL) (p.toList.map fun i=>its.getD i Value.none):=zf fun i hi=>by
   obtain⟨t,h1,h3,_⟩:=key i (mem i hi);have e1:xs.getD i .cL= .ref t:=by simp[h1]
   have e2:its.getD i .none= .ref t:=by simp[h3]
   rw[e1,e2];rfl
  have hsz:(p.toList.map fun i=>xs.getD i V.cL).length=its.length:=by rw[List.length_map,Array.length_toList,hp.size]
  have LV:(p.toList.map fun i=>ps.getD i (0,0)).length=its.length:=by rw[List.length_map,Array.length_toList,hp.size]
  refine⟨.ref D,_,I.laid (t':=s.toks) k hD (show cR X.prog X.w _ h' _ (.lst _)from⟨by rw[hsz,←hlen];exact hz,_,c,rel,e⟩),rfl,q D _ (p.toList.map fun i=>ps.getD i (0,0)) (I.bX.fresh hD) ⟨by rw[hsz,LV],fun i f hf=>?_⟩ ?_ ?_⟩
  ·rw[List.getElem?_map]at hf⊢;cases ei:p.toList[i]? with
   |none=>rw[ei]at hf;cases hf
   |some j=>
    rw[ei]at hf;have hf:ps.getD j (0,0)=f:=ZO hf;obtain⟨t,h1,h3,h4,_⟩:=key j (mem j (ZI ei));refine⟨t,?_,by rw[←hf];exact h4⟩;show some (xs.getD j .cL)=_;simp[h1]
  ·have h1:=hp.map (fun i=>ps.getD i (0,0));refine h1.trans ?_;have:(ZR its.length).map (fun i=>ps.getD i (0,0))=ps:=by
    apply List.ext_getElem?;intro i;rw[List.getElem?_map];by_cases hi:i<its.length
    ·rw[List.getElem?_range hi];simp[show i<ps.length by lia]
    ·rw[List.getElem?_eq_none (by simp;lia),List.getElem?_eq_none Hy];rfl
   rw[this]
  ·rw[List.pairwise_iff_getElem];intro i j hi hj uQ;have BB:i<its.length:=by rw[LV]at hi;exact hi
   have DS:j<its.length:=by rw[LV]at hj;exact hj
   have:=hs i j uQ DS;have DT:=hp.size;simp only[List.getElem_map];have e1:gd p i=p.toList[i]'(by simp;lia):=by simp[gd,show i<p.size by lia]
   have e2:gd p j=p.toList[j]'(by simp;lia):=by simp[gd,show j<p.size by lia]
   rw[e1,e2]at this;exact this
end QF
namespace L2
open PySem PySem.Spec PyProof.Rows PySem.W PySem.Calls
open AutoSeq1 (wpAny_loadPart')
theorem O5{A:Around}{s:Shared}{i j:Int}{t u:Tok}:SeqAt.EqAt A s (.int i t) (.int j u) (decide (i=j)):=by
 have:=tq (A:=A) (s:=s) (y:= .int i) (x:= .int j) ⟨t,rfl⟩ ⟨u,rfl⟩ rfl rfl;simpa[qt,Bool.beq_eq_decide_eq]using this
theorem O6{prog:Program}{w:World}{A:Around}{E:Value→Shared→Prop}{s:Shared}{i j:Int}{t u:Tok}{Q:Value→Shared→Prop}(h:Q (.bool (decide (i<j))) s):wpAny (model prog w) A (richCompare .Lt (.int i t) (.int j u)) Q E s:=lt_int h
theorem Fz(l b:Addr)(p q:Int×Int)(t u t' u':Tok)(n n2:Nat)(dd EU:Option Addr)(sl yt:Array (Option Value)):
  Meets (Builtin.«tuple.__lt__» ⟨[.ref l, .ref b],[]⟩) (fun A R s=>s.heap.get? l=some {cls:= .type "tuple",dict:=dd,data:= .seq #[.int p.1 t, .int p.2 u] n,slots:=sl}∧s.heap.get? b=some {cls:= .type "tuple",dict:=EU,data:= .seq #[.int q.1 t', .int q.2 u'] n2,slots:=yt}∧
    R (.ok (.ret (.bool (iW p q)))) s):=
 .of_wp fun prog w A R s h=>by
  obtain⟨hp,g,d,tk,os⟩:=s;obtain⟨hl,hb,h⟩:=h;have f2:=AutoSeq1.sub_tuple_tuple
  wp_walk using wpAny_loadPart' hl,wpAny_loadPart' hb
  refine(show wpAny (model prog w) A.in1 (eqBool (.int p.1 t) (.int q.1 t')) _ _ _ from O5 _ _ _ _ ?_);by_cases a:p.1=q.1
  ·rw[decide_eq_true a]
   wp_walk
   refine(show wpAny (model prog w) A.in1 (eqBool (.int p.2 u) (.int q.2 u')) _ _ _ from O5 _ _ _ _ ?_);by_cases c:p.2=q.2
   ·rw[decide_eq_true c]
    wp_walk
    have e:iW p q=false:=by simp[iW,a,c]
    rw[e]at h;exact⟨_,rfl,h⟩
   ·rw[decide_eq_false c];have e:iW p q=decide (p.2<q.2):=by simp[iW,a]
    rw[e]at h
    wp_walk using O6
    exact⟨_,rfl,h⟩
  ·rw[decide_eq_false a];have e:iW p q=decide (p.1<q.1):=by simp[iW,a]
   rw[e]at h
   wp_walk using O6
   exact⟨_,rfl,h⟩
theorem AJ{prog:Program}{w:World}{A:Around}{E:Value→Shared→Prop}{s:Shared}{x y:Addr}{p q:Int×Int}{Q:Value→Shared→Prop}(hu:A.units<cLine)(hx:rZ s.heap x p)(hy:rZ s.heap y q)(h:Q (.bool (iW p q)) s):wpAny (model prog w) A (compareOp .Lt (.ref x) (.ref y)) Q E s:=by
 obtain⟨⟨c,dd,da,sl⟩,t,u,n,h1,h2,h3⟩:=hx;obtain⟨⟨c',Jk,aaS,RS⟩,t',u',n',g1,g2,g3⟩:=hy;simp only at h2 h3 g2 g3;subst h2 h3 g2 g3;exact richCompare_meets_room (op:= .Lt) ⟨_,h1,rfl⟩ ⟨_,g1,rfl⟩ F.slot_tuple_lt F.entry_tuple_lt (F.args_tuple_lt_2 _ _) (Fz x y p q t u t' u' n n' dd Jk sl RS) ⟨h1,g1,show Value.bool (iW p q)≠Value.notImplemented∧Q (.bool (iW p q)) s from⟨(fun x=>nomatch x),h⟩⟩ hu
abbrev Kw:=Int×(Int×Int)
def zP(a b:Kw):Bool:=if a.1=b.1 then iW a.2 b.2 else decide (a.1<b.1)
theorem LW{p q r:Kw}(a:zP p q=true)(b:zP q r=true):zP p r=true:=by
 unfold zP at*;by_cases h1:p.1=q.1<;>by_cases h2:q.1=r.1
 ·rw[MJ h1]at a;rw[MJ h2]at b;rw[MJ (h1.trans h2)];exact Fx a b
 ·rw[Je h2]at b;rw[Je (by rw[h1];exact h2),h1];exact b
 ·rw[Je h1]at a;rw[Je (by rw[←h2];exact h1),←h2];exact a
 ·rw[Je h1]at a;rw[Je h2]at b;have a:=of_decide_eq_true a;have b:=of_decide_eq_true b;rw[Je Hy];exact decide_eq_true Hy
theorem LX{p q:Kw}(a:zP p q=true):zP q p=false:=by
 unfold zP at*;by_cases h1:p.1=q.1
 ·rw[MJ h1]at a;rw[MJ h1.symm];exact AH a
 ·rw[Je h1]at a;rw[Je (fun z=>h1 z.symm)];have a:=of_decide_eq_true a;exact decide_eq_false Hy
theorem Ig{p q:Kw}(h:p≠q):zP p q=true∨zP q p=true:=by
 unfold zP;by_cases h1:p.1=q.1
 ·rw[MJ h1,MJ h1.symm];exact B2 fun z=>h (Prod.ext h1 z)
 ·rw[Je h1,Je (fun z=>h1 z.symm)];rcases Int.lt_or_lt_of_ne h1 with z|z
  ·exact .inl (decide_eq_true z)
  ·exact .inr (decide_eq_true z)
section
variable{prog:Program}{w:World}{A:Around}{E:Value→Shared→Prop}{s:Shared}
def wc(h:Heap)(x:Addr)(k:Kw):Prop:=∃o t y c,h.get? x=some o∧o.cls= .type "tuple"∧o.data= .seq #[.int k.1 t, .ref y] c∧rZ h y k.2
theorem Dh{x y:Addr}{p q:Int×Int}(hu:A.units+1<cLine)(hx:rZ s.heap x p)(hy:rZ s.heap y q):SeqAt.EqAt A s (.ref x) (.ref y) (decide (p=q)):=by
 obtain⟨o,t,u,n,h1,h2,h3⟩:=hx;obtain⟨o',t',u',n',g1,g2,g3⟩:=hy;by_cases e:x=y
 ·subst e;rw[h1]at g1;cases g1;rw[h3]at g3;injection g3 with g3 _;have g3:=congrArg Array.toList g3;simp at g3;have:p=q:=Prod.ext g3.1.1 g3.2.1;rw[decide_eq_true this];exact SeqAt.EqAt.same _
 ·have:=SeqAt.EqAt.of_refs e (SeqAt.RcAt.tuples (A:=A) (s:=s) (items:=#[.int p.1 t, .int p.2 u]) (items2:=#[.int q.1 t', .int q.2 u']) (e:=fun j=>if j=0 then decide (p.1=q.1)else decide (p.2=q.2)) ⟨o,h1,h2,n,h3⟩ ⟨o',g1,g2,n',g3⟩ Hy fun j h1 h2=>by
   have:j=0∨j=1:=by simp at h1;lia
   rcases this with rfl|rfl
   ·exact O5
   ·exact O5)
  have e2:((ZR (min #[Value.int p.1 t, .int p.2 u].size #[Value.int q.1 t', .int q.2 u'].size)).all (fun j=>if j=0 then decide (p.1=q.1)else decide (p.2=q.2))&&#[Value.int p.1 t, .int p.2 u].size==#[Value.int q.1 t', .int q.2 u'].size)=decide (p=q):=by
   simp[List.range_succ];by_cases a:p.1=q.1<;>by_cases b:p.2=q.2<;>simp[Prod.ext_iff,a,b]
  rw[e2]at this;exact this
theorem LY{x y:Addr}{p q:Kw}{C:Bool→Shared→Prop}(hu:A.units+1<cLine)(hx:wc s.heap x p)(hy:wc s.heap y q)(h:C (zP p q) s):wpAny (model prog w) A (keyLt' (tuples' true) (.ref x) (.ref y)) C E s:=by
 obtain⟨ox,t,z,n,h1,h2,h3,h4⟩:=hx;obtain⟨oy,t',z',n',g1,g2,g3,g4⟩:=hy;refine kat_lt h1 h3 g1 g3 (kat_cons (O5 _ _ _ _ ?_));by_cases a:p.1=q.1
 ·rw[decide_eq_true a];refine kat_yes (kat_cons (Dh hu h4 g4 _ _ _ _ ?_));have e:zP p q=iW p.2 q.2:=MJ a;by_cases b:p.2=q.2
  ·rw[decide_eq_true b];refine kat_yes (kat_nil ?_);have:zP p q=decide (#[Value.int p.1 t, .ref z].size<#[Value.int q.1 t', .ref z'].size):=by rw[e,b];simp[iW]
   rw[this]at h;exact h
  ·rw[decide_eq_false b];rw[e]at h;exact kat_no (kat_one _ _ (AJ Hy h4 g4 h))
 ·rw[decide_eq_false a];have e:zP p q=decide (p.1<q.1):=Je a;rw[e]at h;exact kat_no (oneLt_int h)
end
theorem LZ{X:Cx}{cm:Bool}{k:Nat}{f:Addr}{fd:FuncData}{ps:List Str}{sp:Sp}{A':Around}{pins:List (Addr×Obj)}{σ:St}{H:Hp}{s:Shared}{Q:VK}{us:List Value}{vs:List V}{E:Value→Shared→Prop}
  (F:a7 X.prog X.w X.K X.mg X.base (cX X.prog X.w) cm k f fd ps sp) (hr:eO cm k A') (hf:A'.frames=X.A.frames) (hb:Binds X.K fd ps []) (I:Inv X pins σ H s) (r:Vals vs us) (h:sp vs H Q E0):
  wpAny (model X.prog X.w) A' (call (.ref f) us) (EP X pins σ Q) E s:=by
 have hl:(us++[]).length=ps.length:=by rw[List.append_nil,←r.length];exact F.len _ _ _ _ h
 have MZ:=hb s us I.qi hl;rw[List.append_nil]at MZ;refine wpAny_call (codeAny_mono (F.run A' X.stack s H ⟨us,[]⟩ us vs Q E0 hr {I.KL with frames:=by rw[hf];exact I.ok.frames} MZ r h) fun r s' hq=>?_);cases r with
 |error e=>obtain⟨_,_,_,_,_,_,_,_,_,_,_,_,_,h⟩:=hq;exact h.elim
 |ok fl=>
  cases fl with
  |ret u=>exact I.after hq
  |next=>exact False.elim hq
  |brk=>exact False.elim hq
  |cont=>exact False.elim hq
end L2
namespace QF
open PySem L2 PySem.Spec PyProof.Rows PySem.W PySem.Calls
def KQ(H1:Hp)(w:Kw):VK:=fun y H2=>av H1 H2∧∃k t,y= .ref k∧H2 k=some (.tup [.int w.1, .ref t])∧H2 t=some (.tup [.int w.2.1, .int w.2.2])
def kl(ws:List Kw)(i j:Nat):Bool:=zP (ws.getD i (0,(0,0))) (ws.getD j (0,(0,0)))
def Ks(H:Hp)(ws:List Kw)(as:List Addr):Prop:=∀j k,as[j]?=some k→∃t,H k=some (.tup [.int (ws.getD j (0,(0,0))).1, .ref t])∧H t=some (.tup [.int (ws.getD j (0,(0,0))).2.1, .int (ws.getD j (0,(0,0))).2.2])
theorem Ks.key{X:Cx}{pins:List (Addr×Obj)}{σ:L2.St}{H:Hp}{s:Shared}{ws:List Kw}{as:List Addr}{j:Nat}{k:Addr}(I:Inv X pins σ H s)(h:Ks H ws as)(e:as[j]?=some k):wc s.heap k (ws.getD j (0,(0,0))):=by
 obtain⟨t,h1,h2⟩:=h j k e;obtain⟨its,r,⟨o,e1,e2,n,e3⟩,_⟩:=I.tuple (xs:=[.int (ws.getD j (0,(0,0))).1, .ref t]) (.of h1);obtain⟨its',r',⟨o',g1,g2,n',g3⟩,_⟩:=I.tuple (xs:=[.int (ws.getD j (0,(0,0))).2.1, .int (ws.getD j (0,(0,0))).2.2]) (.of h2);cases r with
 |cons a b=>cases b with
  |cons c d=>
   cases d;obtain⟨ta,rfl⟩:=a;cases c;cases r' with
   |cons a' b'=>cases b' with
    |cons c' d'=>
     cases d';obtain⟨X0,rfl⟩:=a';obtain⟨X1,rfl⟩:=c';exact⟨o,ta,t,n,e1,e2,e3,o',X0,X1,n',g1,g2,g3⟩
theorem zg{h:Heap}:∀{its:List Value},(∀v∈its,∃x p,v= .ref x∧wc h x p)→∃fs,KatTups h its fs∧fs.length=its.length∧∀f∈fs,∃i t,f=Value.int i t
 |[],_=>⟨[], .nil,rfl,fun f hf=>by cases hf⟩
 |v::r,hv=>by
  obtain⟨x,p,rfl,o,t,u,n,h1,h2,h3,_⟩:=hv v (List.mem_cons_self ..);obtain⟨fs,k1,k2,k3⟩:=zg (its:=r) fun v N3=>hv v (Θ N3)
  refine⟨.int p.1 t::fs, .cons h1 h2 h3 rfl k1,by simp[k2],fun f hf=>?_⟩;rcases List.mem_cons.mp hf with rfl|hf
  ·exact⟨_,_,rfl⟩
  ·exact k3 f hf
theorem FA{prog:Program}{w:World}{A:Around}{E:Value→Shared→Prop}{s:Shared}{its:List Value}{Q:SortKind→Shared→Prop}(eQ:0<its.length)(hv:∀v∈its,∃x p,v= .ref x∧wc s.heap x p)(h:Q (tuples' true) s):wpAny (model prog w) A (keyKind' its.toArray) Q E s:=by
 obtain⟨fs,k1,k2,k3⟩:=zg hv;refine kat_kind (T:= .type "int") k1 Hy (fun v hv=>?_) (WV) h;obtain⟨i,t,rfl⟩:=k3 v hv;exact .now
section
variable{X:Cx}{cm:Bool}{k:Nat}{f:Addr}{fd:FuncData}{ps:List Str}{sp:Sp}{A':Around}{pins:List (Addr×Obj)}{σ:L2.St}{H:Hp}{s:Shared}{E:Value→Shared→Prop}{a kS:Addr}{vs:List Value}{xs:List V}{ws:List Kw}{e1:Nat}{P:PySem.Fin→Shared→Prop}
theorem FC(hu:A'.units+1<cLine)(I:Inv X pins σ H s){kA:Array Value}{e:Nat}{as:List Addr}(hk:s.heap.get? kS=some (seqObj "list" kA e))(ha:s.heap.get? a=some (seqObj "list" #[] e1))(fk:iu X pins H kS)(fa:iu X pins H a)(eQ:kS≠a)
  (ek:kA.toList=as.map Value.ref) (el:as.length=vs.length) (K:Ks H ws as) (r:Vals xs vs) (hlen:ws.length=vs.length) (nd:ws.Nodup) (Fw:vs.length<10000)
  (h:∀p s',yw vs.length p→Sd (kl ws) p vs.length→Inv X pins σ (upd H a (.lst (p.toList.map fun i=>xs.getD i .cL))) s'→P (.done (.ret .none)) s'):
  wpAny (model X.prog X.w) A' (ksk_end a false vs.toArray e1 (.ref kS) kA) P E s:=by
 have X2:kA=(as.map Value.ref).toArray:=by apply Array.toList_inj.mp;simpa using ek
 subst X2;have hl:(as.map Value.ref).length=vs.length:=by rw[List.length_map];exact el
 have key:∀i,i<vs.length→∃x,(as.map Value.ref).getD i Value.none= .ref x∧wc s.heap x (ws.getD i (0,(0,0))):=fun i hi=>by
  have hx:as[i]?=some as[i]:=Χ Hy;exact⟨as[i],by simp[show i<as.length by lia],K.key I hx⟩
 have L:Ay vs.length (kl ws):=by
  refine⟨fun i j k _ _ _ a b=>LW a b,fun i j _ _ a=>LX a,fun i j hi hj eQ=>Ig fun e=>eQ ?_⟩;have e:ws[i]?=ws[j]?:=by
   rw[Χ Hy,Χ Hy];simpa[show i<ws.length by lia,show j<ws.length by lia]using e
  exact(List.getElem?_inj Hy nd).mp e
 have tail:∀(st:SortSt)(p:Array Nat),yw vs.length p→Sd (kl ws) p vs.length→(Wu st).map (·.2)=List.toArray (p.toList.map fun i=>vs.getD i Value.none)→failedOf st=none→wpAny (model X.prog X.w) A' (ksk_tail a false e1 (.ref kS) st) P E s:=fun st p hp hs hm hf=>by
  have hsz:(List.toArray (p.toList.map fun i=>vs.getD i Value.none)).size=vs.length:=by rw[List.size_toArray,List.length_map,Array.length_toList,hp.size]
  have s1:=Heap.SameBut.update s.heap kS (Obj.mapSeq fun _=>(#[]:Array Value));have AE:(η kS).get? a=some (seqObj "list" #[] e1):=(s1.2 a (Ne.symm eQ)).trans ha;have s2:=Heap.SameBut.update (η kS) a (Obj.mapSeq fun _=>List.toArray (p.toList.map fun i=>vs.getD i Value.none));obtain⟨c2,uP⟩:∃c2,((η kS).update a (Obj.mapSeq fun _=>List.toArray (p.toList.map fun i=>vs.getD i Value.none))).get? a=some (seqObj "list" (List.toArray (p.toList.map fun i=>vs.getD i Value.none)) c2):=⟨_,get?_update_seq AE fun _=>List.toArray (p.toList.map fun i=>vs.getD i Value.none)⟩
  unfold ksk_tail
  try dsimp only
  simp only[Bool.false_eq_true,if_false];rw[hm];refine wpAny_bind (listUpdate_at hk rfl (ZN (wpAny_letGo ?_)) (by rw[List.size_toArray,hl,sizeLine_eq];lia) (Nat.zero_le _));refine wpAny_bind (seqEpoch_at (s:={s with heap:=η kS}) AE rfl (ZN (listUpdate_at (s:={s with heap:=η kS}) AE rfl ?_ (Nat.zero_le _) (Nat.le_trans (Nat.le_of_eq hsz) (by rw[sizeLine_eq];lia)))));rw[hf];simp only[bne_self_eq_false,Bool.false_eq_true,if_false];have hr:=r.length;have mem:∀i∈p.toList,i<vs.length:=fun i hi=>by
   have:=hp.mem_iff.mp hi;simpa using this
  have rel:Vals (p.toList.map fun i=>xs.getD i .cL) (p.toList.map fun i=>vs.getD i Value.none):=zf fun i hi=>by
   have hi:=mem i hi;obtain⟨v,h1,h2⟩:=r.get (i:=i) (x:=xs[i]) (by simp[show i<xs.length by lia]);have e1:xs.getD i .cL=xs[i]:=by simp[show i<xs.length by lia]
   have e2:vs.getD i .none=v:=by simp[h1]
   rw[e1,e2];exact h2
  refine wpAny_pure (h p _ hp hs (I.BJ (t':=s.toks) (fp:=[kS,a]) (fun b hb=>?_) fa (fun b o hb e=>?_) ⟨by rw[List.length_map,Array.length_toList,hp.size,sizeLine_eq];lia,_,c2,rel,uP⟩))
  ·simp only[List.mem_cons,List.mem_singleton,List.not_mem_nil,or_false]at hb;rcases hb with rfl|rfl
   ·exact fk
   ·exact fa
  ·simp only[List.mem_cons,List.not_mem_nil,or_false,not_or]at hb;exact(s2.2 b hb.2).trans ((s1.2 b hb.1).trans e)
 unfold ksk_end
 try dsimp only
 simp only[Bool.false_eq_true,if_false];by_cases h2:2≤vs.length
 ·have yr:¬vs.toArray.size<2:=by rw[List.size_toArray];lia
  rw[Je yr,Je yr];refine wpAny_bind (wpAny_mono (FA (Q:=fun Q0 s'=>Q0=tuples' true∧s'=s) (E:=E) (its:=as.map Value.ref) (by lia) (fun v hv=>?_) ⟨rfl,rfl⟩) ?_ fun _ _ x=>x)
  ·obtain⟨i,hi,rfl⟩:=List.mem_iff_getElem.mp hv;obtain⟨x,h3,h5⟩:=key i Hy;exact⟨x,_,by rw[←h3];simp[show i<as.length by simpa using hi],h5⟩
  rintro Q0 s0 ⟨X3,Q2⟩;rw[X3,Q2];have O7:(as.map Value.ref).Nodup:=by
   refine List.pairwise_iff_getElem.mpr fun i j hi hj uQ e=>?_
   have BB:i<as.length:=by simpa using hi
   have DS:j<as.length:=by simpa using hj
   have e:as[i]=as[j]:=by simpa using e
   obtain⟨t1,a1,a2⟩:=K i as[i] (Χ BB);obtain⟨t2,b1,b2⟩:=K j as[j] (Χ DS);rw[←e,a1]at b1;have h1:=HO.tup.inj (ZO b1);simp only[List.cons.injEq,V.int.injEq,V.ref.injEq,and_true]at h1;rw[←h1.2,a2]at b2;have h2:=HO.tup.inj (ZO b2);simp only[List.cons.injEq,V.int.injEq,and_true]at h2;have e9:ws.getD i (0,(0,0))=ws.getD j (0,(0,0)):=Prod.ext h1.1 (Prod.ext h2.1 h2.2);have g1:ws[i]?=some (ws.getD i (0,(0,0))):=by simp[show i<ws.length by lia]
   have g2:ws[j]?=some (ws.getD j (0,(0,0))):=by simp[show j<ws.length by lia]
   have:=(List.getElem?_inj Hy nd).mp (g1.trans (by rw[e9];exact g2.symm))
   lia
  refine wpAny_bind (wpAny_mono (B1 (lt:=kl ws) hl Hy L O7 fun i j hi hj C hC=>?_) ?_ fun _ _ e=>e)
  ·obtain⟨x,h3,h5⟩:=key i hi;obtain⟨y,g3,g5⟩:=key j hj;rw[h3,g3];exact LY hu h5 g5 hC
  rintro⟨⟨⟩,aT⟩ s' ⟨p,T8,hp,hs,TX,hf⟩;rw[T8];exact tail aT p hp hs (kat_snds hl TX) hf
 ·have yr:vs.toArray.size<2:=by rw[List.size_toArray];lia
  rw[MJ yr,MJ yr];refine wpAny_bind (ZF (ZN (ZF ?_)));have hp:yw vs.length (List.toArray (ZR vs.length)):=by unfold yw;simp
  refine tail _ _ hp (fun i j uQ hj=>by lia) ?_ rfl;show((as.map Value.ref).toArray.zip vs.toArray).map (·.2)=_;apply Array.toList_inj.mp;rw[Array.toList_map,Array.toList_zip];refine(List.map_snd_zip (by simp;lia)).trans ?_
  match vs,h2 with
  |[],_=>rfl
  |[x],_=>rfl
  |x::y::r,h=>simp at h
theorem Di(F:a7 X.prog X.w X.K X.mg X.base (cX X.prog X.w) cm k f fd ps sp)(hr:eO cm k A')(hf:A'.frames=X.A.frames)(hb:Binds X.K fd ps [])(hu:A'.units+1<cLine)(I:Inv X pins σ H s)(hk:s.heap.get? kS=some (seqObj "list" #[] 0))(ha:s.heap.get? a=some (seqObj "list" #[] e1))
  (fk:iu X pins H kS) (fa:iu X pins H a) (eQ:kS≠a) (r:Vals xs vs) (hlen:ws.length=vs.length) (nd:ws.Nodup) (Fw:vs.length<10000)
  (oB:∀i v H1,xs[i]?=some v→av H H1→sp [v] H1 (KQ H1 (ws.getD i (0,(0,0)))) E0)
  (h:∀p H' s',yw vs.length p→Sd (kl ws) p vs.length→av H H'→H' a=none→Inv X pins σ (upd H' a (.lst (p.toList.map fun i=>xs.getD i .cL))) s'→P (.done (.ret .none)) s'):
  wpAny (model X.prog X.w) A' (ksk_rest a (.ref f) false vs.toArray e1 (.ref kS)) P E s:=by
 have M6:=r.length;unfold ksk_rest;refine wpAny_bind (wpAny_rule ?_);first
  |rw[List.forIn_toArray]
  |(rw[←Array.forIn_toList];simp only[List.toList_toArray])
 refine wpAny_bind (ksk_fold (fun i s'=>∃(H':Hp)(as:List Addr)(e:Nat),Inv X pins σ H' s'∧av H H'∧s'.heap.get? kS=some (seqObj "list" (as.map Value.ref).toArray e)∧s'.heap.get? a=some (seqObj "list" #[] e1)∧iu X pins H' kS∧iu X pins H' a∧as.length=i∧Ks H' ws as) vs 0 s
  ⟨H,[],0,I,fun _ _ z=>z,hk,ha,fk,fa,rfl,fun j k e=>by simp at e⟩ ?_ ?_)
 ·rintro j x s' hx ⟨H',as,e,I',sm,E2,O8,Q3,O9,el,K⟩;simp only[Nat.zero_add]at el⊢;have hj:j<vs.length:=(YG hx).1;obtain⟨u,VI,Q4⟩:=r.get (i:=j) (x:=xs[j]) (by simp[show j<xs.length by lia]);rw[hx]at VI;cases VI;have Ip:=I'.pinned (fp:=[kS,a]) (fun b hb=>by
   simp only[List.mem_cons,List.not_mem_nil,or_false]at hb;rcases hb with rfl|rfl
   ·exact Q3
   ·exact O9) (fun b hb=>by
   simp only[List.mem_cons,List.not_mem_nil,or_false]at hb;rcases hb with rfl|rfl
   ·exact⟨_,E2,fun v z=>nomatch z⟩
   ·exact⟨_,O8,fun v z=>nomatch z⟩)
  refine wpAny_bind (wpAny_attempt (wpAny_mono (LZ F hr hf hb Ip (.cons Q4 .nil) (oB j xs[j] H' (by simp[show j<xs.length by lia]) sm)) (fun v wM he=>?_) fun _ _ z=>z));obtain⟨y,H2,I2,ry,T9,kk,t,rfl,k1,k2⟩:=he;cases ry;dsimp only;have pk:=I2.pin (kS,_) (Δ (Δ (gO Vs E2)));have pa:=I2.pin (a,_) (Δ (Δ (gO Vs O8)));have I3:=I2.lH;have s1:=Heap.SameBut.update wM.heap kS (Obj.mapSeq (·.push (.ref kk)));obtain⟨c2,uP⟩:∃c2,(wM.heap.update kS (Obj.mapSeq (·.push (.ref kk)))).get? kS=some (seqObj "list" ((as.map Value.ref).toArray.push (.ref kk)) c2):=⟨_,get?_update_seq pk.1 (·.push (.ref kk))⟩
  refine wpAny_bind (listUpdate_at pk.1 rfl ?_ (by simp;rw[sizeLine_eq];lia) (by simp;rw[sizeLine_eq];lia));have M8:iu X pins H2 kS:=⟨pk.2.1,Q3.2⟩
  have X4:iu X pins H2 a:=⟨pa.2.1,O9.2⟩
  refine wpAny_pure ⟨rfl,H2,as++[kk],c2,I3.turned (t':=wM.toks) (it:=kS) (fun b o hb e=>(s1.2 b hb).trans e) M8.1 M8.2.1 M8.2.2.2.1 M8.2.2.2.2.1 M8.2.2.2.2.2,fun b o z=>T9 b o (sm b o z),?_,(s1.2 a (Ne.symm eQ)).trans pa.1,M8,X4,by simp[el],fun i k ei=>?_⟩
  ·show(wM.heap.update kS (Obj.mapSeq (·.push (.ref kk)))).get? kS=_;rw[uP]
   congr 2
   simp
  ·by_cases hi:i<as.length
   ·rw[ZZ hi]at ei;obtain⟨t',g1,g2⟩:=K i k ei;exact⟨t',T9 _ _ g1,T9 _ _ g2⟩
   ·rw[Α Hy]at ei;have X5:i-as.length=0:=by
     have:=(YG ei).1;simp at this
     lia
    rw[X5]at ei;have:kk=k:=by simpa using ei
    subst this;have:i=j:=by lia
    subst this;exact⟨t,k1,k2⟩
 ·rintro s' ⟨H',as,e,I',sm,E2,O8,Q3,O9,el,K⟩;refine wpAny_bind (listItems_at E2 rfl ?_);exact FC hu I' E2 O8 Q3 O9 eQ Vs (by lia) K r hlen nd Fw fun p s2 hp hs I2=>h p H' s2 hp hs sm O9.1 I2
theorem Dj{n:Nat}(F:a7 X.prog X.w X.K X.mg X.base (cX X.prog X.w) cm k f fd ps sp)(hr:eO cm k A')(hf:A'.frames=X.A.frames)(hb:Binds X.K fd ps [])(hu:A'.units+1<cLine)(I:Inv X pins σ H s)(ho:s.heap.get? a=some (seqObj "list" vs.toArray n))
  (fa:iu X pins H a) (r:Vals xs vs) (hlen:ws.length=vs.length) (nd:ws.Nodup) (Fw:vs.length<10000)
  (oB:∀i v H1,xs[i]?=some v→av H H1→sp [v] H1 (KQ H1 (ws.getD i (0,(0,0)))) E0)
  (h:∀p H' s',yw vs.length p→Sd (kl ws) p vs.length→av H H'→H' a=none→Inv X pins σ (upd H' a (.lst (p.toList.map fun i=>xs.getD i .cL))) s'→P (.done (.ret .none)) s'):
  wpAny (model X.prog X.w) A' (ksk_tree a (.ref f) false) P E s:=by
 have s1:=Heap.SameBut.update s.heap a (Obj.mapSeq fun _=>(#[]:Array Value));obtain⟨e1,Ic⟩:∃e1,(η a).get? a=some (seqObj "list" #[] e1):=⟨_,get?_update_seq ho fun _=>#[]⟩
 have I1:Inv X pins σ H {s with heap:=η a}:=I.turned (t':=s.toks) (it:=a) (fun b o hb e=>(s1.2 b hb).trans e) fa.1 fa.2.1 fa.2.2.2.1 fa.2.2.2.2.1 fa.2.2.2.2.2;unfold ksk_tree;refine wpAny_bind (listItems_at ho rfl (ZN (listUpdate_at ho rfl ?_ (by rw[List.size_toArray,sizeLine_eq];lia) (Nat.zero_le _))));refine wpAny_bind (χ Ic);have I2:Inv X pins σ H {s with heap:=(η a).push (seqObj "tuple" vs.toArray 0)}:=I1.kept (t':=s.toks) fun b o e=>ZU e
 have I3:Inv X pins σ H {s with heap:=((η a).push (seqObj "tuple" vs.toArray 0)).push (seqObj "list" #[] 0)}:=I2.kept (t':=s.toks) fun b o e=>ZU e
 have fk:=I2.uU ZT (I2.bX.fresh ZT);have yu:=Heap.get?_push_of_some (seqObj "tuple" vs.toArray 0) Ic;exact Di F hr hf hb hu I3 (Heap.get?_push_size _ rfl) (ZU yu) fk fa (Nat.ne_of_gt (ZS yu)) r hlen nd Fw oB h
theorem AK{l:Addr}{Q:VK}(F:a7 X.prog X.w X.K X.mg X.base (cX X.prog X.w) cm k f fd ps sp)(hr:eO cm (k+1) X.A)(hb:Binds X.K fd ps [])(I:Inv X pins σ H s)(hq:ir X.K H l xs)(hlen:ws.length=xs.length)(nd:ws.Nodup)(Fw:xs.length<10000)
  (oB:∀i v H1,xs[i]?=some v→av H H1→sp [v] H1 (KQ H1 (ws.getD i (0,(0,0)))) E0)
  (h:∀p H' D,yw xs.length p→Sd (kl ws) p xs.length→av H H'→H D=none→H' D=none→Q (.ref D) (upd H' D (.lst (p.toList.map fun i=>xs.getD i .cL)))):
  wpAny (model X.prog X.w) X.A (call (.builtin "sorted") [.ref l] [(Str.ofString "key", .ref f)]) (EP X pins σ Q) E s:=by
 obtain⟨vs,r,pl,hz⟩:=I.list hq;have M6:=r.length;refine call_function_entry_kw kind_sorted plain_sorted entry_sorted (ksk_s1 _ _) ?_;unfold Builtin.«sorted»;refine wpAny_bind (m:=checkCount "sorted" 1 1 _) (ZF (ZN (collect_list pl.isList (ZN (wpAny_newList ?_ (by rw[sizeLine_eq];lia))) (by rw[sizeLine_eq];lia))));generalize hh:((s.heap.push (seqObj "list" #[] 0)).update s.heap.objs.size (Obj.mapSeq (·++vs.toArray)))=h1;have hsz:h1.objs.size=s.heap.objs.size+1:=by rw[←hh,Heap.size_update,size_push']
 have keep:∀b o,s.heap.get? b=some o→(h1.push (seqObj "list" vs.toArray 0)).get? b=some o:=fun b o q=>by
  have ic:b<s.heap.objs.size:=ZS q;rw[Heap.get?_push_ne _ _ _ (by rw[hsz];exact Nat.ne_of_lt (Nat.lt_succ_of_lt ic)),←hh,Heap.get?_update_ne _ _ _ _ (Nat.ne_of_lt ic),Heap.get?_push_ne _ _ _ (Nat.ne_of_lt ic)];exact q
 have I_:(h1.push (seqObj "list" vs.toArray 0)).get? h1.objs.size=some (seqObj "list" vs.toArray 0):=Heap.get?_push_size _ rfl;have hD:s.heap.objs.size≤h1.objs.size:=by rw[hsz];exact Nat.le_succ _
 have VJ:H h1.objs.size=none:=I.bX.fresh hD;have I1:Inv X pins σ H {s with heap:=h1.push (seqObj "list" vs.toArray 0)}:=I.kept (t':=s.toks) keep;show wpAny _ _ _ _ _ {s with heap:=h1.push (seqObj "list" vs.toArray 0)};refine wpAny_bind (wpAny_holding (wpAny_call_entry_kw slot_list_sort ⟨_,I_,rfl⟩ entry_list_sort ?_ (ksk_l1 _ _)));show wpAny (model X.prog X.w) X.A.in1.in1 (Builtin.«list.sort» ⟨[.ref h1.objs.size],[(Str.ofString "key", .ref f)]⟩) _ _ _;rw[ksk_t1];have un:=hr.un;refine Dj F ⟨hr.hd,by have:=hr.dp;show X.A.depth+3*k+5<_;lia,by show X.A.units+1+1+16*k+200<_;lia⟩ rfl hb (by show X.A.units+1+1+1<_;lia) I1 I_ (I.uU hD VJ) r Hy nd Hy oB fun p H' s' hp hs sm hn I'=>⟨_,rfl,ZF ⟨_,rfl, .ref h1.objs.size,_,I',rfl,?_⟩⟩
 rw[←M6]at hp hs;exact h p H' _ hp hs sm VJ hn
end
inductive FG(K:Frag)(sp:Sp)(x:V)(H:Hp)(Q:VK):Prop
 |mk (l:Addr) (xs:List V) (ws:List Kw) (_:x= .ref l) (_:ir K H l xs) (_:ws.length=xs.length) (_:ws.Nodup) (_:xs.length<10000) (_:∀i v H1,xs[i]?=some v→av H H1→sp [v] H1 (KQ H1 (ws.getD i (0,(0,0)))) E0)
  (_:∀p H' D,yw xs.length p→Sd (kl ws) p xs.length→av H H'→H D=none→H' D=none→Q (.ref D) (upd H' D (.lst (p.toList.map fun i=>xs.getD i .cL)))):FG K sp x H Q
def L0(K:Frag)(sp:Sp)(ta:TE):TE:=fun σ H Q=>ta σ H fun x H1=>FG K sp x H1 Q
theorem FH{X:Cx}(K:Frag){cm:Bool}{k:Nat}{x:Str}{ps:List Str}{sp:Sp}{e:Expr}{ta:TE}{p pos kp fp:Pos}(D:bK X.prog X.w X.K X.mg X.base cm k x ps sp)(hr:eO cm (k+1) X.A)(he:PE X e ta)(hg:Gl X "sorted")(hm:X.mg "sorted"=none)
  (X6:Gl X x:=by rfl) (wL:(x==("__debug__":Str))=false:=by decide) (hs:starEach [e] X.env=[(false,eval e X.env)]:=by rfl) (hK:X.K=K:=by rfl):
  PE X (.Call (.Name "sorted" p) [e] [⟨some "key", .Name x fp,kp⟩] pos) (L0 K sp ta):=by
 subst hK;obtain⟨f,fd,ok,X7,hk,hb⟩:=D;intro pins s σ H Q I h;refine wpAny_Call_Name_kw (lF I hg hm (PyProof.Rows.Boot.«sorted») ?_ (WV) (WV));rw[hs];refine callWith_builtin_kwB (first:=[]) rfl rfl (evalArgs_kwB rfl ?_);refine Calls.spliced_cons ?_;show wpAny _ _ (eval e X.env) _ _ s;refine cJ (he pins s σ H _ I h) fun v s1 ⟨y,H1,I1,r1,q1⟩=>Calls.spliced_nil ?_
 obtain⟨l,xs,ws,rfl,hq,hlen,nd,Fw,oB,q⟩:=q1;cases r1;refine kws_cons ?_;show wpAny _ _ (eval (.Name x fp) X.env) _ _ s1;refine cJ (Bk (v:= .ref f) X6 X7 rfl wL pins s1 σ H1 (fun y H2=>y= .ref f∧H2=H1) I1 ⟨rfl,rfl⟩) fun u s2 ⟨y,H2,I2,r2,e1,e2⟩=>?_
 subst e1 e2;cases r2;refine kws_nil ?_;exact AK ok hr hb I2 hq hlen nd Fw oB q
end QF
namespace L2
open PySem PySem.Spec PyProof.Rows PySem.W PySem.Calls
def M9(hi:Int)(n:Nat):It:=⟨fun i _=>i<n,fun i H x H'=>H'=H∧x= .int (hi-i),fun i _=>n≤i⟩
theorem Dk{P:Program}{w:World}{K:PySem.W.Frag}{tg:Expr}(it:Addr)(hi:Int)(n:Nat):Turn P w K tg (M9 hi n) [it] it (fun i h=>IsRangeIter h it (hi+(i:Nat)*(-1)) ((n:Int)-(i:Nat)) (-1)) where
 mem:=XC
 obj:=fun i h st b hb=>by
  have e:b=it:=by simpa using hb
  subst e;exact⟨_,st,fun v z=>by
   have z':Data.fields _=Data.cell v:=z;cases z'⟩
 keep:=fun i h h' st k=>k it (XC) _ st
 item:=by
  intro X hP hw hK hc i pins s σ H E I hf st hg;subst hP hw hK;obtain⟨f0,f1,f2,f3,f4,f5⟩:=hf it (XC);have W:=Walks.range (prog:=X.prog) (w:=X.w) (I.ok.hd hc) it hi (-1) n;refine W.item i s _ _ hg st fun v h' tk hv aT kk=>?_
  obtain⟨t,rfl⟩:=hv;have I1:Inv X pins σ H {s with heap:=h',toks:=tk}:=I.turned (fun b o hb e=>kk b o (by simpa using hb) e) f0 f1 f3 f4 f5;refine⟨_,rfl,yH (s:={s with heap:=h',toks:=tk}) (n:="range_iterator") aT rfl rfl (WV) ⟨.int (hi-i),H,I1,⟨t,?_⟩,⟨rfl,rfl⟩,aT,fun b hb=>(hf b hb).1⟩⟩
  congr 1
  lia
 done:=by
  intro X hP hw hK hc i pins s σ H E I hf st hg;subst hP hw hK;obtain⟨f0,f1,f2,f3,f4,f5⟩:=hf it (XC);exact wpAny_pyNext_range_end (I.ok.hd hc) st (by have:n≤i:=hg;lia) fun h' eb=>⟨rfl,I.turned (t':=s.toks) (fun b o hb e=>eb b o hb e) f0 f1 f3 f4 f5⟩
 self:=fun _ _ _ _ _ st h=>wpAny_pyIter_rangeiter st h
theorem rangeSize_down(a b:Int):Builtin.Range.rangeSize a b (-1)=if a>b then a-b else 0:=by
 unfold Builtin.Range.rangeSize;rw[if_neg (WV)];split<;>simp
theorem small_down{a b:Int}(ha:-(2^62)≤a)(O8:a<2^62)(hb:-(2^62)≤b)(MZ:b<2^62):Builtin.Range.small a b (-1)=true:=by
 unfold Builtin.Range.small;rw[rangeSize_down];simp only[Builtin.Range.rangeFitsLong,Bool.and_eq_true,Bool.or_eq_true,decide_eq_true_eq,beq_iff_eq,show ¬(-1:Int)>0 by decide,if_false];split<;>lia
section
variable{X:Cx}{tg:Expr}
theorem Ih{pins:List (Addr×Obj)}{σ:L2.St}{H:Hp}{s:Shared}{R:It→Hp→Prop}{E:Value→Shared→Prop}{hi lo:Int}{t u v:Tok}{tk:Nat}(I:Inv X pins σ H s)(h1:-(2^62)≤hi)(h2:hi<2^62)(h3:-(2^62)≤lo)(h4:lo<2^62)
  (q:R (M9 hi (hi-lo).toNat) H):wpAny (model X.prog X.w) X.A (pyIter (.ref s.heap.objs.size)) (R5 X pins σ tg R) E {s with heap:=s.heap.push {cls:= .type "range",data:= .fields #[.int hi t, .int lo u, .int (-1) v]},toks:=tk}:=by
 refine wpAny_pyIter_range (IsRange.new ..) (small_down h1 h2 h3 h4) ?_;have I1:Inv X pins σ H {s with heap:=s.heap.push {cls:= .type "range",data:= .fields #[.int hi t, .int lo u, .int (-1) v]},toks:=tk}:=I.kept fun b o e=>ZU e
 refine⟨(s.heap.push {cls:= .type "range",data:= .fields #[.int hi t, .int lo u, .int (-1) v]}).objs.size,[(s.heap.push {cls:= .type "range",data:= .fields #[.int hi t, .int lo u, .int (-1) v]}).objs.size],_,_,H,rfl,
  I1.kept (t':=tk) fun b o e=>ZU e,Dk _ hi (hi-lo).toNat,?_,fun b hb=>?_,q⟩
 ·have e1:hi+((0:Nat):Int)*(-1)=hi:=XC;have e2:(((hi-lo).toNat:Nat):Int)-((0:Nat):Int)=Builtin.Range.rangeSize hi lo (-1):=by rw[rangeSize_down];split<;>lia
  show IsRangeIter _ _ (hi+((0:Nat):Int)*(-1)) ((((hi-lo).toNat:Nat):Int)-((0:Nat):Int)) (-1);rw[e1,e2];exact Heap.get?_push_size _ rfl
 ·have e:b=(s.heap.push {cls:= .type "range",data:= .fields #[.int hi t, .int lo u, .int (-1) v]}).objs.size:=by simpa using hb
  subst e;exact I1.uU ZT (I1.bX.fresh ZT)
def O_(ta:TA):TI:=fun σ H R=>ta σ H fun vs H1=>∃i j:Int,vs=[.int i, .int j, .int (-1)]∧(-(2^30)≤i∧i<2^30∧-(2^30)≤j∧j<2^30)∧R (M9 i (i-j).toNat) H1
theorem we{a b c:Expr}{ta:TA}{p pos:Pos}(hg:Gl X "range")(hm:X.mg "range"=none)(ha:PA X [a,b,c] ta)(hs:starEach [a,b,c] X.env=[(false,eval a X.env),(false,eval b X.env),(false,eval c X.env)]:=by rfl)(KH:starEach [b,c] X.env=[(false,eval b X.env),(false,eval c X.env)]:=by rfl):
  PI X tg (.Call (.Name "range" p) [a,b,c] [] pos) (O_ ta):=by
 intro pins s σ H R I h;refine Call_ (lF I hg hm boot_range (PyProof.Rows.callWith_type1 (cJ (ha pos pins s σ H _ I h) fun us s1 ⟨vs,H1,I1,r1,q1⟩=>?_) (by rw[hs,KH]) (by rw[KH];rfl)));obtain⟨i,j,e,⟨q1,q2,q3,q4⟩,q⟩:=q1;subst e;cases r1 with
 |cons r rr=>
  cases rr with
  |cons r' rr=>
   cases rr with
   |cons r2 rr=>
    cases rr;obtain⟨t,rfl⟩:=r;obtain⟨t',rfl⟩:=r';obtain⟨t2,rfl⟩:=r2;exact call_range_3 (WV) (Ih I1 Hy (by lia) (by lia) (by lia) q) (Or.inl (PyProof.noPylong_small Hy))
theorem zh{hi:Int}{n:Nat}{g:TG}{tb:TS}{D:Ends}{σ:L2.St}{H:Hp}(Pv:Nat→L2.St→Hp→Prop)(h0:Pv 0 σ H)
  (hs:∀i σ H,i<n→Pv i σ H→g (.int (hi-i)) σ H fun fG H2=>tb {D with nx:=Pv (i+1),ct:=Pv (i+1),bk:=D.nx} fG H2) (hd:∀σ H,Pv n σ H→D.nx σ H):
  ∃W:Nat→Nat→L2.St→Hp→Prop,(∃m,W 0 m σ H)∧∀i m σ H,W i m σ H→
   ((M9 hi n).stop i H∧D.nx σ H)∨((M9 hi n).go i H∧∃N:L2.St→Hp→Prop,(∀bB H',N bB H'→∃m',m'<m∧W (i+1) m' bB H')∧∀x H',(M9 hi n).GY i H x H'→g x σ H' fun fG H2=>tb {D with nx:=N,ct:=N,bk:=D.nx} fG H2):=by
 refine⟨fun i m σ H=>m=n-i∧i≤n∧Pv i σ H,⟨n,XC,Nat.zero_le _,h0⟩,?_⟩;rintro i m σ H ⟨rfl,BB,p⟩;by_cases ic:i<n
 ·refine .inr ⟨ic,Pv (i+1),fun bB H' p'=>⟨n-(i+1),by lia,rfl,ic,p'⟩,fun x H' y=>?_⟩;obtain⟨e,y⟩:=y;subst e y;exact hs i σ _ ic p
 ·have e:i=n:=by lia
  subst e;exact .inl ⟨Nat.le_refl _,hd σ H p⟩
end
theorem Dm{d:Addr}{o:Obj}{kvs:List (List Key×V)}{ls:List Str}{js:List Nat}{g:TG}{tt:TT}{te:TE}{σ:L2.St}{H1:Hp}{D:Addr}{Q:VK}(Pv:Nat→List V→L2.St→Hp→Prop)
  (h0:Pv 0 [] (lK ls js σ) (upd H1 D (.lst []))) (hl:∀i ys σ H,i≤kvs.length→Pv i ys σ H→H d=some (.sE o (.dT kvs)))
  (hs:∀i p ys σ H,kvs[i]?=some p→Pv i ys σ H→g p.2 σ H fun fG H3=>tt fG H3 fun b H4=>if b=true then te fG H4 fun y H5=>H5 D=some (.lst ys)∧ys.length<sizeLine∧Pv (i+1) (ys++[y]) fG (upd H5 D (.lst (ys++[y])))else Pv (i+1) ys fG H4)
  (hd:∀ys σ H,Pv kvs.length ys σ H→Q (.ref D) H):tF (Tg d o kvs) ls js g tt te σ H1 D Q:=
 oM (n:=kvs.length) Pv h0 (fun i ys σ H hi p=>⟨hl i ys σ H (Nat.le_of_lt hi) p,hi⟩) (fun ys σ H p=>⟨hl _ ys σ H ZT p,Nat.le_refl _⟩)
  (fun i ys σ H x H2 hi p y=>by
   obtain⟨rfl,q,hq,rfl⟩:=y;exact hs i q ys σ _ hq p) hd
theorem FI{X:Cx}{cm:Bool}{k:Nat}{x:Str}{C:Addr}{ps:List Str}{mj:List V}{sp:Sp}{E:L2.St→XK}{p pos:Pos}(D:mW X.prog X.w X.K X.mg X.base cm k x C ps mj sp)(hr:eO cm (k+1) X.A)(hx:Passes (cX X.prog X.w) X E)(hg:Gl X x:=by rfl)(wL:(x==("__debug__":Str))=false:=by decide):
  PE X (.Call (.Name x p) [] [] pos) (Bt C sp mj E Eh):=by
 obtain⟨f,fd,ds,ok,M,hm,hb,hd⟩:=D;exact Ek M ok hr hg hm hb hd hx wL
end L2
namespace QF
open PySem L2
structure qI(H:Hp)(C x dx e b:Addr)(es bs:List Addr)(f:Nat→Nat→Option Int)(o p:Int)(n m:Nat):Prop where
 ob:H x=some (.ins C dx (gM o p e b))
 he:H e=some (.lst (es.map V.ref))
 te:i_ H es (dF f o p) n m
 hb:H b=some (.lst (bs.map V.ref))
 tb:i_ H bs (Bq f o p) (n+1) (m+1)
theorem qI.keep{H H':Hp}{C x dx e b:Addr}{es bs:List Addr}{f:Nat→Nat→Option Int}{o p:Int}{n m:Nat}(t:qI H C x dx e b es bs f o p n m)(s:av H H'):qI H' C x dx e b es bs f o p n m:=
 ⟨s _ _ t.ob,s _ _ t.he,t.te.same s,s _ _ t.hb,t.tb.same s⟩
theorem FJ(o p:Int)(e b:Addr):(gM o p e b).lookup ("goes_on":Str)=none:=by kernel_rfl
theorem B4(o p:Int)(e b:Addr):(gM o p e b).lookup ("crossings_before":Str)=none:=by kernel_rfl
theorem JK(o p:Int)(e b:Addr):(gM o p e b).lookup ("is_brought_by":Str)=none:=by kernel_rfl
theorem L1(o p:Int)(e b:Addr):(gM o p e b).lookup ("pair_before":Str)=none:=by kernel_rfl
theorem Pa(o p:Int)(e b:Addr):(gM o p e b).lookup ("way_to":Str)=none:=by kernel_rfl
def gN:Option Int→Bool
 |none=>false
 |some b=>decide (0≤b)
def bu(f:Nat→Nat→Option Int)(o p:Int)(i j:Nat):List Pr:=
 (if bC (Bq f o p i (j+1)) o=Bq f o p (i+1) (j+1)then[((i:Int),((j+1:Nat):Int))]else[])++(if bC (Bq f o p (i+1) j) p=Bq f o p (i+1) (j+1)then[(((i+1:Nat):Int),(j:Int))]else[])
def cK(f:Nat→Nat→Option Int)(o p:Int):Nat→Nat→Nat×Nat
 |0,_=>(0,0)
 | _+1,0=>(0,0)
 |i+1,j+1=>if dF f o p i j=Bq f o p (i+1) (j+1)then(i,j)else if bC (Bq f o p i (j+1)) o=Bq f o p (i+1) (j+1)then cK f o p i (j+1)else cK f o p (i+1) j
termination_by i j=>(i,j)
theorem kK(f:Nat→Nat→Option Int)(o p:Int):∀i j,0<i→0<j→(cK f o p i j).1<i∧(cK f o p i j).2<j∨Bq f o p i j=none
 |0,_,h,_=>Z1 h Hy
 | _+1,0,_,h=>Z1 h Hy
 |i+1,j+1,_,_=>by
  cases hB:Bq f o p (i+1) (j+1)with
  |none=>exact .inr rfl
  |some v=>
   left
   unfold cK;by_cases h1:dF f o p i j=Bq f o p (i+1) (j+1)
   ·rw[MJ h1];exact⟨XC,XC⟩
   ·rw[Je h1];by_cases h2:bC (Bq f o p i (j+1)) o=Bq f o p (i+1) (j+1)
    ·rw[MJ h2];have hn:Bq f o p i (j+1)≠none:=fun z=>by rw[z,hB]at h2;simp[bC]at h2
     have hi:0<i:=by
      cases i with
      |zero=>exact Z1 (iI f o p (j+1)) hn
      |succ i=>lia
     rcases kK f o p i (j+1) hi Hy with z|z
     ·exact⟨by lia,z.2⟩
     ·exact Z1 z hn
    ·rw[Je h2];have hn:Bq f o p (i+1) j≠none:=fun z=>by
      have e:Bq f o p (i+1) (j+1)=oQ [dF f o p i j,bC (Bq f o p i (j+1)) o,bC (Bq f o p (i+1) j) p]:=by
       rw[Bq];rfl
      rw[z]at e;have:bC none p=(none:Option Int):=rfl;rw[this]at e;have key:∀a b:Option Int,oQ [a,b,none]=a∨oQ [a,b,none]=b:=fun a b=>by
       cases a<;>cases b<;>simp[oQ]
       rename_i x y
       by_cases AB:x≤y
       ·right;lia
       ·left;lia
      rcases key (dF f o p i j) (bC (Bq f o p i (j+1)) o)with k|k
      ·exact h1 (by rw[e,k])
      ·exact h2 (by rw[e,k])
     have hj:0<j:=by
      cases j with
      |zero=>exact Z1 (by unfold Bq;rfl) hn
      |succ j=>lia
     rcases kK f o p (i+1) j Hy hj with z|z
     ·exact⟨z.1,by lia⟩
     ·exact Z1 z hn
termination_by i j=>(i,j)
def eF(f:Nat→Nat→Option Int)(o p:Int):Nat→Nat→Nat→List (Nat×Nat)
 |0,i,j=>[(i,j)]
 |k+1,i,j=>if gN (Bq f o p i j)=true then eF f o p k (cK f o p i j).1 (cK f o p i j).2++[(i,j)]else[(i,j)]
def aR(q:Nat×Nat):Pr:=((q.1:Int),(q.2:Int))
inductive qJ(C CT:Addr)(vs:List V)(H:Hp)(Q:VK)(u3:XK):Prop
 |mk (x dx w t:Addr) (c:Case) (as:List Addr) (f:Nat→Nat→Option Int) (n m:Nat) (_:vs=[.ref x, .ref w, .ref t]) (_:H x=some (.ins C dx [])) (_:H dx=some (.own x)) (_:H w=some (.lst (as.map V.ref))) (_:i_ H as f n m) (_:yX H CT t c) (_:n≤1000) (_:m≤1000) (_:∀H' e b,SameBut x H H'→H' x=some (.ins C dx (gM c.out c.into e b))→Tab H H' e (dF f c.out c.into) n m→(0<n→Tab H H' b (Bq f c.out c.into) (n+1) (m+1))→Q .cL H'):qJ C CT vs H Q u3
inductive xv(C:Addr)(vs:List V)(H:Hp)(Q:VK)(u3:XK):Prop
 |mk (x dx e b:Addr) (es bs:List Addr) (f:Nat→Nat→Option Int) (o p:Int) (n m:Nat) (pr:Addr) (i j:Nat) (_:vs=[.ref x, .ref pr]) (_:qI H C x dx e b es bs f o p n m) (_:H pr=some (.tup [.int i, .int j])) (_:i≤n) (_:j≤m) (_:Q (.bl (gN (Bq f o p i j))) H):xv C vs H Q u3
inductive AL(C:Addr)(vs:List V)(H:Hp)(Q:VK)(u3:XK):Prop
 |mk (x dx e b:Addr) (es bs:List Addr) (f:Nat→Nat→Option Int) (o p:Int) (n m:Nat) (cr pr:Addr) (i j k l:Nat) (_:vs=[.ref x, .ref cr, .ref pr]) (_:qI H C x dx e b es bs f o p n m) (_:H cr=some (.tup [.int i, .int j])) (_:H pr=some (.tup [.int k, .int l])) (_:i≤n) (_:j≤m) (_:k<n) (_:l<m) (_:Q (.bl (decide (dF f o p k l=Bq f o p i j))) H):AL C vs H Q u3
inductive tS(C:Addr)(vs:List V)(H:Hp)(Q:VK)(u3:XK):Prop
 |mk (x dx e b:Addr) (es bs:List Addr) (f:Nat→Nat→Option Int) (o p:Int) (n m:Nat) (cr:Addr) (i j:Nat) (_:vs=[.ref x, .ref cr]) (_:qI H C x dx e b es bs f o p n m) (_:H cr=some (.tup [.int ((i+1:Nat):Int), .int ((j+1:Nat):Int)])) (_:i<n) (_:j<m) (_:∀H' r us,av H H'→H r=none→H' r=some (.lst us)→fT H' us (bu f o p i j)→Q (.ref r) H'):tS C vs H Q u3
inductive xw(C:Addr)(vs:List V)(H:Hp)(Q:VK)(u3:XK):Prop
 |mk (x dx e b:Addr) (es bs:List Addr) (f:Nat→Nat→Option Int) (o p:Int) (n m:Nat) (pr:Addr) (i j:Nat) (_:vs=[.ref x, .ref pr]) (_:qI H C x dx e b es bs f o p n m) (_:H pr=some (.tup [.int i, .int j])) (_:i≤n) (_:j≤m) (_:Bq f o p i j≠none) (_:∀H' r,av H H'→H' r=some (.tup (jk (aR (cK f o p i j))))→Q (.ref r) H'):xw C vs H Q u3
inductive AM(C:Addr)(vs:List V)(H:Hp)(Q:VK)(u3:XK):Prop
 |mk (x dx e b:Addr) (es bs:List Addr) (f:Nat→Nat→Option Int) (o p:Int) (n m:Nat) (pr:Addr) (i j:Nat) (_:vs=[.ref x, .ref pr]) (_:qI H C x dx e b es bs f o p n m) (_:H pr=some (.tup [.int i, .int j])) (_:i<n) (_:j<m) (_:n≤1000) (_:∀H' r us,av H H'→H r=none→H' r=some (.lst us)→fT H' us ((eF f o p i i j).map aR)→Q (.ref r) H'):AM C vs H Q u3
theorem X8(a b:Option Int):oQ [a,b,none]=a∨oQ [a,b,none]=b:=by
 cases a<;>cases b<;>simp[oQ]
 rename_i x y
 by_cases AB:x≤y
 ·right;lia
 ·left;lia
theorem zi{f:Nat→Nat→Option Int}{o p:Int}{i j:Nat}(hB:Bq f o p (i+1) (j+1)≠none)(h1:dF f o p i j≠Bq f o p (i+1) (j+1)):
  ∃i2 j2,(bu f o p i j)[0]?=some (aR (i2+1,j2+1))∧i2≤i∧j2≤j∧i2+j2<i+j∧Bq f o p (i2+1) (j2+1)≠none∧cK f o p (i2+1) (j2+1)=cK f o p (i+1) (j+1):=by
 by_cases h2:bC (Bq f o p i (j+1)) o=Bq f o p (i+1) (j+1)
 ·have hn:Bq f o p i (j+1)≠none:=fun z=>by rw[z]at h2;exact hB h2.symm
  cases i with
  |zero=>exact Z1 (iI f o p (j+1)) hn
  |succ i=>
   refine⟨i,j,?_,by lia,by lia,by lia,hn,?_⟩
   ·unfold bu;rw[MJ h2];rfl
   ·conv=>rhs;unfold cK
    rw[Je h1,MJ h2]
 ·have hn:Bq f o p (i+1) j≠none:=fun z=>by
   have e:Bq f o p (i+1) (j+1)=oQ [dF f o p i j,bC (Bq f o p i (j+1)) o,bC (Bq f o p (i+1) j) p]:=by rw[Bq];rfl
   rw[z,show bC none p=(none:Option Int)from rfl]at e;rcases X8 (dF f o p i j) (bC (Bq f o p i (j+1)) o)with k|k
   ·exact h1 (by rw[e,k])
   ·exact h2 (by rw[e,k])
  have h3:bC (Bq f o p (i+1) j) p=Bq f o p (i+1) (j+1):=by
   have e:Bq f o p (i+1) (j+1)=oQ [dF f o p i j,bC (Bq f o p i (j+1)) o,bC (Bq f o p (i+1) j) p]:=by rw[Bq];rfl
   have key:∀a b c:Option Int,oQ [a,b,c]≠a→oQ [a,b,c]≠b→c=oQ [a,b,c]:=fun a b c=>by
    cases a<;>cases b<;>cases c<;>simp[oQ]<;>lia
   rw[e];exact key _ _ _ (fun z=>h1 (by rw[e];exact z.symm)) (fun z=>h2 (by rw[e];exact z.symm))
  cases j with
  |zero=>exact Z1 (by unfold Bq;rfl) hn
  |succ j=>
   refine⟨i,j,?_,by lia,by lia,by lia,hn,?_⟩
   ·unfold bu;rw[Je h2,MJ h3];rfl
   ·conv=>rhs;unfold cK
    rw[Je h1,Je h2]
theorem j_{f:Nat→Nat→Option Int}{o p:Int}{i j:Nat}(h:gN (Bq f o p i j)=true):0<i∧0<j∧Bq f o p i j≠none:=by
 have hn:Bq f o p i j≠none:=fun z=>by rw[z]at h;cases h
 refine⟨?_,?_,hn⟩
 ·cases i with
  |zero=>exact Z1 (iI f o p j) hn
  |succ i=>lia
 ·cases j with
  |zero=>cases i with
   |zero=>exact Z1 (iI f o p 0) hn
   |succ i=>exact Z1 (by unfold Bq;rfl) hn
  |succ j=>lia
theorem gR{f:Nat→Nat→Option Int}{o p:Int}{i j:Nat}(h:¬gN (Bq f o p i j)=true):∀k,eF f o p k i j=[(i,j)]
 |0=>rfl
 |k+1=>by rw[eF,Je h]
theorem Dn(f:Nat→Nat→Option Int)(o p:Int)(i:Nat):∀k k' j,i≤k→i≤k'→eF f o p k i j=eF f o p k' i j:=by
 induction i using Nat.strongRecOn with
 |ind i ih=>
  intro k k' j h h';by_cases hg:gN (Bq f o p i j)=true
  ·obtain⟨a,b,c⟩:=j_ hg;have hl:=(kK f o p i j a b).resolve_right c;obtain⟨k,rfl⟩:∃k1,k=k1+1:=⟨k-1,by lia⟩
   obtain⟨k',rfl⟩:∃k1,k'=k1+1:=⟨k'-1,by lia⟩
   rw[eF,eF,MJ hg,MJ hg,ih _ hl.1 k k' _ (by lia) (by lia)]
  ·rw[gR hg,gR hg]
theorem wg{f:Nat→Nat→Option Int}{o p:Int}{i j:Nat}(h:gN (Bq f o p i j)=true):eF f o p i i j=eF f o p (cK f o p i j).1 (cK f o p i j).1 (cK f o p i j).2++[(i,j)]:=by
 obtain⟨a,b,c⟩:=j_ h;have hl:=(kK f o p i j a b).resolve_right c;obtain⟨i,rfl⟩:∃k1,i=k1+1:=⟨i-1,by lia⟩
 rw[eF,MJ h,Dn f o p _ i _ _ (by lia) (Nat.le_refl _)]
structure JL(K:W.Frag)(C:Addr):Prop where
 cl:wK K C
 worth:b_ K C "worth"
 way:b_ K C "way"
 row:b_ K C "row"
 pairs:b_ K C "pairs"
def m4(w:Int)(a r p:Addr):List (Str×V):=[("worth", .int w),("way", .ref a),("row", .ref r),("pairs", .ref p)]
theorem jb(w:Int)(a r p:Addr):(m4 w a r p).lookup ("worth":Str)=some (V.int w):=by kernel_rfl
theorem qK(w:Int)(a r p:Addr):(m4 w a r p).lookup ("way":Str)=some (V.ref a):=by kernel_rfl
theorem AN(w:Int)(a r p:Addr):(m4 w a r p).lookup ("row":Str)=some (V.ref r):=by kernel_rfl
theorem ik(w:Int)(a r p:Addr):(m4 w a r p).lookup ("pairs":Str)=some (V.ref p):=by kernel_rfl
theorem L3(w:Int)(a r p:Addr):bq "pairs" (.ref p) (bq "row" (.ref r) (bq "way" (.ref a) (bq "worth" (.int w) [])))=m4 w a r p:=by kernel_rfl
inductive tT(C:Addr)(vs:List V)(H:Hp)(Q:VK)(u3:XK):Prop
 |mk (x dx a r p:Addr) (w:Int) (_:vs=[.ref x, .int w, .ref a, .ref r, .ref p]) (_:H x=some (.ins C dx [])) (_:Q .cL (upd H x (.ins C dx (m4 w a r p)))):tT C vs H Q u3
inductive tU(C:Addr)(vs:List V)(H:Hp)(Q:VK)(u3:XK):Prop
 |mk (x dx a r p:Addr) (w:Int) (us:List V) (ps:List Pr) (_:vs=[.ref x]) (_:H x=some (.ins C dx (m4 w a r p))) (_:H p=some (.lst us)) (_:fT H us ps) (_:ps≠[]) (_:∀H' k t,av H H'→H' k=some (.tup [.int (-w), .ref t])→H' t=some (.tup [.int (jm ps).1, .int (jm ps).2])→Q (.ref k) H'):tU C vs H Q u3
inductive AO(C CF:Addr)(vs:List V)(H:Hp)(Q:VK)(u3:XK):Prop
 |mk (x dx e b:Addr) (es bs:List Addr) (f:Nat→Nat→Option Int) (o p:Int) (n m:Nat) (w:Int) (pr:Addr) (us:List V) (ps:List (Nat×Nat)) (q0:Nat×Nat) (_:vs=[.ref x, .int w, .ref pr]) (_:qI H C x dx e b es bs f o p n m) (_:H pr=some (.lst us)) (_:fT H us (ps.map aR)) (_:∀q∈ps,q.1<n∧q.2<m) (_:(ps.filter fun q=>decide (dF f o p q.1 q.2=some w))[0]?=some q0) (_:n≤1000) (_:ps.length≤5000)
  (_:∀H' y dy wy rw iA,av H H'→H y=none→H dy=none→H wy=none→H rw=none→H' y=some (.ins CF dy (m4 w wy rw pr))→H' dy=some (.own y)→H' wy=some (.lst iA)→fT H' iA ((eF f o p q0.1 q0.1 q0.2).map aR)→H' rw=some (.lst ((eF f o p q0.1 q0.1 q0.2).map fun q=>bD (dF f o p q.1 q.2)))→Q (.ref y) H'):AO C CF vs H Q u3
theorem B5{f:Nat→Nat→Option Int}{o p:Int}{n m:Nat}:∀k i j,i<n→j<m→∀q∈eF f o p k i j,q.1<n∧q.2<m
 |0,i,j,hi,hj,q,hq=>by
  have:q=(i,j):=by simpa[eF]using hq
  subst this;exact⟨hi,hj⟩
 |k+1,i,j,hi,hj,q,hq=>by
  by_cases h:gN (Bq f o p i j)=true
  ·rw[eF,MJ h]at hq;obtain⟨a,b,c⟩:=j_ h;have hl:=(kK f o p i j a b).resolve_right c;rcases List.mem_append.mp hq with z|z
   ·exact B5 k _ _ (by lia) (by lia) q z
   ·have:q=(i,j):=by simpa using z
    subst this;exact⟨hi,hj⟩
  ·rw[gR h]at hq;have:q=(i,j):=by simpa using hq
   subst this;exact⟨hi,hj⟩
theorem zj{f:Nat→Nat→Option Int}{o p:Int}:∀k i j,(eF f o p k i j).length≤k+1
 |0,i,j=>by simp[eF]
 |k+1,i,j=>by
  by_cases h:gN (Bq f o p i j)=true
  ·rw[eF,MJ h,List.length_append];have:=zj (f:=f) (o:=o) (p:=p) k (cK f o p i j).1 (cK f o p i j).2;simp
   lia
  ·rw[gR h];simp
end QF
namespace L2
open PySem PySem.Spec PyProof.Rows PySem.W PySem.Calls
section
variable{X:Cx}
inductive FK(K:Frag)(x:V)(y:V)(H:Hp)(Q:VK):Prop
 |mk (p q:Addr) (xs ys:List V) (_:x= .ref p) (_:y= .ref q) (_:DM K H p xs) (_:DM K H q ys) (_:xs.all i7=true) (_:ys.all i7=true) (_:Q (.bl (!uY xs ys)) H):FK K x y H Q
theorem Dp(K:Frag)(hu:X.A.units<cLine)(hK:X.K=K:=by rfl):qg X (compareOp .NotEq) (FK K):=by
 subst hK;intro pins s σ H x y v u Q I rx ry h;obtain⟨p,q,xs,ys,rfl,rfl,hp,hq,f1,f2,k⟩:=h;cases rx;cases ry;obtain⟨its,r,pl,hz⟩:=I.tuple hp;obtain⟨dQ,r2,HB,MV⟩:=I.tuple hq;have he:=tO (A:=X.A.in1) (s:=s) r r2 f1 f2;obtain⟨⟨cls,dd,data,sl⟩,ho,hc,n,hd⟩:=id pl;obtain⟨⟨Lg,EU,data2,yt⟩,yu,uP,n2,hd2⟩:=id HB;simp only at hc hd uP hd2;subst hc hd uP hd2;refine richCompare_meets_room (op:= .NotEq) ⟨_,ho,rfl⟩ ⟨_,yu,rfl⟩ F.slot_tuple_ne F.entry_tuple_ne (F.args_tuple_ne_2 _ _) (SeqAt.tuple_neAt p q its.toArray dQ.toArray n n2 dd EU sl yt _) ⟨ho,yu,he,?_⟩ hu;have e:(!((ZR (min its.toArray.size dQ.toArray.size)).all (fun j=>qt (xs.getD j .cL) (ys.getD j .cL))&&its.toArray.size==dQ.toArray.size))=!uY xs ys:=by
  rw[←kH,r.length,r2.length];simp
 rw[e];exact⟨(fun x=>nomatch x), .bl (!uY xs ys),H,I,rfl,k⟩
end
end L2
namespace QF
open PySem L2
theorem du{p q:Pr}(h:ba p=ba q):p=q:=by
 simp only[ba,List.cons.injEq,Sum.inl.injEq,and_true]at h;exact Prod.ext h.1 h.2
theorem len_sub{α:Type}[DecidableEq α]:∀(l m:List α),l.Nodup→(∀x∈l,x∈m)→l.length≤m.length
 |[],m,_,_=>XC
 |x::r,m,hn,h=>by
  have D8:=List.nodup_cons.mp hn;have hx:=h x (XC);have:=len_sub r (m.erase x) D8.2 fun y hy=>(List.mem_erase_of_ne (fun e:y=x=>D8.1 (by rw[←e];exact hy))).mpr (h y (by simp[hy]))
  rw[List.length_erase_of_mem hx]at this;have:=List.length_pos_of_mem hx;simp
  lia
def JM(E:Pr→Pr→Prop)(p:Pr):Pr→Pr→Prop:=fun a b=>E a b∨(a=p∧b=p)
def qL(E:Pr→Pr→Prop)(p q:Pr):Pr→Pr→Prop:=fun a b=>E a b∨((E a p∨E a q)∧(E b p∨E b q))
theorem Dq{E:Pr→Pr→Prop}{p q a b:Pr}:qL E p q a b↔qL E q p a b:=by
 unfold qL;rw[or_comm (a:=E a p),or_comm (a:=E b p)]
structure oW(S:Addr→Prop)(H:Hp)(S':Addr→Prop)(H':Hp):Prop where
 grow:∀a,S' a→S a∨H a=none
 keep:∀a o,¬S a→H a=some o→H' a=some o
theorem oW.trans{S S' Q5:Addr→Prop}{H H' Q6:Hp}(a:oW S H S' H')(b:oW S' H' Q5 Q6):oW S H Q5 Q6:=by
 refine⟨fun x hx=>?_,fun x o hs hx=>b.keep x o (fun z=>?_) (a.keep x o hs hx)⟩
 ·rcases b.grow x hx with h|h
  ·exact a.grow x h
  ·by_cases hs:S x
   ·exact .inl hs
   ·right
    cases e:H x with
    |none=>rfl
    |some o=>rw[a.keep x o hs e]at h;cases h
 ·rcases a.grow x z with h|h
  ·exact hs h
  ·rw[hx]at h;cases h
theorem oW.same{S:Addr→Prop}{H H':Hp}(s:av H H'):oW S H S H':=⟨fun _ h=> .inl h,fun a o _ h=>s a o h⟩
theorem oW.put{S:Addr→Prop}{H:Hp}{a:Addr}{o:HO}(h:S a):oW S H S (upd H a o):=⟨fun _ h=> .inl h,fun b u hb e=>by rw[ao (fun z:b=a=>hb (by rw[z];exact h))];exact e⟩
structure Pb(K:W.Frag)(C:Addr):Prop where
 cl:wK K C
 oX:b_ K C "leads"
 members:b_ K C "members"
def rJ(dl dm:Addr):List (Str×V):=[("leads", .ref dl),("members", .ref dm)]
theorem jz(a b:Addr):(rJ a b).lookup ("leads":Str)=some (V.ref a):=by kernel_rfl
theorem iX(a b:Addr):(rJ a b).lookup ("members":Str)=some (V.ref b):=by kernel_rfl
theorem Pc(a b:Addr):bq "members" (.ref b) (bq "leads" (.ref a) [])=rJ a b:=by kernel_rfl
theorem Pd(a b:Addr):(rJ a b).lookup ("has":Str)=none:=by kernel_rfl
theorem FN(a b:Addr):(rJ a b).lookup ("take_in":Str)=none:=by kernel_rfl
theorem B6(a b:Addr):(rJ a b).lookup ("unite":Str)=none:=by kernel_rfl
theorem L4(a b:Addr):(rJ a b).lookup ("told":Str)=none:=by kernel_rfl
def L5(H:Hp)(v:Option V):Option Pr→Prop
 |none=>v=none
 |some l=>∃t,v=some (.ref t)∧H t=some (.tup (jk l))
def T_(H:Hp)(S:Addr→Prop)(v:Option V):Option (List Pr)→Prop
 |none=>v=none
 |some ms=>∃a us,v=some (.ref a)∧H a=some (.lst us)∧fT H us ms∧S a
theorem L5.cD{H H':Hp}{v:Option V}{o:Option Pr}(h:L5 H v o)(t:c_ H H'):L5 H' v o:=by
 cases o with
 |none=>exact h
 |some l=>obtain⟨a,h1,h2⟩:=h;exact⟨a,h1,t _ _ h2⟩
structure DV(H:Hp)(S:Addr→Prop)(dl dm:Addr)(kl km:List (List Key×V))(ld:Pr→Option Pr)(mm:Pr→Option (List Pr)):Prop where
 hl:H dl=some (.dT kl)
 hm:H dm=some (.dT km)
 sl:S dl
 sm:S dm
 ne:dl≠dm
 lv:∀p,L5 H (bA kl (ba p)) (ld p)
 mv:∀p,T_ H S (bA km (ba p)) (mm p)
 inj:∀p q a,bA km (ba p)=some (.ref a)→bA km (ba q)=some (.ref a)→p=q
 key:∀kv∈km,∃p,kv.1=ba p
 B7:(km.map (·.1)).Nodup
 ms:∀l ms,mm l=some ms→ms.Nodup∧∀p,p∈ms↔ld p=some l
 ml:∀p l,ld p=some l→∃ms,mm l=some ms
 self:∀l ms,mm l=some ms→ld l=some l
theorem DV.keep{H H':Hp}{S:Addr→Prop}{dl dm:Addr}{kl km:List (List Key×V)}{ld:Pr→Option Pr}{mm:Pr→Option (List Pr)}(d:DV H S dl dm kl km ld mm)(h:∀a o,S a→H a=some o→H' a=some o)(t:c_ H H'):DV H' S dl dm kl km ld mm:=by
 refine⟨h _ _ d.sl d.hl,h _ _ d.sm d.hm,d.sl,d.sm,d.ne,fun p=>(d.lv p).cD t,fun p=>?_,d.inj,d.key,d.B7,d.ms,d.ml,d.self⟩;have:=d.mv p;cases e:mm p with
 |none=>rw[e]at this;exact this
 |some ms=>
  rw[e]at this;obtain⟨a,us,h1,h2,h3,h4⟩:=this;exact⟨a,us,h1,h _ _ h4 h2,h3.cD t,h4⟩
theorem DV.uO{H:Hp}{S:Addr→Prop}{dl dm:Addr}{kl km:List (List Key×V)}{ld:Pr→Option Pr}{mm:Pr→Option (List Pr)}(d:DV H S dl dm kl km ld mm){ms:List Pr}(hn:ms.Nodup)(h:∀p∈ms,∃l,ld p=some l):ms.length≤kl.length:=by
 have:=len_sub (ms.map ba) (kl.map (·.1)) (List.Pairwise.map _ (fun a b FO z=>FO (du z)) hn) fun k hk=>by
  obtain⟨p,hp,rfl⟩:=List.mem_map.mp hk;obtain⟨l,hl⟩:=h p hp;have:=d.lv p;rw[hl]at this;obtain⟨t,h1,_⟩:=this;exact By h1
 simpa using this
theorem DV.take{H H':Hp}{S:Addr→Prop}{dl dm a t:Addr}{kl km:List (List Key×V)}{ld:Pr→Option Pr}{mm:Pr→Option (List Pr)}{p:Pr}(d:DV H S dl dm kl km ld mm)(hn:ld p=none)(ht:H t=some (.tup (jk p)))(ha:H a=none)
  (h1:H' dl=some (.dT (putK kl (ba p) (.ref t)))) (h2:H' dm=some (.dT (putK km (ba p) (.ref a)))) (h3:H' a=some (.lst [.ref t])) (hk:∀b o,b≠dl→b≠dm→H b=some o→H' b=some o):
  DV H' (fun x=>S x∨x=a) dl dm (putK kl (ba p) (.ref t)) (putK km (ba p) (.ref a)) (fun q=>if q=p then some p else ld q) (fun q=>if q=p then some [p]else mm q):=by
 have T:c_ H H':=fun b v hb=>hk b _ (fun z=>by rw[z,d.hl]at hb;cases hb) (fun z=>by rw[z,d.hm]at hb;cases hb) hb
 have VL:mm p=none:=by
  cases e:mm p with
  |none=>rfl
  |some ms=>have:=d.self p ms e;rw[hn]at this;cases this
 have FP:bA km (ba p)=none:=by have:=d.mv p;rw[VL]at this;exact this
 have Pe:∀q b,bA km (ba q)=some (.ref b)→b≠a:=fun q b hq z=>by
  have:=d.mv q;cases e:mm q with
  |none=>rw[e]at this;have:bA km (ba q)=none:=this;rw[this]at hq;cases hq
  |some ms=>
   rw[e]at this;obtain⟨a',us,e1,e2,_⟩:=this;rw[hq]at e1;cases e1;rw[z,ha]at e2;cases e2
 refine⟨h1,h2, .inl d.sl, .inl d.sm,d.ne,fun q=>?_,fun q=>?_,fun q r b hq hr=>?_,fun kv Q7=>?_,?_,fun l ms hl=>?_,fun q l hq=>?_,fun l ms hl=>?_⟩
 ·rw[i6];by_cases e:q=p
  ·rw[MJ (by rw[e]),MJ e];exact⟨t,rfl,T _ _ ht⟩
  ·rw[Je (fun z=>e (du z)),Je e];exact(d.lv q).cD T
 ·show T_ _ _ _ (if q=p then some [p]else mm q);rw[i6];by_cases e:q=p
  ·rw[MJ (by rw[e]),MJ e];exact⟨a,_,rfl,h3,fT.one (T _ _ ht), .inr rfl⟩
  ·rw[Je (fun z=>e (du z)),Je e];have:=d.mv q;cases e2:mm q with
   |none=>rw[e2]at this;exact this
   |some ms=>
    rw[e2]at this;obtain⟨b,us,z1,z2,z3,z4⟩:=this;exact⟨b,us,z1,hk b _ (fun z=>by rw[z,d.hl]at z2;cases z2) (fun z=>by rw[z,d.hm]at z2;cases z2) z2,z3.cD T, .inl z4⟩
 ·rw[i6]at hq hr;by_cases e:q=p
  ·by_cases e2:r=p
   ·rw[e,e2]
   ·rw[MJ (by rw[e])]at hq;rw[Je (fun z=>e2 (du z))]at hr;cases hq;exact absurd rfl (Pe r _ hr)
  ·rw[Je (fun z=>e (du z))]at hq;by_cases e2:r=p
   ·rw[MJ (by rw[e2])]at hr;cases hr;exact absurd rfl (Pe q _ hq)
   ·rw[Je (fun z=>e2 (du z))]at hr;exact d.inj q r b hq hr
 ·rw[s_ _ FP]at Q7;rcases List.mem_append.mp Q7 with z|z
  ·exact d.key kv z
  ·exact⟨p,by rw[List.mem_singleton.mp z]⟩
 ·rw[s_ _ FP,List.map_append];refine List.nodup_append.mpr ⟨d.B7,XC,fun x hx y hy e=>?_⟩;have hy:y=ba p:=by simpa using hy
  rw[e,hy]at hx;exact yS FP hx
 ·have hl:(if l=p then some [p]else mm l)=some ms:=hl;by_cases e:l=p
  ·rw[MJ e]at hl;cases hl;refine⟨XC,fun q=>?_⟩;rw[List.mem_singleton];show q=p↔(if q=p then some p else ld q)=some l;by_cases e2:q=p
   ·rw[MJ e2,e];simp[e2]
   ·rw[Je e2];refine⟨fun z=>Z1 z e2,fun z=>?_⟩;obtain⟨ms,DW⟩:=d.ml q l z;rw[e,VL]at DW;cases DW
  ·rw[Je e]at hl;obtain⟨z1,z2⟩:=d.ms l ms hl;refine⟨z1,fun q=>?_⟩;rw[z2];show ld q=some l↔(if q=p then some p else ld q)=some l;by_cases e2:q=p
   ·rw[MJ e2,e2,hn];refine⟨fun z=>(by cases z),fun z=>Z1 (ZO z).symm e⟩
   ·rw[Je e2]
 ·have hq:(if q=p then some p else ld q)=some l:=hq;show ∃ms,(if l=p then some [p]else mm l)=some ms;by_cases e:l=p
  ·exact⟨[p],MJ e⟩
  ·rw[Je e];by_cases e2:q=p
   ·rw[MJ e2]at hq;exact Z1 (ZO hq).symm e
   ·rw[Je e2]at hq;exact d.ml q l hq
 ·have hl:(if l=p then some [p]else mm l)=some ms:=hl;show(if l=p then some p else ld l)=some l;by_cases e:l=p
  ·rw[MJ e,e]
  ·rw[Je e]at hl⊢;exact d.self l ms hl
theorem B8{κ:Type}[DecidableEq κ]{k:κ}{v:V}:∀{kvs:List (κ×V)}{i:Nat},(kvs.map (·.1)).Nodup→kvs[i]?=some (k,v)→bA kvs k=some v
 |[],i,_,h=>by simp at h
 |p::r,0,_,h=>by
  have h:p=(k,v):=by simpa using h
  subst h;exact cH rfl
 |p::r,i+1,hn,h=>by
  have D8:=List.nodup_cons.mp (show(p.1::r.map (·.1)).Nodup from hn);have h:r[i]?=some (k,v):=by simpa using h
  rw[cA (fun e=>D8.1 (by rw[e];exact List.mem_map.mpr ⟨_,ZI h,rfl⟩))];exact B8 D8.2 h
theorem zk{κ:Type}[DecidableEq κ]{k:κ}{v:V}:∀{kvs:List (κ×V)},bA kvs k=some v→∃i:Nat,kvs[i]?=some (k,v)
 |[],h=>by cases h
 |p::r,h=>by
  by_cases e:p.1=k
  ·rw[cH e]at h;exact⟨0,by simp;exact Prod.ext e (ZO h)⟩
  ·rw[cA e]at h;obtain⟨i,hi⟩:=zk h;exact⟨i+1,by simpa using hi⟩
theorem mz{κ:Type}[DecidableEq κ](k j:κ):∀kvs:List (κ×V),bA (i5 kvs k) j=if j=k then none else bA kvs j
 |[]=>by simp[i5,bA]
 |p::r=>by
  have ih:=mz k j r;unfold i5 at ih⊢;rw[List.filter_cons];by_cases e:p.1=k
  ·rw[Je (by simpa using e),ih];by_cases e2:j=k
   ·rw[MJ e2,MJ e2]
   ·rw[Je e2,Je e2,cA (fun z=>e2 (z.symm.trans e))]
  ·rw[MJ (by simpa using e)];by_cases e2:p.1=j
   ·rw[cH e2,Je (fun z=>e (e2.trans z)),cH e2]
   ·rw[cA e2,ih,cA e2]
theorem DV.Pf{H H':Hp}{S:Addr→Prop}{dl dm al tl:Addr}{kl uZ km:List (List Key×V)}{ld:Pr→Option Pr}{mm:Pr→Option (List Pr)}{l g:Pr}{m1 m2:List Pr}{lz iA:List V}(d:DV H S dl dm kl km ld mm)(B9:l≠g)(h1:mm l=some m1)(h2:mm g=some m2)(B_:bA km (ba l)=some (.ref al))(P1:fT H lz m1)(P2:fT H iA m2)(Sn:H al=some (.lst lz))(zl:H tl=some (.tup (jk l)))
  (Q8:∀r,bA uZ (ba r)=if r∈m2 then some (.ref tl)else bA kl (ba r)) (e1:H' dl=some (.dT uZ)) (e2:H' dm=some (.dT (i5 km (ba g)))) (e3:H' al=some (.lst (lz++iA))) (hk:∀b o,b≠dl→b≠dm→b≠al→H b=some o→H' b=some o):
  DV H' S dl dm uZ (i5 km (ba g)) (fun r=>if r∈m2 then some l else ld r) (fun r=>if r=g then none else if r=l then some (m1++m2)else mm r):=by
 have T:c_ H H':=fun b v hb=>hk b _ (fun z=>by rw[z,d.hl]at hb;cases hb) (fun z=>by rw[z,d.hm]at hb;cases hb) (fun z=>by rw[z,Sn]at hb;cases hb) hb
 obtain⟨n1,q1⟩:=d.ms l m1 h1;obtain⟨n2,q2⟩:=d.ms g m2 h2;refine⟨e1,e2,d.sl,d.sm,d.ne,fun r=>?_,fun r=>?_,fun p q a hp hq=>?_,fun kv Q7=>d.key kv (List.mem_filter.mp Q7).1,d.B7.sublist (List.filter_sublist.map _),fun x ms hx=>?_,fun p x hp=>?_,fun x ms hx=>?_⟩
 ·show L5 H' _ (if r∈m2 then some l else ld r);rw[Q8];by_cases e:r∈m2
  ·rw[MJ e,MJ e];exact⟨tl,rfl,T _ _ zl⟩
  ·rw[Je e,Je e];exact(d.lv r).cD T
 ·show T_ H' S _ (if r=g then none else if r=l then some (m1++m2)else mm r);rw[mz];by_cases e:r=g
  ·rw[MJ (by rw[e]),MJ e];rfl
  ·rw[Je (fun z=>e (du z)),Je e];by_cases e4:r=l
   ·rw[MJ e4,e4,B_];have:=d.mv l;rw[h1]at this;obtain⟨a,us,z1,_,_,z4⟩:=this;rw[B_]at z1;cases z1;exact⟨al,_,rfl,e3,(P1.append P2).cD T,z4⟩
   ·rw[Je e4];have:=d.mv r;cases e5:mm r with
    |none=>rw[e5]at this;exact this
    |some ms=>
     rw[e5]at this;obtain⟨a,us,z1,z2,z3,z4⟩:=this;exact⟨a,us,z1,hk a _ (fun z=>by rw[z,d.hl]at z2;cases z2) (fun z=>by rw[z,d.hm]at z2;cases z2) (fun z=>e4 (d.inj r l al (by rw[z1,z]) B_)) z2,z3.cD T,z4⟩
 ·rw[mz]at hp hq;by_cases e:p=g
  ·rw[MJ (by rw[e])]at hp;cases hp
  ·by_cases e4:q=g
   ·rw[MJ (by rw[e4])]at hq;cases hq
   ·rw[Je (fun z=>e (du z))]at hp;rw[Je (fun z=>e4 (du z))]at hq;exact d.inj p q a hp hq
 ·have hx:(if x=g then none else if x=l then some (m1++m2)else mm x)=some ms:=hx;by_cases e:x=g
  ·rw[MJ e]at hx;cases hx
  ·rw[Je e]at hx;by_cases e4:x=l
   ·rw[MJ e4]at hx;cases hx;refine⟨List.nodup_append.mpr ⟨n1,n2,fun a ha b hb z=>?_⟩,fun p=>?_⟩
    ·have ha:=(q1 a).mp ha;have hb:=(q2 b).mp hb;rw[z,hb]at ha;exact B9 (ZO ha).symm
    ·rw[List.mem_append];show p∈m1∨p∈m2↔(if p∈m2 then some l else ld p)=some x;rw[e4];by_cases e5:p∈m2
     ·rw[MJ e5];simp[e5]
     ·rw[Je e5,←q1];simp[e5]
   ·rw[Je e4]at hx;obtain⟨z1,z2⟩:=d.ms x ms hx;refine⟨z1,fun p=>?_⟩;rw[z2];show ld p=some x↔(if p∈m2 then some l else ld p)=some x;by_cases e5:p∈m2
    ·rw[MJ e5,(q2 p).mp e5];exact⟨fun z=>Z1 (ZO z).symm e,fun z=>Z1 (ZO z).symm e4⟩
    ·rw[Je e5]
 ·have hp:(if p∈m2 then some l else ld p)=some x:=hp;show ∃ms,(if x=g then none else if x=l then some (m1++m2)else mm x)=some ms;by_cases e5:p∈m2
  ·rw[MJ e5]at hp;cases hp;exact⟨m1++m2,by rw[Je B9,if_pos rfl]⟩
  ·rw[Je e5]at hp;have hg:x≠g:=fun z=>e5 ((q2 p).mpr (by rw[hp,z]))
   by_cases e4:x=l
   ·exact⟨m1++m2,by rw[Je hg,MJ e4]⟩
   ·obtain⟨ms,DW⟩:=d.ml p x hp;exact⟨ms,by rw[Je hg,Je e4];exact DW⟩
 ·have hx:(if x=g then none else if x=l then some (m1++m2)else mm x)=some ms:=hx;show(if x∈m2 then some l else ld x)=some x;by_cases e:x=g
  ·rw[MJ e]at hx;cases hx
  ·rw[Je e]at hx;have VM:ld x=some x:=by
    by_cases e4:x=l
    ·rw[e4];exact d.self l m1 h1
    ·rw[Je e4]at hx;exact d.self x ms hx
   have:x∉m2:=fun z=>by
    have:=(q2 x).mp z;rw[VM]at this;exact e (ZO this)
   rw[Je this,VM]
theorem L6{ld:Pr→Option Pr}{l g p q:Pr}{m2:List Pr}(B9:l≠g)(hp:ld p=some l)(hq:ld q=some g)(q2:∀r,r∈m2↔ld r=some g){E:Pr→Pr→Prop}(hE:∀a b,E a b↔∃x,ld a=some x∧ld b=some x)(a b:Pr):
  qL E p q a b↔∃x,(if a∈m2 then some l else ld a)=some x∧(if b∈m2 then some l else ld b)=some x:=by
 have A:∀c,(E c p∨E c q)↔(if c∈m2 then some l else ld c)=some l:=fun c=>by
  rw[hE,hE,hp,hq];by_cases e:c∈m2
  ·rw[MJ e,(q2 c).mp e];simp
  ·rw[Je e];have:ld c≠some g:=fun z=>e ((q2 c).mpr z)
   constructor
   ·rintro(⟨x,h1,h2⟩|⟨x,h1,h2⟩)
    ·cases h2;exact h1
    ·cases h2;exact Z1 h1 this
   ·exact fun z=> .inl ⟨l,z,rfl⟩
 unfold qL;rw[A,A,hE];constructor
 ·rintro(⟨x,h1,h2⟩|⟨h1,h2⟩)
  ·by_cases e:x=g
   ·subst e;exact⟨l,by rw[MJ ((q2 a).mpr h1)],by rw[MJ ((q2 b).mpr h2)]⟩
   ·exact⟨x,by rw[Je (fun z=>e (by have:=(q2 a).mp z;rw[h1]at this;exact ZO this))];exact h1,by rw[Je (fun z=>e (by have:=(q2 b).mp z;rw[h2]at this;exact ZO this))];exact h2⟩
  ·exact⟨l,h1,h2⟩
 ·rintro⟨x,h1,h2⟩;by_cases e:x=l
  ·subst e;exact .inr ⟨h1,h2⟩
  ·left
   refine⟨x,?_,?_⟩
   ·by_cases e2:a∈m2
    ·rw[MJ e2]at h1;exact Z1 (ZO h1).symm e
    ·rw[Je e2]at h1;exact h1
   ·by_cases e2:b∈m2
    ·rw[MJ e2]at h2;exact Z1 (ZO h2).symm e
    ·rw[Je e2]at h2;exact h2
def jT(H:Hp)(C g:Addr)(S:Addr→Prop)(E:Pr→Pr→Prop)(B:Nat):Prop:=
 ∃dg dl dm kl km ld mm,H g=some (.ins C dg (rJ dl dm))∧¬S g∧DV H S dl dm kl km ld mm∧(∀a b,E a b↔∃l,ld a=some l∧ld b=some l)∧kl.length≤B∧km.length≤B
theorem jT.keep{H H':Hp}{C g:Addr}{S:Addr→Prop}{E:Pr→Pr→Prop}{B:Nat}(G:jT H C g S E B)(h:∀a o,S a→H a=some o→H' a=some o)(t:c_ H H')(hg:∀o,H g=some o→H' g=some o):jT H' C g S E B:=by
 obtain⟨dg,dl,dm,kl,km,ld,mm,a1,a2,a3,a4⟩:=G;exact⟨dg,dl,dm,kl,km,ld,mm,hg _ a1,a2,a3.keep h t,a4⟩
theorem jT.same{H H':Hp}{C g:Addr}{S:Addr→Prop}{E:Pr→Pr→Prop}{B:Nat}(G:jT H C g S E B)(s:av H H'):jT H' C g S E B:=G.keep (fun a o _ h=>s a o h) (c_.same s) (fun o h=>s _ _ h)
theorem jT.iff{H:Hp}{C g:Addr}{S:Addr→Prop}{E E':Pr→Pr→Prop}{B B':Nat}(G:jT H C g S E B)(h:∀a b,E' a b↔E a b)(hB:B≤B'):jT H C g S E' B':=by
 obtain⟨dg,dl,dm,kl,km,ld,mm,a1,a2,a3,a4,a5,a6⟩:=G;exact⟨dg,dl,dm,kl,km,ld,mm,a1,a2,a3,fun a b=>(h a b).trans (a4 a b),by lia,by lia⟩
structure Told(E:Pr→Pr→Prop)(gs:List (List Pr)):Prop where
 qH:∀ps∈gs,ps.Pairwise fun p q=>iW p q=true
 ne:∀ps∈gs,ps≠[]
 cls:∀ps∈gs,∀a∈ps,∀b,b∈ps↔E a b
 all:∀a,E a a→∃ps∈gs,a∈ps
 apart:gs.Pairwise fun ps qs=>∀a∈ps,a∉qs
inductive tV(C:Addr)(vs:List V)(H:Hp)(Q:VK)(u3:XK):Prop
 |mk (x dx:Addr) (_:vs=[.ref x]) (_:H x=some (.ins C dx [])) (_:∀H' S,SameBut x H H'→(∀a,S a→H a=none)→jT H' C x S (fun _ _=>False) 0→Q .cL H'):tV C vs H Q u3
inductive AQ(C:Addr)(vs:List V)(H:Hp)(Q:VK)(u3:XK):Prop
 |mk (x t:Addr) (p:Pr) (S:Addr→Prop) (E:Pr→Pr→Prop) (B:Nat) (_:vs=[.ref x, .ref t]) (_:jT H C x S E B) (_:H t=some (.tup (jk p))) (_:∀b:Bool,(b=true↔E p p)→Q (.bl b) H):AQ C vs H Q u3
inductive xx(C:Addr)(vs:List V)(H:Hp)(Q:VK)(u3:XK):Prop
 |mk (x t:Addr) (p:Pr) (S:Addr→Prop) (E:Pr→Pr→Prop) (B:Nat) (_:vs=[.ref x, .ref t]) (_:jT H C x S E B) (_:H t=some (.tup (jk p))) (_:B≤10000) (_:∀H' S',oW S H S' H'→jT H' C x S' (JM E p) (B+1)→Q .cL H'):xx C vs H Q u3
inductive tW(C:Addr)(vs:List V)(H:Hp)(Q:VK)(u3:XK):Prop
 |mk (x t u:Addr) (p q:Pr) (S:Addr→Prop) (E:Pr→Pr→Prop) (B:Nat) (_:vs=[.ref x, .ref t, .ref u]) (_:jT H C x S E B) (_:H t=some (.tup (jk p))) (_:H u=some (.tup (jk q))) (_:E p p) (_:E q q) (_:B≤10000) (_:∀H',oW S H S H'→jT H' C x S (qL E p q) B→Q .cL H'):tW C vs H Q u3
inductive xy(C:Addr)(vs:List V)(H:Hp)(Q:VK)(u3:XK):Prop
 |mk (x:Addr) (S:Addr→Prop) (E:Pr→Pr→Prop) (B:Nat) (_:vs=[.ref x]) (_:jT H C x S E B) (_:B<10000) (_:∀H' r us gs,oW S H S H'→H r=none→H' r=some (.lst us)→gi H' us gs→(∀(k:Nat) a,us[k]?=some (.ref a)→H a=none)→Told E gs→Q (.ref r) H'):xy C vs H Q u3
theorem AR(g:Pr→Option Int)(o i:Int){as:List Pr}(eQ:as≠[])(q:Pr)(bs:List Pr):vl g o i (as++q::bs)=vl g o i as-gp o i (lstP as) q+vl g o i (q::bs):=by
 rw[xo,oS g o i eQ]
 lia
theorem Wy.app{g:Pr→Option Int}{as:List Pr}{q:Pr}{bs:List Pr}(a:Wy g as)(b:Wy g (q::bs))(s:yv (lstP as) q):Wy g (as++q::bs):=by
 refine⟨XC,fun x hx=>?_,List.pairwise_append.mpr ⟨a.up,b.up,fun x hx y hy=>?_⟩⟩
 ·rcases List.mem_append.mp hx with h|h
  ·exact a.ok x h
  ·exact b.ok x h
 ·have h1:yv x q:=by
   rcases pw_lst a.up hx with e|e
   ·rw[e];exact s
   ·exact qE e s
  rcases List.mem_cons.mp hy with e|e
  ·rw[e];exact h1
  ·exact qE h1 ((List.pairwise_cons.mp b.up).1 y e)
theorem Wy.left{g:Pr→Option Int}{as bs:List Pr}(w:Wy g (as++bs))(h:as≠[]):Wy g as:=⟨h,fun x hx=>w.ok x (γ hx),(List.pairwise_append.mp w.up).1⟩
theorem Wy.right{g:Pr→Option Int}{as bs:List Pr}(w:Wy g (as++bs))(h:bs≠[]):Wy g bs:=⟨h,fun x hx=>w.ok x (Δ hx),(List.pairwise_append.mp w.up).2.1⟩
section
variable(f:Nat→Nat→Option Int)(o p W:Int)
def BW(ps:List Pr):Prop:=Wy (lf f) ps∧vl (lf f) o p ps=W
def eZ:Prop:=∀ps,Wy (lf f) ps→vl (lf f) o p ps≤W
inductive fH:Pr→Pr→Prop
 |way {a b:Pr} (ps:List Pr) (_:BW f o p W ps) (_:a∈ps) (_:b∈ps):fH a b
 |tr {a b c:Pr} (_:fH a b) (_:fH b c):fH a c
def u0(as:List Pr)(x y:Int):Int:=vl (lf f) o p as-(o*(x-1-(lstP as).1)+p*(y-1-(lstP as).2))
def Pg(q:Pr)(bs:List Pr)(x y:Int):Int:=vl (lf f) o p (q::bs)-(o*(q.1-x)+p*(q.2-y))
def Over(x y:Int)(r:Pr):Prop:=∃as q bs,Wy (lf f) as∧Wy (lf f) (q::bs)∧(lstP as).1<x∧(lstP as).2<y∧x≤q.1∧y≤q.2∧vl (lf f) o p (as++q::bs)=W∧r∈q::bs
end
section
variable{f:Nat→Nat→Option Int}{o p W:Int}
theorem fH.symm{a b:Pr}(h:fH f o p W a b):fH f o p W b a:=by
 induction h with
 |way ps h1 h2 h3=>exact .way ps h1 h3 h2
 |tr _ _ i1 i2=>exact .tr i2 i1
theorem fH.left{a b:Pr}(h:fH f o p W a b):fH f o p W a a:= .tr h h.symm
theorem fH.on{a b:Pr}(h:fH f o p W a b):∃ps,BW f o p W ps∧a∈ps:=by
 induction h with
 |way ps h1 h2 h3=>exact⟨ps,h1,h2⟩
 |tr _ _ i1 _=>exact i1
theorem nK{as:List Pr}{q:Pr}{bs:List Pr}(eQ:as≠[])(x y:Int):vl (lf f) o p (as++q::bs)=u0 f o p as x y+Pg f o p q bs x y:=by
 rw[AR _ _ _ eQ];unfold u0 Pg gp;have e1:q.1-(lstP as).1-1=(x-1-(lstP as).1)+(q.1-x):=by lia
 have e2:q.2-(lstP as).2-1=(y-1-(lstP as).2)+(q.2-y):=by lia
 rw[e1,e2,Int.mul_add,Int.mul_add]
 lia
theorem mB(T:eZ f o p W){as yx:List Pr}{q:Pr}{bs:List Pr}{x y:Int}(a:Wy (lf f) as)(b:Wy (lf f) (q::bs))(h3:x≤q.1)(h4:y≤q.2)(hW:vl (lf f) o p (as++q::bs)=W)
  (a':Wy (lf f) yx) (l1:(lstP yx).1<x) (l2:(lstP yx).2<y) (hb:u0 f o p as x y≤u0 f o p yx x y):BW f o p W (yx++q::bs):=by
 have w:=a'.app b ⟨by lia,by lia⟩;refine⟨w,?_⟩;have:=T _ w;rw[nK a'.ne x y]at this⊢;rw[nK a.ne x y]at hW
 lia
theorem xA{as:List Pr}{i j:Nat}(a:Wy (lf f) as)(l1:(lstP as).1<(i:Int))(l2:(lstP as).2<(j:Int)):∃b,Bq f o p i j=some b∧u0 f o p as i j≤b:=by
 have m:=f_ f o p i j;cases e:Bq f o p i j with
 |none=>rw[e]at m;exact Z1 ⟨as,a,l1,l2,rfl⟩ (m _)
 |some b=>rw[e]at m;exact⟨b,rfl,m.2 _ ⟨as,a,l1,l2,rfl⟩⟩
theorem xB{i j:Nat}{b:Int}(e:Bq f o p i j=some b):∃as,Wy (lf f) as∧(lstP as).1<(i:Int)∧(lstP as).2<(j:Int)∧u0 f o p as i j=b:=by
 have m:=f_ f o p i j;rw[e]at m;obtain⟨as,h1,h2,h3,h4⟩:=m.1;exact⟨as,h1,h2,h3,h4.symm⟩
theorem mC{i j:Nat}{b:Int}(e:dF f o p i j=some b):∃as,Wy (lf f) as∧lstP as=aR (i,j)∧vl (lf f) o p as=b:=by
 have m:=tQ f o p i j;rw[e]at m;obtain⟨as,h1,h2,h3⟩:=m.1;exact⟨as,h1,h2,h3.symm⟩
theorem xC{as:List Pr}{i j:Nat}(a:Wy (lf f) as)(l:lstP as=aR (i,j)):∃b,dF f o p i j=some b∧vl (lf f) o p as≤b:=by
 have m:=tQ f o p i j;cases e:dF f o p i j with
 |none=>rw[e]at m;exact Z1 ⟨as,a,l,rfl⟩ (m _)
 |some b=>rw[e]at m;exact⟨b,rfl,m.2 _ ⟨as,a,l,rfl⟩⟩
theorem FQ{i j:Nat}(e:dF f o p i j=some W):fH f o p W (aR (i,j)) (aR (i,j)):=by
 obtain⟨as,h1,h2,h3⟩:=mC e;have:aR (i,j)∈as:=by rw[←h2];exact cQ h1.ne
 exact .way as ⟨h1,h3⟩ this this
theorem Dr(T:eZ f o p W){i j:Nat}{r:Pr}(h:Over f o p W ((i+1:Nat):Int) ((j+1:Nat):Int) r)(e:dF f o p i j=Bq f o p (i+1) (j+1)):fH f o p W (aR (i,j)) r:=by
 obtain⟨as,q,bs,a,b,l1,l2,l3,l4,hW,hr⟩:=h;obtain⟨v,hv,hle⟩:=xA (o:=o) (p:=p) a l1 l2;rw[hv]at e;obtain⟨yx,a',k1,k2⟩:=mC e;have hb:u0 f o p yx ((i+1:Nat):Int) ((j+1:Nat):Int)=v:=by
  unfold u0;rw[k1,k2];have e1:((i+1:Nat):Int)-1-(aR (i,j)).1=0:=by show((i+1:Nat):Int)-1-(i:Int)=0;lia
  have e2:((j+1:Nat):Int)-1-(aR (i,j)).2=0:=by show((j+1:Nat):Int)-1-(j:Int)=0;lia
  rw[e1,e2,Int.mul_zero,Int.mul_zero];lia
 have:=mB T a b l3 l4 hW a' (by rw[k1];simp[aR];lia) (by rw[k1];simp[aR];lia) (by rw[hb];exact hle);refine .way _ this (γ ?_) (Δ hr);rw[←k1];exact cQ a'.ne
theorem rK(T:eZ f o p W){i j x y:Nat}{r:Pr}{c:Int}(h:Over f o p W ((i+1:Nat):Int) ((j+1:Nat):Int) r)(hx:x≤i+1)(hy:y≤j+1)(hc:c=o*((i+1:Nat)-x:Int)+p*((j+1:Nat)-y:Int))(e:bC (Bq f o p x y) c=Bq f o p (i+1) (j+1)):Over f o p W (x:Int) (y:Int) r:=by
 obtain⟨as,q,bs,a,b,l1,l2,l3,l4,hW,hr⟩:=h;obtain⟨v,hv,hle⟩:=xA (o:=o) (p:=p) a l1 l2;rw[hv]at e;cases e2:Bq f o p x y with
 |none=>rw[e2]at e;cases e
 |some v2=>
  rw[e2]at e;have e:v2-c=v:=by simpa[bC]using e
  obtain⟨yx,a',k1,k2,k3⟩:=xB e2;have hb:u0 f o p yx ((i+1:Nat):Int) ((j+1:Nat):Int)=v:=by
   unfold u0 at k3⊢;have e1:((i+1:Nat):Int)-1-(lstP yx).1=((x:Int)-1-(lstP yx).1)+((i+1:Nat)-x:Int):=by lia
   have e2:((j+1:Nat):Int)-1-(lstP yx).2=((y:Int)-1-(lstP yx).2)+((j+1:Nat)-y:Int):=by lia
   rw[e1,e2,Int.mul_add,Int.mul_add]
   lia
  have:=mB T a b l3 l4 hW a' Hy (by lia) (by rw[hb];exact hle);exact⟨yx,q,bs,a',b,k1,k2,by lia,by lia,this.2,hr⟩
theorem Ii(T:eZ f o p W){i j:Nat}(h:fH f o p W (aR (i,j)) (aR (i,j)))(g:gN (Bq f o p i j)=true):Over f o p W (i:Int) (j:Int) (aR (i,j)):=by
 obtain⟨ws,⟨hw,hW⟩,hm⟩:=h.on;obtain⟨u,v,rfl⟩:=List.append_of_mem hm;cases e:Bq f o p i j with
 |none=>rw[e]at g;cases g
 |some b=>
  rw[e]at g;have g:0≤b:=by simpa[gN]using g
  obtain⟨as,a,k1,k2,k3⟩:=xB e;have hr:Wy (lf f) (aR (i,j)::v):=hw.right Vs;have ws:=a.app hr ⟨k1,k2⟩;have hle:=T _ ws;have cv:=nK (f:=f) (o:=o) (p:=p) (q:=aR (i,j)) (bs:=v) a.ne (i:Int) (j:Int);have ha:Pg f o p (aR (i,j)) v (i:Int) (j:Int)=vl (lf f) o p (aR (i,j)::v):=by
   unfold Pg;have e1:(aR (i,j)).1-(i:Int)=0:=by simp[aR]
   have e2:(aR (i,j)).2-(j:Int)=0:=by simp[aR]
   rw[e1,e2,Int.mul_zero,Int.mul_zero];lia
  have aaV:W≤b+vl (lf f) o p (aR (i,j)::v):=by
   by_cases hu:u=[]
   ·subst hu;simp only[List.nil_append]at hW
    lia
   ·have cu:=nK (f:=f) (o:=o) (p:=p) (q:=aR (i,j)) (bs:=v) hu (i:Int) (j:Int);have Q9:Wy (lf f) u:=hw.left hu;have hs:yv (lstP u) (aR (i,j)):=(List.pairwise_append.mp hw.up).2.2 _ (cQ hu) _ (XC);obtain⟨b2,xD,aaE⟩:=xA (o:=o) (p:=p) Q9 (i:=i) (j:=j) hs.1 hs.2;rw[e]at xD;cases xD
    lia
  exact⟨as,aR (i,j),v,a,hr,k1,k2,by simp[aR],by simp[aR],by lia,XC⟩
theorem over_over(T:eZ f o p W){x y:Int}{r r':Pr}(h:Over f o p W x y r)(h':Over f o p W x y r'):fH f o p W r r':=by
 obtain⟨as,q,bs,a,b,l1,l2,l3,l4,hW,hr⟩:=h;obtain⟨yx,q',X_,a',b',k1,k2,k3,k4,VN,L7⟩:=h';have w1:BW f o p W (as++q::bs):=⟨a.app b ⟨by lia,by lia⟩,hW⟩
 have w2:BW f o p W (yx++q'::X_):=⟨a'.app b' ⟨by lia,by lia⟩,VN⟩
 by_cases hb:u0 f o p as x y≤u0 f o p yx x y
 ·have:=mB T a b l3 l4 hW a' k1 k2 hb;exact .tr (.way (b:=lstP yx) _ this (Δ hr) (γ (cQ a'.ne))) (.way _ w2 (γ (cQ a'.ne)) (Δ L7))
 ·have:=mB T a' b' k3 k4 VN a l1 l2 Hy;exact .tr (.way (b:=lstP as) _ w1 (Δ hr) (γ (cQ a.ne))) (.way _ this (γ (cQ a.ne)) (Δ L7))
theorem between(T:eZ f o p W){u v:List Pr}{q r:Nat×Nat}(w:BW f o p W (u++aR q::aR r::v)):
  (∀x y:Nat,q.1<x→q.2<y→x≤r.1→y≤r.2→Bq f o p x y=some (u0 f o p (u++[aR q]) x y))∧dF f o p q.1 q.2=some (vl (lf f) o p (u++[aR q]))∧0≤u0 f o p (u++[aR q]) r.1 r.2:=by
 obtain⟨w,hW⟩:=w;have e:u++aR q::aR r::v=(u++[aR q])++aR r::v:=XC;rw[e]at w hW;have hl:Wy (lf f) (u++[aR q]):=w.left Vs;have hr:Wy (lf f) (aR r::v):=w.right Vs;have ls:lstP (u++[aR q])=aR q:=dJ;have uN:yv (aR q) (aR r):=by
  have:=(List.pairwise_append.mp w.up).2.2 _ (cQ hl.ne) (aR r) (XC);rw[ls]at this;exact this
 refine⟨fun x y h1 h2 h3 h4=>?_,?_,?_⟩
 ·have c1:(lstP (u++[aR q])).1<(x:Int):=by rw[ls];simp[aR];lia
  have c2:(lstP (u++[aR q])).2<(y:Int):=by rw[ls];simp[aR];lia
  obtain⟨b,hb,hle⟩:=xA (o:=o) (p:=p) hl c1 c2;rw[hb]
  congr 1
  obtain⟨as,a,k1,k2,k3⟩:=xB hb;have wa:=a.app hr ⟨by simp[aR];lia,by simp[aR];lia⟩;have:=T _ wa;rw[nK a.ne (x:Int) (y:Int)]at this;rw[nK hl.ne (x:Int) (y:Int)]at hW
  lia
 ·obtain⟨b,hb,hle⟩:=xC (o:=o) (p:=p) hl (i:=q.1) (j:=q.2) ls;rw[hb]
  congr 1
  obtain⟨as,a,k1,k2⟩:=mC hb;have wa:=a.app hr (by rw[k1];exact uN);have:=T _ wa;rw[AR _ _ _ a.ne,k1,show aR (q.1,q.2)=aR q from rfl]at this;rw[AR _ _ _ hl.ne,ls]at hW
  lia
 ·have:=T _ hr;rw[nK hl.ne (r.1:Int) (r.2:Int)]at hW;unfold Pg at hW;have e1:(aR r).1-(r.1:Int)=0:=by simp[aR]
  have e2:(aR r).2-(r.2:Int)=0:=by simp[aR]
  rw[e1,e2,Int.mul_zero,Int.mul_zero]at hW
  lia
end
abbrev GS:=(Pr→Pr→Prop)×(Pr→Option Pr)
def zm(s:GS)(c r:Pr):GS:=
 match s.2 c with
 |some r0=>(qL s.1 r0 r,s.2)
 |none=>(s.1,fun x=>if x=c then some r else s.2 x)
section
variable(f:Nat→Nat→Option Int)(o p W:Int)
def JN(i j:Nat)(s:GS)(r:Pr):GS:=(if dF f o p i j=Bq f o p (i+1) (j+1)then qL (JM s.1 (aR (i,j))) (aR (i,j)) r else s.1,s.2)
def L8(i j:Nat)(s:GS)(r:Pr):GS:=(bu f o p i j).foldl (fun s c=>zm s c r) (JN f o p i j s r)
def Ij(i j:Nat)(s:GS):GS:=(if dF f o p i j=some W then JM s.1 (aR (i,j))else s.1,s.2)
def DX(i j:Nat)(s:GS):GS:=
 match s.2 (aR (i+1,j+1))with
 |some r=>L8 f o p i j (Ij f o p W i j s) r
 |none=>Ij f o p W i j s
open Classical in
noncomputable def zQ(i j:Nat)(s:GS):GS:=if (DX f o p W i j s).1 (aR (i,j)) (aR (i,j))∧gN (Bq f o p i j)=true then zm (DX f o p W i j s) (aR (i,j)) (aR (i,j))else DX f o p W i j s
structure il(s:GS):Prop where
 sy:∀a b,s.1 a b→s.1 b a
 tr:∀a b c,s.1 a b→s.1 b c→s.1 a c
 hg:∀a b,s.1 a b→fH f o p W a b
 mr:∀c r,s.2 c=some r→s.1 r r∧∃i j:Nat,c=aR (i,j)∧Over f o p W (i:Int) (j:Int) r
end
structure Gw(s s':GS)(N:Pr→Prop)(M:Pr→Prop):Prop where
 e:∀a b,s.1 a b→s'.1 a b
 n:∀a,s'.1 a a→s.1 a a∨N a
 m:∀c r,s.2 c=some r→s'.2 c=some r
 k:∀c r,s'.2 c=some r→s.2 c=some r∨M c
theorem Gw.refl{s:GS}{N M:Pr→Prop}:Gw s s N M:=⟨fun _ _ h=>h,fun _ h=> .inl h,fun _ _ h=>h,fun _ _ h=> .inl h⟩
theorem Gw.trans{s s' wM:GS}{N M:Pr→Prop}(a:Gw s s' N M)(b:Gw s' wM N M):Gw s wM N M:=
 ⟨fun x y h=>b.e x y (a.e x y h),fun x h=>(b.n x h).elim (a.n x) .inr,fun c r h=>b.m c r (a.m c r h),fun c r h=>(b.k c r h).elim (a.k c r) .inr⟩
theorem Gw.wide{s s':GS}{N M N' M':Pr→Prop}(a:Gw s s' N M)(hN:∀x,N x→N' x)(hM:∀x,M x→M' x):Gw s s' N' M':=⟨a.e,fun x h=>(a.n x h).imp id (hN x),a.m,fun c r h=>(a.k c r h).imp id (hM c)⟩
section
variable{f:Nat→Nat→Option Int}{o p W:Int}{s:GS}
theorem il.VO(k:il f o p W s){a b:Pr}(ha:s.1 a a)(hb:s.1 b b)(h:fH f o p W a b):il f o p W (qL s.1 a b,s.2):=by
 have hc:∀c,s.1 c a∨s.1 c b→fH f o p W c a:=fun c h'=>h'.elim (k.hg c a) fun z=> .tr (k.hg c b z) h.symm
 refine⟨fun x y h=>?_,fun x y z h1 h2=>?_,fun x y h=>?_,fun c r h=>⟨.inl (k.mr c r h).1,(k.mr c r h).2⟩⟩
 ·exact h.imp (k.sy x y) fun h=>⟨h.2,h.1⟩
 ·rcases h1 with h1|⟨h1,Jw⟩
  ·rcases h2 with h2|⟨h2,Jx⟩
   ·exact .inl (k.tr _ _ _ h1 h2)
   ·exact .inr ⟨h2.imp (k.tr _ _ _ h1) (k.tr _ _ _ h1),Jx⟩
  ·rcases h2 with h2|⟨h2,Jx⟩
   ·exact .inr ⟨h1,Jw.imp (k.tr _ _ _ (k.sy _ _ h2)) (k.tr _ _ _ (k.sy _ _ h2))⟩
   ·exact .inr ⟨h1,Jx⟩
 ·rcases h with h|⟨h1,h2⟩
  ·exact k.hg x y h
  ·exact .tr (hc x h1) (hc y h2).symm
theorem il.take(k:il f o p W s){a:Pr}(h:fH f o p W a a):il f o p W (JM s.1 a,s.2):=by
 refine⟨fun x y h=>?_,fun x y z h1 h2=>?_,fun x y h'=>?_,fun c r h=>⟨.inl (k.mr c r h).1,(k.mr c r h).2⟩⟩
 ·exact h.imp (k.sy x y) fun h=>⟨h.2,h.1⟩
 ·rcases h1 with h1|⟨h1,Jw⟩
  ·rcases h2 with h2|⟨h2,Jx⟩
   ·exact .inl (k.tr _ _ _ h1 h2)
   ·subst h2 Jx;exact .inl h1
  ·subst h1 Jw;exact h2
 ·rcases h' with h'|⟨h1,h2⟩
  ·exact k.hg x y h'
  ·subst h1 h2;exact h
theorem FT(sy:∀a b,s.1 a b→s.1 b a)(tr:∀a b c,s.1 a b→s.1 b c→s.1 a c){a b:Pr}:Gw s (qL s.1 a b,s.2) (fun _=>False) (fun _=>False):=by
 refine⟨fun _ _ h=> .inl h,fun x h=> .inl ?_,fun _ _ h=>h,fun _ _ h=> .inl h⟩;rcases h with h|⟨h,_⟩
 ·exact h
 ·exact h.elim (fun z=>tr _ _ _ z (sy _ _ z)) fun z=>tr _ _ _ z (sy _ _ z)
theorem il.mark(T:eZ f o p W)(k:il f o p W s){i j:Nat}{r:Pr}(hr:s.1 r r)(ov:Over f o p W (i:Int) (j:Int) r):il f o p W (zm s (aR (i,j)) r):=by
 unfold zm;cases e:s.2 (aR (i,j))with
 |some r0=>
  obtain⟨h1,i2,j2,h2,h3⟩:=k.mr _ _ e;have h2:(i:Int)=i2∧(j:Int)=j2:=by simpa[aR]using h2
  rw[←h2.1,←h2.2]at h3;exact k.VO h1 hr (over_over T h3 ov)
 |none=>
  refine⟨k.sy,k.tr,k.hg,fun c r' h=>?_⟩;have h:(if c=aR (i,j)then some r else s.2 c)=some r':=h;by_cases e2:c=aR (i,j)
  ·rw[MJ e2]at h;cases h;exact⟨hr,i,j,e2,ov⟩
  ·rw[Je e2]at h;exact k.mr c r' h
theorem JO(k:il f o p W s){c r:Pr}:Gw s (zm s c r) (fun _=>False) (·=c):=by
 unfold zm;cases e:s.2 c with
 |some r0=>exact(FT k.sy k.tr).wide (fun _ h=>h) fun _ h=>h.elim
 |none=>
  refine⟨fun _ _ h=>h,fun _ h=> .inl h,fun c' r' h=>?_,fun c' r' h=>?_⟩
  ·show(if c'=c then some r else s.2 c')=some r';rw[Je (fun z=>by rw[z,e]at h;cases h)];exact h
  ·have h:(if c'=c then some r else s.2 c')=some r':=h;by_cases e2:c'=c
   ·exact .inr e2
   ·rw[Je e2]at h;exact .inl h
theorem FU(k:il f o p W s){c r:Pr}(hr:s.1 r r):∃r',(zm s c r).2 c=some r'∧(zm s c r).1 r r':=by
 unfold zm;cases e:s.2 c with
 |some r0=>exact⟨r0,e, .inr ⟨.inr hr, .inl (k.mr _ _ e).1⟩⟩
 |none=>exact⟨r,XC,hr⟩
theorem tX(T:eZ f o p W){r:Pr}:∀(cs:List Pr)(s:GS),il f o p W s→s.1 r r→(∀c∈cs,∃i j:Nat,c=aR (i,j)∧Over f o p W (i:Int) (j:Int) r)→
  il f o p W (cs.foldl (fun s c=>zm s c r) s)∧Gw s (cs.foldl (fun s c=>zm s c r) s) (fun _=>False) (·∈cs)∧∀c∈cs,∃r',(cs.foldl (fun s c=>zm s c r) s).2 c=some r'∧(cs.foldl (fun s c=>zm s c r) s).1 r r'
 |[],s,k,_,_=>⟨k, .refl,fun c h=>by cases h⟩
 |c::cs,s,k,hr,h=>by
  obtain⟨i,j,rfl,ov⟩:=h c (XC);have k1:=k.mark T hr ov;have g1:=JO k (c:=aR (i,j)) (r:=r);obtain⟨r',m1,m2⟩:=FU k (c:=aR (i,j)) hr;obtain⟨a1,a2,a3⟩:=tX T cs _ k1 (g1.e _ _ hr) fun c hc=>h c (by simp[hc])
  refine⟨a1,(g1.wide (fun _ h=>h) fun x hx=>?_).trans (a2.wide (fun _ h=>h) fun x hx=>?_),fun c hc=>?_⟩
  ·show x∈_::_;rw[hx];simp
  ·exact Θ hx
  ·rcases List.mem_cons.mp hc with rfl|hc
   ·exact⟨r',a2.m _ _ m1,a2.e _ _ m2⟩
   ·exact a3 c hc
theorem rL(T:eZ f o p W){i j:Nat}{r:Pr}(h:Over f o p W ((i+1:Nat):Int) ((j+1:Nat):Int) r):∀c∈bu f o p i j,∃x y:Nat,c=aR (x,y)∧Over f o p W (x:Int) (y:Int) r:=by
 intro c hc;unfold bu at hc;rcases List.mem_append.mp hc with hc|hc
 ·split at hc
  ·rename_i e
   have:c=aR (i,j+1):=by simpa[aR]using hc
   refine⟨i,j+1,this,rK T h Hy (by lia) ?_ e⟩;have e1:((i+1:Nat):Int)-(i:Int)=1:=by lia
   have e2:((j+1:Nat):Int)-((j+1:Nat):Int)=0:=by lia
   rw[e1,e2];lia
  ·cases hc
 ·split at hc
  ·rename_i e
   have:c=aR (i+1,j):=by simpa[aR]using hc
   refine⟨i+1,j,this,rK T h Hy (by lia) ?_ e⟩;have e1:((i+1:Nat):Int)-((i+1:Nat):Int)=0:=by lia
   have e2:((j+1:Nat):Int)-(j:Int)=1:=by lia
   rw[e1,e2];lia
  ·cases hc
theorem FV(T:eZ f o p W)(k:il f o p W s){i j:Nat}{r:Pr}(hr:s.1 r r)(ov:Over f o p W ((i+1:Nat):Int) ((j+1:Nat):Int) r):
  il f o p W (JN f o p i j s r)∧Gw s (JN f o p i j s r) (·=aR (i,j)) (·∈bu f o p i j)∧(dF f o p i j=Bq f o p (i+1) (j+1)→(JN f o p i j s r).1 (aR (i,j)) r):=by
 unfold JN;by_cases e:dF f o p i j=Bq f o p (i+1) (j+1)
 ·rw[MJ e];have h:=Dr T ov e;have k1:=k.take h.left;have k2:=k1.VO (a:=aR (i,j)) (b:=r) (.inr ⟨rfl,rfl⟩) (.inl hr) h;refine⟨k2,⟨fun a b h=> .inl (.inl h),fun a h=>?_,fun _ _ h=>h,fun _ _ h=> .inl h⟩,fun _=> .inr ⟨.inl (.inr ⟨rfl,rfl⟩), .inr (.inl hr)⟩⟩;rcases(FT (s:=(JM s.1 (aR (i,j)),s.2)) k1.sy k1.tr).n a h with h|h
  ·exact h.imp id And.left
  ·exact h.elim
 ·rw[Je e];exact⟨⟨k.sy,k.tr,k.hg,k.mr⟩, .refl,fun z=>Z1 z e⟩
theorem Ph(T:eZ f o p W)(k:il f o p W s){i j:Nat}{r:Pr}(hr:s.1 r r)(ov:Over f o p W ((i+1:Nat):Int) ((j+1:Nat):Int) r):
  il f o p W (L8 f o p i j s r)∧Gw s (L8 f o p i j s r) (·=aR (i,j)) (·∈bu f o p i j)∧(dF f o p i j=Bq f o p (i+1) (j+1)→(L8 f o p i j s r).1 (aR (i,j)) r)∧∀c∈bu f o p i j,∃r',(L8 f o p i j s r).2 c=some r'∧(L8 f o p i j s r).1 r r':=by
 obtain⟨b1,b2,b3⟩:=FV T k hr ov;obtain⟨a1,a2,a3⟩:=tX T (bu f o p i j) _ b1 (b2.e _ _ hr) (rL T ov);exact⟨a1,b2.trans (a2.wide (fun _ h=>h.elim) fun _ h=>h),fun e=>a2.e _ _ (b3 e),a3⟩
theorem FW(k:il f o p W s)(i j:Nat):il f o p W (Ij f o p W i j s)∧Gw s (Ij f o p W i j s) (·=aR (i,j)) (fun _=>False)∧(dF f o p i j=some W→(Ij f o p W i j s).1 (aR (i,j)) (aR (i,j))):=by
 unfold Ij;by_cases e:dF f o p i j=some W
 ·rw[MJ e];exact⟨k.take (FQ e),⟨fun _ _ h=> .inl h,fun _ h=>h.imp id And.left,fun _ _ h=>h,fun _ _ h=> .inl h⟩,fun _=> .inr ⟨rfl,rfl⟩⟩
 ·rw[Je e];exact⟨⟨k.sy,k.tr,k.hg,k.mr⟩, .refl,fun z=>Z1 z e⟩
def L9(f:Nat→Nat→Option Int)(o p:Int)(i j:Nat)(c:Pr):Prop:=c∈bu f o p i j∨c=aR (i,j)
theorem FX(T:eZ f o p W)(k:il f o p W s)(i j:Nat):il f o p W (DX f o p W i j s)∧Gw s (DX f o p W i j s) (·=aR (i,j)) (L9 f o p i j)∧(dF f o p i j=some W→(DX f o p W i j s).1 (aR (i,j)) (aR (i,j)))∧∀r,s.2 (aR (i+1,j+1))=some r→
  (dF f o p i j=Bq f o p (i+1) (j+1)→(DX f o p W i j s).1 (aR (i,j)) r)∧∀c∈bu f o p i j,∃r',(DX f o p W i j s).2 c=some r'∧(DX f o p W i j s).1 r r':=by
 obtain⟨k1,g1,e1⟩:=FW k i j;unfold DX;cases e:s.2 (aR (i+1,j+1))with
 |none=>exact⟨k1,g1.wide (fun _ h=>h) fun _ h=>h.elim,e1,fun r h=>by cases h⟩
 |some r=>
  obtain⟨h1,i2,j2,h2,h3⟩:=k.mr _ _ e;have h2:((i+1:Nat):Int)=i2∧((j+1:Nat):Int)=j2:=by simpa[aR]using h2
  rw[←h2.1,←h2.2]at h3;obtain⟨a1,a2,a3,a4⟩:=Ph T k1 (g1.e _ _ h1) h3;refine⟨a1,(g1.wide (fun _ h=>h) fun _ h=>h.elim).trans (a2.wide (fun _ h=>h) fun _ h=> .inl h),fun z=>a2.e _ _ (e1 z),fun r' h=>?_⟩;cases h;exact⟨a3,a4⟩
theorem Pj(T:eZ f o p W)(k:il f o p W s)(i j:Nat):il f o p W (zQ f o p W i j s)∧Gw s (zQ f o p W i j s) (·=aR (i,j)) (L9 f o p i j)∧(dF f o p i j=some W→(zQ f o p W i j s).1 (aR (i,j)) (aR (i,j)))∧(∀r,s.2 (aR (i+1,j+1))=some r→
  (dF f o p i j=Bq f o p (i+1) (j+1)→(zQ f o p W i j s).1 (aR (i,j)) r)∧∀c∈bu f o p i j,∃r',(zQ f o p W i j s).2 c=some r'∧(zQ f o p W i j s).1 r r')∧
  ((zQ f o p W i j s).1 (aR (i,j)) (aR (i,j))→gN (Bq f o p i j)=true→∃r,(zQ f o p W i j s).2 (aR (i,j))=some r∧(zQ f o p W i j s).1 (aR (i,j)) r):=by
 obtain⟨k1,g1,e1,o1⟩:=FX T k i j;unfold zQ;split
 ·rename_i h
  have k2:=k1.mark T h.1 (Ii T (k1.hg _ _ h.1) h.2);have g2:=JO k1 (c:=aR (i,j)) (r:=aR (i,j));refine⟨k2,g1.trans (g2.wide (fun _ h=>h.elim) fun _ h=> .inr h),fun z=>g2.e _ _ (e1 z),fun r hr=>?_,fun _ _=>FU k1 h.1⟩;obtain⟨a1,a2⟩:=o1 r hr;refine⟨fun z=>g2.e _ _ (a1 z),fun c hc=>?_⟩;obtain⟨r',b1,b2⟩:=a2 c hc;exact⟨r',g2.m _ _ b1,g2.e _ _ b2⟩
 ·rename_i h
  exact⟨k1,g1,e1,o1,fun h1 h2=>Z1 ⟨h1,h2⟩ h⟩
end
structure Vd(f:Nat→Nat→Option Int)(o p W:Int)(V:Nat→Nat→Prop)(s:GS):Prop where
 ok:il f o p W s
 X':∀a,s.1 a a→∃i j:Nat,a=aR (i,j)∧V i j
 en:∀i j,V i j→dF f o p i j=some W→s.1 (aR (i,j)) (aR (i,j))
 on:∀i j,V i j→s.1 (aR (i,j)) (aR (i,j))→gN (Bq f o p i j)=true→∃r,s.2 (aR (i,j))=some r∧s.1 (aR (i,j)) r
 ov:∀i j r,V i j→s.2 (aR (i+1,j+1))=some r→(dF f o p i j=Bq f o p (i+1) (j+1)→s.1 (aR (i,j)) r)∧∀c∈bu f o p i j,∃r',s.2 c=some r'∧s.1 r r'
theorem iJ{a b c d:Nat}(h:aR (a,b)=aR (c,d)):a=c∧b=d:=by
 have h:(a:Int)=c∧(b:Int)=d:=by simpa[aR]using h
 lia
theorem FY{f:Nat→Nat→Option Int}{o p:Int}{i j a b:Nat}(h:L9 f o p i j (aR (a+1,b+1))):(a+1=i∧b+1=j)∨(a+1=i∧b=j)∨(a=i∧b+1=j):=by
 rcases h with h|h
 ·unfold bu at h;rcases List.mem_append.mp h with h|h
  ·split at h
   ·have:aR (a+1,b+1)=aR (i,j+1):=by simpa[aR]using h
    have:=iJ this
    lia
   ·cases h
  ·split at h
   ·have:aR (a+1,b+1)=aR (i+1,j):=by simpa[aR]using h
    have:=iJ this
    lia
   ·cases h
 ·have:=iJ h
  lia
def Vb(n m i j:Nat)(a b:Nat):Prop:=a<n∧b<m∧(i<a∨(i=a∧j≤b))
theorem Vd.start(f:Nat→Nat→Option Int)(o p W:Int)(n m:Nat):Vd f o p W (Vb n m n 0) (fun _ _=>False,fun _=>none):=by
 have no:∀a b,¬Vb n m n 0 a b:=fun a b ⟨h1,_,h2⟩=>by lia
 exact⟨⟨fun _ _ h=>h.elim,fun _ _ _ h=>h.elim,fun _ _ h=>h.elim,fun _ _ h=>(by cases h)⟩,fun _ h=>h.elim,fun i j h=>Z1 h (no i j),fun i j h=>Z1 h (no i j),fun i j r h=>Z1 h (no i j)⟩
theorem Vd.turn{f:Nat→Nat→Option Int}{o p W:Int}{n m i:Nat}{s:GS}(v:Vd f o p W (Vb n m (i+1) 0) s):Vd f o p W (Vb n m i m) s:=by
 have e:Vb n m (i+1) 0=Vb n m i m:=by
  funext a b
  simp only[Vb,eq_iff_iff]
  lia
 rw[←e];exact v
theorem Vd.next{f:Nat→Nat→Option Int}{o p W:Int}{n m i j:Nat}{s:GS}(T:eZ f o p W)(hi:i<n)(hj:j<m)(v:Vd f o p W (Vb n m i (j+1)) s):Vd f o p W (Vb n m i j) (zQ f o p W i j s):=by
 obtain⟨k,g,e,ov,on⟩:=Pj T v.ok i j;have cut:∀a b,Vb n m i j a b→(a=i∧b=j)∨Vb n m i (j+1) a b:=fun a b h=>by
  unfold Vb at h⊢
  lia
 have old:∀a b r,Vb n m i j a b→(zQ f o p W i j s).2 (aR (a+1,b+1))=some r→s.2 (aR (a+1,b+1))=some r:=fun a b r h hr=>by
  rcases g.k _ _ hr with z|z
  ·exact z
  ·have:=FY z;unfold Vb at h
   lia
 refine⟨k,fun a ha=>?_,fun a b h he=>?_,fun a b h h1 h2=>?_,fun a b r h hr=>?_⟩
 ·rcases g.n a ha with z|z
  ·obtain⟨x,y,h1,h2⟩:=v.X' a z;exact⟨x,y,h1,by unfold Vb at h2⊢;lia⟩
  ·exact⟨i,j,z,by unfold Vb;lia⟩
 ·rcases cut a b h with⟨rfl,rfl⟩|h'
  ·exact e he
  ·exact g.e _ _ (v.en a b h' he)
 ·rcases cut a b h with⟨rfl,rfl⟩|h'
  ·exact on h1 h2
  ·have hs:s.1 (aR (a,b)) (aR (a,b)):=by
    rcases g.n _ h1 with z|z
    ·exact z
    ·have:=iJ z;unfold Vb at h'
     lia
   obtain⟨r,z1,z2⟩:=v.on a b h' hs h2;exact⟨r,g.m _ _ z1,g.e _ _ z2⟩
 ·have L7:=old a b r h hr;rcases cut a b h with⟨rfl,rfl⟩|h'
  ·exact ov r L7
  ·obtain⟨z1,z2⟩:=v.ov a b r h' L7;refine⟨fun z=>g.e _ _ (z1 z),fun c hc=>?_⟩;obtain⟨r',y1,y2⟩:=z2 c hc;exact⟨r',g.m _ _ y1,g.e _ _ y2⟩
theorem jU{f:Nat→Nat→Option Int}{n m:Nat}(t:DQ f n m){ps:List Pr}(w:Wy (lf f) ps){a:Pr}(h:a∈ps):∃i j:Nat,a=aR (i,j)∧i<n∧j<m:=by
 have hs:=w.ok a h;obtain⟨i,j,rfl⟩:=BN hs;rw[qF]at hs;obtain⟨h1,h2⟩:=t i j hs;exact⟨i,j,rfl,h1,h2⟩
theorem Vd.step{f:Nat→Nat→Option Int}{o p W:Int}{n m:Nat}{s:GS}(T:eZ f o p W)(v:Vd f o p W (Vb n m 0 0) s){us vs:List Pr}{q r:Nat×Nat}(w:BW f o p W (us++aR q::aR r::vs))(hr:r.1<n)(zR:r.2<m)(hq:q.1<r.1)(FZ:q.2<r.2)(hE:s.1 (aR r) (aR r)):s.1 (aR q) (aR r):=by
 obtain⟨b1,b2,b3⟩:=between T w;have ok:=v.ok;have V0:∀a b,a<n→b<m→Vb n m 0 0 a b:=fun a b h1 h2=>⟨h1,h2,by lia⟩
 have top:=b1 r.1 r.2 hq FZ ZT (Nat.le_refl _);obtain⟨r0,m0,e0⟩:=v.on r.1 r.2 (V0 _ _ hr zR) hE (by rw[top];simpa[gN]using b3);have Yb:∀x y:Nat,u0 f o p (us++[aR q]) (x:Int) (y:Int)-o=u0 f o p (us++[aR q]) ((x+1:Nat):Int) (y:Int):=fun x y=>by
  unfold u0;have e1:((x+1:Nat):Int)-1-(lstP (us++[aR q])).1=((x:Int)-1-(lstP (us++[aR q])).1)+1:=by lia
  rw[e1,Int.mul_add];lia
 have Yc:∀x y:Nat,u0 f o p (us++[aR q]) (x:Int) (y:Int)-p=u0 f o p (us++[aR q]) (x:Int) ((y+1:Nat):Int):=fun x y=>by
  unfold u0;have e1:((y+1:Nat):Int)-1-(lstP (us++[aR q])).2=((y:Int)-1-(lstP (us++[aR q])).2)+1:=by lia
  rw[e1,Int.mul_add];lia
 have go:∀d x y:Nat,(r.1-x)+(r.2-y)=d→q.1<x→q.2<y→x≤r.1→y≤r.2→∃r',s.2 (aR (x,y))=some r'∧s.1 (aR r) r':=by
  intro d
  induction d with
  |zero=>
   intro x y hd h1 h2 h3 h4;have:x=r.1:=by lia
   have:y=r.2:=by lia
   subst x y;exact⟨r0,m0,e0⟩
  |succ d ih=>
   intro x y hd h1 h2 h3 h4;by_cases hx:x<r.1
   ·obtain⟨r1,m1,e1⟩:=ih (x+1) y Hy (by lia) h2 Hy h4;obtain⟨y,rfl⟩:∃y',y=y'+1:=⟨y-1,by lia⟩
    obtain⟨_,z⟩:=v.ov x y r1 (V0 _ _ (by lia) (by lia)) m1;have hc:aR (x,y+1)∈bu f o p x y:=by
     unfold bu;refine List.mem_append_left _ ?_;rw[if_pos]
     ·simp[aR]
     ·rw[b1 x (y+1) h1 h2 h3 h4,b1 (x+1) (y+1) (by lia) h2 Hy h4];simp only[bC];rw[Yb]
    obtain⟨r2,m2,e2⟩:=z _ hc;exact⟨r2,m2,ok.tr _ _ _ e1 e2⟩
   ·obtain⟨r1,m1,e1⟩:=ih x (y+1) (by lia) h1 Hy h3 Hy;obtain⟨x,rfl⟩:∃x',x=x'+1:=⟨x-1,by lia⟩
    obtain⟨_,z⟩:=v.ov x y r1 (V0 _ _ (by lia) (by lia)) m1;have hc:aR (x+1,y)∈bu f o p x y:=by
     unfold bu;refine List.mem_append_right _ ?_;rw[if_pos]
     ·simp[aR]
     ·rw[b1 (x+1) y h1 h2 h3 h4,b1 (x+1) (y+1) h1 Hy h3 Hy];simp only[bC];rw[Yc]
    obtain⟨r2,m2,e2⟩:=z _ hc;exact⟨r2,m2,ok.tr _ _ _ e1 e2⟩
 obtain⟨r1,m1,e1⟩:=go _ (q.1+1) (q.2+1) rfl (by lia) (by lia) (by lia) (by lia);obtain⟨z,_⟩:=v.ov q.1 q.2 r1 (V0 _ _ (by lia) (by lia)) m1;have:=z (by
  rw[b2,b1 (q.1+1) (q.2+1) (by lia) (by lia) (by lia) (by lia)]
  congr 1
  unfold u0;rw[dJ];have z1:((q.1+1:Nat):Int)-1-(aR q).1=0:=by show((q.1+1:Nat):Int)-1-(q.1:Int)=0;lia
  have z2:((q.2+1:Nat):Int)-1-(aR q).2=0:=by show((q.2+1:Nat):Int)-1-(q.2:Int)=0;lia
  rw[z1,z2,Int.mul_zero,Int.mul_zero];lia)
 exact ok.tr _ _ _ this (ok.sy _ _ e1)
theorem Vd.all{f:Nat→Nat→Option Int}{o p W:Int}{n m:Nat}{s:GS}(T:eZ f o p W)(t:DQ f n m)(v:Vd f o p W (Vb n m 0 0) s){ws:List Pr}(w:BW f o p W ws):
  ∀(vs us:List Pr),ws=us++vs→vs≠[]→∀a∈vs,s.1 a (jm vs)
 |[],_,_,h=>absurd rfl h
 |[l],us,e,_=>fun a ha=>by
  have ha:a=l:=by simpa using ha
  subst ha;show s.1 a a;obtain⟨i,j,rfl,hi,hj⟩:=jU t w.1 (a:=a) (by rw[e];simp);have hl:lstP ws=aR (i,j):=by rw[e];exact dJ
  obtain⟨b,hb,hle⟩:=xC (o:=o) (p:=p) w.1 hl;obtain⟨as,a1,a2,a3⟩:=mC hb;have:=T _ a1;have hW:=w.2;exact v.en i j ⟨hi,hj,by lia⟩ (by rw[hb];congr 1;lia)
 |q::r::vs,us,e,_=>fun a ha=>by
  have ih:=Vd.all T t v w (r::vs) (us++[q]) (by rw[e];simp) (XC);have M_:s.1 r r:=ih r Vs;have ok:=v.ok;obtain⟨i,j,hq,hi,hj⟩:=jU t w.1 (a:=q) (by rw[e];simp);obtain⟨x,y,hr,hx,hy⟩:=jU t w.1 (a:=r) (by rw[e];simp);have uN:yv q r:=by
   have:=w.1.up;rw[e]at this;exact(List.pairwise_cons.mp (List.pairwise_append.mp this).2.1).1 r Vs
  rw[hq,hr]at uN;have h1:(i:Int)<x:=uN.1;have h2:(j:Int)<y:=uN.2;rw[e,hq,hr]at w;have key:=v.step T w (q:=(i,j)) (r:=(x,y)) hx hy (by show i<x;lia) (by show j<y;lia) (by rw[←hr];exact M_);rw[←hq,←hr]at key;show s.1 a q;rcases List.mem_cons.mp ha with rfl|ha
  ·exact ok.tr _ _ _ key (ok.sy _ _ key)
  ·exact ok.tr _ _ _ (ih a ha) (ok.sy _ _ key)
theorem Vd.F1{f:Nat→Nat→Option Int}{o p W:Int}{n m:Nat}{s:GS}(T:eZ f o p W)(t:DQ f n m)(v:Vd f o p W (Vb n m 0 0) s)(a b:Pr):s.1 a b↔fH f o p W a b:=by
 refine⟨v.ok.hg a b,fun h=>?_⟩
 induction h with
 |way ps w h1 h2=>
  have k:=Vd.all T t v w ps [] rfl w.1.ne;exact v.ok.tr _ _ _ (k _ h1) (v.ok.sy _ _ (k _ h2))
 |tr _ _ i1 i2=>exact v.ok.tr _ _ _ i1 i2
theorem Told.iff{E E':Pr→Pr→Prop}{gs:List (List Pr)}(t:Told E gs)(h:∀a b,E a b↔E' a b):Told E' gs:=
 ⟨t.qH,t.ne,fun ps hp a ha b=>(t.cls ps hp a ha b).trans (h a b),fun a ha=>t.all a ((h a a).mpr ha),t.apart⟩
def NT(H:Hp)(a:Addr):Prop:=∃o,H a=some o∧∀v,o≠ .tup v
theorem NT.same{H H':Hp}{a:Addr}(h:NT H a)(s:av H H'):NT H' a:=let ⟨o,h1,h2⟩:=h;⟨o,s _ _ h1,h2⟩
theorem oW.cD{S S':Addr→Prop}{H H':Hp}(u:oW S H S' H')(h:∀a,S a→NT H a):c_ H H':=fun t v e=>u.keep t _ (fun z=>by
 obtain⟨o,h1,h2⟩:=h t z;rw[e]at h1;cases h1;exact h2 v rfl) e
theorem oW.out{S S':Addr→Prop}{H H':Hp}(u:oW S H S' H'){a:Addr}{o:HO}(h:¬S a)(e:H a=some o):¬S' a:=fun z=>by
 rcases u.grow a z with z|z
 ·exact h z
 ·rw[e]at z;cases z
theorem jT.nt{H:Hp}{C g:Addr}{S:Addr→Prop}{E:Pr→Pr→Prop}{B:Nat}(G:jT H C g S E B):jT H C g (fun a=>S a∧NT H a) E B:=by
 obtain⟨dg,dl,dm,kl,km,ld,mm,a1,a2,D,a4⟩:=G;refine⟨dg,dl,dm,kl,km,ld,mm,a1,fun z=>a2 z.1,⟨D.hl,D.hm,⟨D.sl,_,D.hl,fun v=>(XC)⟩,⟨D.sm,_,D.hm,fun v=>(XC)⟩,D.ne,D.lv,fun p=>?_,D.inj,D.key,D.B7,D.ms,D.ml,D.self⟩,a4⟩;have:=D.mv p;cases e:mm p with
 |none=>rw[e]at this;exact this
 |some ms=>
  rw[e]at this;obtain⟨a,us,h1,h2,h3,h4⟩:=this;exact⟨a,us,h1,h2,h3,h4,_,h2,fun v=>(XC)⟩
structure JP(K:W.Frag)(C:Addr):Prop where
 cl:wK K C
 tY:b_ K C "trails"
 worth:b_ K C "worth"
 groups:b_ K C "groups"
 marks:b_ K C "marks"
def jV(tr:Addr)(W:Int)(g dk:Addr):List (Str×V):=[("trails", .ref tr),("worth", .int W),("groups", .ref g),("marks", .ref dk)]
theorem mD(a:Addr)(W:Int)(b c:Addr):(jV a W b c).lookup ("trails":Str)=some (V.ref a):=by kernel_rfl
theorem F2(a:Addr)(W:Int)(b c:Addr):(jV a W b c).lookup ("worth":Str)=some (V.int W):=by kernel_rfl
theorem iY(a:Addr)(W:Int)(b c:Addr):(jV a W b c).lookup ("groups":Str)=some (V.ref b):=by kernel_rfl
theorem lQ(a:Addr)(W:Int)(b c:Addr):(jV a W b c).lookup ("marks":Str)=some (V.ref c):=by kernel_rfl
theorem Ca(a:Addr)(W:Int)(b c:Addr):(jV a W b c).lookup ("mark":Str)=none:=by kernel_rfl
theorem Ik(a:Addr)(W:Int)(b c:Addr):(jV a W b c).lookup ("go_over":Str)=none:=by kernel_rfl
theorem F5(a:Addr)(W:Int)(b c:Addr):(jV a W b c).lookup ("visit":Str)=none:=by kernel_rfl
theorem L_(a:Addr)(W:Int)(b c:Addr):bq "marks" (.ref c) (bq "groups" (.ref b) (bq "worth" (.int W) (bq "trails" (.ref a) [])))=jV a W b c:=by kernel_rfl
structure L'(H:Hp)(C CG x tr:Addr)(W:Int)(S:Addr→Prop)(s:GS)(B M:Nat)(dx g dk:Addr)(km:List (List Key×V))(S1:Addr→Prop):Prop where
 ob:H x=some (.ins C dx (jV tr W g dk))
 gr:jT H CG g S1 s.1 B
 hk:H dk=some (.dT km)
 mv:∀c,L5 H (bA km (ba c)) (s.2 c)
 len:km.length≤M
 sS:∀a,S a↔S1 a∨a=dk
 B7:¬S1 dk
 nx:¬S x
 ng:¬S g
 nt:∀a,S a→NT H a
def ip(H:Hp)(C CG x tr:Addr)(W:Int)(S:Addr→Prop)(s:GS)(B M:Nat):Prop:=∃dx g dk km S1,L' H C CG x tr W S s B M dx g dk km S1
theorem ip.nt{H:Hp}{C CG x tr:Addr}{W:Int}{S:Addr→Prop}{s:GS}{B M:Nat}(G:ip H C CG x tr W S s B M):∀a,S a→NT H a:=let ⟨_,_,_,_,_,D⟩:=G;D.nt
theorem ip.same{H H':Hp}{C CG x tr:Addr}{W:Int}{S:Addr→Prop}{s:GS}{B M:Nat}(G:ip H C CG x tr W S s B M)(t:av H H'):ip H' C CG x tr W S s B M:=by
 obtain⟨dx,g,dk,km,S1,D⟩:=G;exact⟨dx,g,dk,km,S1,t _ _ D.ob,D.gr.same t,t _ _ D.hk,fun c=>(D.mv c).cD (c_.same t),D.len,D.sS,D.B7,D.nx,D.ng,fun a h=>(D.nt a h).same t⟩
theorem ip.out{H:Hp}{C CG x tr:Addr}{W:Int}{S:Addr→Prop}{s:GS}{B M:Nat}(G:ip H C CG x tr W S s B M){a:Addr}(h:H a=none):¬S a:=fun z=>by
 obtain⟨o,e,_⟩:=G.nt a z;rw[h]at e;cases e
theorem ip.cast{H:Hp}{C CG x tr:Addr}{W:Int}{S:Addr→Prop}{s s':GS}{B M B' M':Nat}(G:ip H C CG x tr W S s B M)(h:s=s')(hB:B≤B')(hM:M≤M'):ip H C CG x tr W S s' B' M':=by
 subst h;obtain⟨dx,g,dk,km,S1,D⟩:=G;exact⟨dx,g,dk,km,S1,D.ob,D.gr.iff (fun _ _=>Iff.rfl) hB,D.hk,D.mv,by have:=D.len;lia,D.sS,D.B7,D.nx,D.ng,D.nt⟩
section
variable{H H':Hp}{C CG x tr dx g dk:Addr}{W:Int}{S S1 Ma:Addr→Prop}{s:GS}{B M B':Nat}{km:List (List Key×V)}
theorem L'.Q_(D:L' H C CG x tr W S s B M dx g dk km S1){E':Pr→Pr→Prop}(u:oW S1 H Ma H')(G:jT H' CG g Ma E' B'):∃S' S2,oW S H S' H'∧L' H' C CG x tr W S' (E',s.2) B' M dx g dk km S2:=by
 have s1:∀a,S1 a→S a:=fun a h=>(D.sS a).mpr (.inl h)
 have Yd:∀a,S1 a→NT H a:=fun a h=>D.nt a (s1 a h)
 have T:=u.cD Yd;have E2:=u.keep dk _ D.B7 D.hk;obtain⟨dg,dl,dm,kl,Il,ld,mm,og,_⟩:=id D.gr;have gone:∀{a o},¬S a→H a=some o→a≠dk→¬((Ma a∧NT H' a)∨a=dk):=fun{a o} h1 h2 h3 z=>by
  rcases z with z|z
  ·exact u.out (fun y=>h1 (s1 _ y)) h2 z.1
  ·exact h3 z
 have AS:S dk:=(D.sS dk).mpr (.inr rfl);refine⟨fun a=>(Ma a∧NT H' a)∨a=dk,fun a=>Ma a∧NT H' a,⟨fun a h=>?_,fun a o h e=>u.keep a o (fun z=>h (s1 a z)) e⟩,⟨u.keep x _ (fun z=>D.nx (s1 _ z)) D.ob,G.nt,E2,fun c=>(D.mv c).cD T,D.len,fun a=>Iff.rfl,fun z=>u.out D.B7 D.hk z.1,gone D.nx D.ob (fun z=>D.nx (by rw[z];exact AS)),gone D.ng og (fun z=>D.ng (by rw[z];exact AS)),fun a h=>?_⟩⟩
 ·rcases h with h|h
  ·exact(u.grow a h.1).imp (s1 a) id
  ·exact .inl (by rw[h];exact AS)
 ·rcases h with h|h
  ·exact h.2
  ·exact⟨_,by rw[h];exact E2,fun v=>(XC)⟩
theorem L'.put(D:L' H C CG x tr W S s B M dx g dk km S1){c r:Pr}{t:Addr}(ht:H t=some (.tup (jk r))):oW S H S (upd H dk (.dT (putK km (ba c) (.ref t))))∧L' (upd H dk (.dT (putK km (ba c) (.ref t)))) C CG x tr W S (s.1,fun y=>if y=c then some r else s.2 y) B (M+1) dx g dk (putK km (ba c) (.ref t)) S1:=by
 have AS:S dk:=(D.sS dk).mpr (.inr rfl);have nx:x≠dk:=fun z=>D.nx (by rw[z];exact AS)
 have ng:g≠dk:=fun z=>D.ng (by rw[z];exact AS)
 have T:c_ H (upd H dk (.dT (putK km (ba c) (.ref t)))):=fun b v hb=>by
  rw[ao (fun z=>by rw[z,D.hk]at hb;cases hb)];exact hb
 refine⟨.put AS,⟨by rw[ao nx];exact D.ob,D.gr.keep (fun a o h e=>by rw[ao (fun z=>D.B7 (by rw[←z];exact h))];exact e) T (fun o e=>by rw[ao ng];exact e),ae,fun y=>?_,Nat.le_trans (eU _ _ _) (by have:=D.len;lia),D.sS,D.B7,D.nx,D.ng,fun a h=>?_⟩⟩
 ·show L5 _ _ (if y=c then some r else s.2 y);rw[i6];by_cases e:y=c
  ·rw[MJ (by rw[e]),MJ e];exact⟨t,rfl,T _ _ ht⟩
  ·rw[Je (fun z=>e (du z)),Je e];exact(D.mv y).cD T
 ·by_cases e:a=dk
  ·exact⟨_,by rw[e];exact ae,fun v=>(XC)⟩
  ·obtain⟨o,h1,h2⟩:=D.nt a h;exact⟨o,by rw[ao e];exact h1,h2⟩
end
structure Base(H0 H:Hp)(S:Addr→Prop):Prop where
 same:av H0 H
 free:∀a,S a→H0 a=none
theorem Base.ups{H0 H H':Hp}{S S':Addr→Prop}(b:Base H0 H S)(u:oW S H S' H'):Base H0 H' S':=by
 refine⟨fun a o h=>u.keep a o (fun z=>by rw[b.free a z]at h;cases h) (b.same a o h),fun a h=>?_⟩;rcases u.grow a h with z|z
 ·exact b.free a z
 ·exact b.same.free z
theorem Base.more{H0 H H':Hp}{S:Addr→Prop}(b:Base H0 H S)(s:av H H'):Base H0 H' S:=⟨b.same.trans s,b.free⟩
inductive qM(C CG:Addr)(vs:List V)(H:Hp)(Q:VK)(u3:XK):Prop
 |mk (x dx tr:Addr) (W:Int) (_:vs=[.ref x, .ref tr, .int W]) (_:H x=some (.ins C dx [])) (_:∀H' S,SameBut x H H'→(∀a,S a→H a=none)→ip H' C CG x tr W S (fun _ _=>False,fun _=>none) 0 0→Q .cL H'):qM C CG vs H Q u3
inductive tZ(C CG:Addr)(vs:List V)(H:Hp)(Q:VK)(u3:XK):Prop
 |mk (x tc tp tr:Addr) (W:Int) (c r:Pr) (S:Addr→Prop) (s:GS) (B M:Nat) (_:vs=[.ref x, .ref tc, .ref tp]) (_:ip H C CG x tr W S s B M) (_:H tc=some (.tup (jk c))) (_:H tp=some (.tup (jk r))) (_:s.1 r r) (_:∀r0,s.2 c=some r0→s.1 r0 r0) (_:B≤10000) (_:M≤10000) (_:∀H' S',oW S H S' H'→ip H' C CG x tr W S' (zm s c r) B (M+1)→Q .cL H'):tZ C CG vs H Q u3
inductive t5(C CG CT:Addr)(vs:List V)(H:Hp)(Q:VK)(u3:XK):Prop
 |mk (x tc tp tr dt e b:Addr) (es bs:List Addr) (f:Nat→Nat→Option Int) (o p:Int) (n m:Nat) (W:Int) (i j:Nat) (r:Pr) (S:Addr→Prop) (s:GS) (B M:Nat) (H0:Hp) (_:vs=[.ref x, .ref tc, .ref tp]) (_:ip H C CG x tr W S s B M) (_:qI H0 CT tr dt e b es bs f o p n m) (_:Base H0 H S) (_:H tc=some (.tup (jk (aR (i+1,j+1))))) (_:H tp=some (.tup (jk (aR (i,j))))) (_:i<n) (_:j<m) (_:eZ f o p W) (_:il f o p W s) (_:s.2 (aR (i+1,j+1))=some r) (_:B<10000) (_:M+2≤10000)
  (_:∀H' S',oW S H S' H'→ip H' C CG x tr W S' (L8 f o p i j s r) (B+1) (M+2)→Q .cL H'):t5 C CG CT vs H Q u3
inductive qN(C CG CT:Addr)(vs:List V)(H:Hp)(Q:VK)(u3:XK):Prop
 |mk (x tr dt e b:Addr) (es bs:List Addr) (f:Nat→Nat→Option Int) (o p:Int) (n m:Nat) (W:Int) (i j:Nat) (S:Addr→Prop) (s:GS) (B M:Nat) (H0:Hp) (_:vs=[.ref x, .int i, .int j]) (_:ip H C CG x tr W S s B M) (_:qI H0 CT tr dt e b es bs f o p n m) (_:Base H0 H S) (_:i<n) (_:j<m) (_:n≤1000) (_:m≤1000) (_:eZ f o p W) (_:il f o p W s) (_:B+2≤10000) (_:M+3≤10000)
  (_:∀H' S',oW S H S' H'→ip H' C CG x tr W S' (zQ f o p W i j s) (B+2) (M+3)→Q .cL H'):qN C CG CT vs H Q u3
inductive AU(CT:Addr)(vs:List V)(H:Hp)(Q:VK)(u3:XK):Prop
 |mk (tr dt e b:Addr) (es bs:List Addr) (f:Nat→Nat→Option Int) (o p:Int) (n m:Nat) (W:Int) (_:vs=[.ref tr, .int W]) (_:qI H CT tr dt e b es bs f o p n m) (_:DQ f n m) (_:n*m≤3000) (_:n≤1000) (_:m≤1000) (_:eZ f o p W)
  (_:∀H' r us gs,av H H'→H r=none→H' r=some (.lst us)→gi H' us gs→(∀(k:Nat) a,us[k]?=some (.ref a)→H a=none)→Told (fH f o p W) gs→Q (.ref r) H'):AU CT vs H Q u3
structure Fd where
 worth:Int
 way:List Pr
 row:List Int
 pairs:List Pr
def zS(g:Pr→Option Int)(o p:Int)(ps:List Pr):List Int:=(ZR ps.length).map fun k=>vl g o p (ps.take (k+1))
theorem F8(g:Pr→Option Int)(o p:Int)(ps:List Pr)(q:Pr):zS g o p (ps++[q])=zS g o p ps++[vl g o p (ps++[q])]:=by
 unfold zS;rw[List.length_append,List.length_singleton,List.range_succ,List.map_append]
 congr 1
 ·apply List.map_congr_left;intro k hk;have:k<ps.length:=by simpa using hk
  rw[List.take_append_of_le_length Hy]
 ·simp;rw[List.take_of_length_le Vs]
structure Pk(f:Nat→Nat→Option Int)(o p W:Int)(d:Fd):Prop where
 worth:d.worth=W
 way:BW f o p W d.way
 row:d.row=zS (lf f) o p d.way
 sub:∀q∈d.way,q∈d.pairs
def ka(f:Nat→Nat→Option Int)(ps:List Pr):Nat→Nat→Option Int:=fun i j=>if aR (i,j)∈ps then none else f i j
def Stop(f:Nat→Nat→Option Int)(o p least:Int):Prop:=∀ps,Wy (lf f) ps→vl (lf f) o p ps<least
structure jA(f:Nat→Nat→Option Int)(o p least W:Int)(gs:List (List Pr))(ds:List Fd):Prop where
 top:eZ f o p W
 ex:∃ps,BW f o p W ps
 least:least≤W
 told:Told (fH f o p W) gs
 F9:ds.map Fd.pairs=gs
 ok:∀d∈ds,Pk f o p W d
inductive Reach(f0:Nat→Nat→Option Int)(o p least:Int):List Fd→(Nat→Nat→Option Int)→Prop
 |start:Reach f0 o p least [] f0
 |round {done:List Fd} {f:Nat→Nat→Option Int} {W:Int} {gs:List (List Pr)} {ds:List Fd} (_:Reach f0 o p least done f) (_:jA f o p least W gs ds):Reach f0 o p least (done++ds) (ka f gs.flatten)
theorem F_{f:Nat→Nat→Option Int}{n m:Nat}(t:DQ f n m)(ps:List Pr):DQ (ka f ps) n m:=fun i j h=>t i j (by
 unfold ka at h;split at h
 ·cases h
 ·exact h)
theorem Reach.Ua{f0 f:Nat→Nat→Option Int}{o p least:Int}{ds:List Fd}{n m:Nat}(t:DQ f0 n m)(r:Reach f0 o p least ds f):DQ f n m:=by
 induction r with
 |start=>exact t
 |round _ _ ih=>exact F_ ih _
theorem mE(f:Nat→Nat→Option Int)(ps:List Pr)(q:Pr):lf (ka f ps) q=if q∈ps then none else lf f q:=by
 unfold lf ka;by_cases h:0≤q.1∧0≤q.2
 ·rw[MJ h,MJ h];have:aR (q.1.toNat,q.2.toNat)=q:=Prod.ext (by simp[aR];lia) (by simp[aR];lia);rw[this]
 ·rw[Je h,Je h];split<;>rfl
theorem fH.open{f:Nat→Nat→Option Int}{o p W:Int}{a b:Pr}(h:fH f o p W a b):(lf f a).isSome=true:=by
 obtain⟨ps,⟨w,_⟩,hm⟩:=h.on;exact w.ok a hm
theorem Told.mem{E:Pr→Pr→Prop}{gs:List (List Pr)}(t:Told E gs){ps:List Pr}(h:ps∈gs){a:Pr}(ha:a∈ps):E a a:=(t.cls ps h a ha a).mp ha
structure Apart(f0 f:Nat→Nat→Option Int)(ds:List Fd):Prop where
 sub:∀q,(lf f q).isSome=true→lf f q=lf f0 q
 shut:∀d∈ds,∀q∈d.pairs,lf f q=none∧(lf f0 q).isSome=true
 ap:ds.Pairwise fun a b=>∀q∈a.pairs,q∉b.pairs
 qH:∀d∈ds,d.pairs.Pairwise (fun p q=>iW p q=true)∧d.pairs≠[]
 gone:∀q,lf f q=none→(lf f0 q).isSome=true→∃d∈ds,q∈d.pairs
theorem Reach.apart{f0 f:Nat→Nat→Option Int}{o p least:Int}{ds:List Fd}(r:Reach f0 o p least ds f):Apart f0 f ds:=by
 induction r with
 |start=>exact⟨fun _ _=>rfl,fun d h=>(by cases h), .nil,fun d h=>(by cases h),fun q h1 h2=>by rw[h1]at h2;cases h2⟩
 |@round done f W gs ds r R ih=>
  have mem:∀d∈ds,d.pairs∈gs:=fun d h=>by rw[←R.F9];exact List.mem_map.mpr ⟨d,h,rfl⟩
  have op:∀d∈ds,∀q∈d.pairs,(lf f q).isSome=true:=fun d h q hq=>(R.told.mem (mem d h) hq).open
  refine⟨fun q h=>?_,fun d h q hq=>?_,?_,fun d h=>?_,fun q h1 h2=>?_⟩
  ·rw[mE]at h⊢;split at h
   ·cases h
   ·rename_i hn
    rw[Je hn];exact ih.sub q h
  ·rw[mE];rcases List.mem_append.mp h with h|h
   ·obtain⟨h1,h2⟩:=ih.shut d h q hq;exact⟨by split;rfl;exact h1,h2⟩
   ·rw[MJ (List.mem_flatten.mpr ⟨_,mem d h,hq⟩)];have:=op d h q hq;exact⟨rfl,by rw[←ih.sub q this];exact this⟩
  ·refine List.pairwise_append.mpr ⟨ih.ap,?_,fun a ha b hb q hq FZ=>?_⟩
   ·have:=R.told.apart;rw[←R.F9,List.pairwise_map]at this;exact this
   ·have h1:=(ih.shut a ha q hq).1;have h2:=op b hb q FZ;rw[h1]at h2;cases h2
  ·rcases List.mem_append.mp h with h|h
   ·exact ih.qH d h
   ·exact⟨R.told.qH _ (mem d h),R.told.ne _ (mem d h)⟩
  ·rw[mE]at h1;by_cases hm:q∈gs.flatten
   ·obtain⟨ps,DT,hq⟩:=List.mem_flatten.mp hm;rw[←R.F9]at DT;obtain⟨d,hd,rfl⟩:=List.mem_map.mp DT;exact⟨d,Δ hd,hq⟩
   ·rw[Je hm]at h1;obtain⟨d,hd,hq⟩:=ih.gone q h1 h2;exact⟨d,γ hd,hq⟩
theorem t6(f:Nat→Nat→Option Int)(o p:Int):∀i j v,Bq f o p i j=some v→∃e,dF f o p (cK f o p i j).1 (cK f o p i j).2=some e∧v=e-(o*((i:Int)-1-(cK f o p i j).1)+p*((j:Int)-1-(cK f o p i j).2))
 |0,j,v,h=>by rw[iI]at h;cases h
 |i+1,0,v,h=>by unfold Bq at h;cases h
 |i+1,j+1,v,hB=>by
  unfold cK;by_cases h1:dF f o p i j=Bq f o p (i+1) (j+1)
  ·rw[MJ h1];refine⟨v,by rw[h1,hB],?_⟩;have e1:((i+1:Nat):Int)-1-((i,j).1:Int)=0:=by show((i+1:Nat):Int)-1-(i:Int)=0;lia
   have e2:((j+1:Nat):Int)-1-((i,j).2:Int)=0:=by show((j+1:Nat):Int)-1-(j:Int)=0;lia
   rw[e1,e2,Int.mul_zero,Int.mul_zero];lia
  ·rw[Je h1];by_cases h2:bC (Bq f o p i (j+1)) o=Bq f o p (i+1) (j+1)
   ·rw[MJ h2];cases e:Bq f o p i (j+1)with
    |none=>rw[e,hB]at h2;cases h2
    |some v2=>
     rw[e,hB]at h2;have h2:v2-o=v:=by simpa[bC]using h2
     obtain⟨x,hx,hv⟩:=t6 f o p i (j+1) v2 e;refine⟨x,hx,?_⟩;have e1:((i+1:Nat):Int)-1-((cK f o p i (j+1)).1:Int)=((i:Int)-1-(cK f o p i (j+1)).1)+1:=by lia
     rw[e1,Int.mul_add]
     lia
   ·rw[Je h2];have e0:Bq f o p (i+1) (j+1)=oQ [dF f o p i j,bC (Bq f o p i (j+1)) o,bC (Bq f o p (i+1) j) p]:=by rw[Bq];rfl
    have key:∀a b c:Option Int,oQ [a,b,c]≠a→oQ [a,b,c]≠b→c=oQ [a,b,c]:=fun a b c=>by
     cases a<;>cases b<;>cases c<;>simp[oQ]<;>lia
    have h3:bC (Bq f o p (i+1) j) p=Bq f o p (i+1) (j+1):=by
     rw[e0];exact key _ _ _ (fun z=>h1 (by rw[e0];exact z.symm)) (fun z=>h2 (by rw[e0];exact z.symm))
    cases e:Bq f o p (i+1) j with
    |none=>rw[e,hB]at h3;cases h3
    |some v2=>
     rw[e,hB]at h3;have h3:v2-p=v:=by simpa[bC]using h3
     obtain⟨x,hx,hv⟩:=t6 f o p (i+1) j v2 e;refine⟨x,hx,?_⟩;have e1:((j+1:Nat):Int)-1-((cK f o p (i+1) j).2:Int)=((j:Int)-1-(cK f o p (i+1) j).2)+1:=by lia
     rw[e1,Int.mul_add]
     lia
termination_by i j=>(i,j)
theorem Im(f:Nat→Nat→Option Int)(o p:Int):∀(k i j:Nat)(v:Int),i≤k→dF f o p i j=some v→Wy (lf f) ((eF f o p i i j).map aR)∧lstP ((eF f o p i i j).map aR)=aR (i,j)∧vl (lf f) o p ((eF f o p i i j).map aR)=v∧(eF f o p i i j).map (fun q=>dF f o p q.1 q.2)=(zS (lf f) o p ((eF f o p i i j).map aR)).map some:=by
 intro k
 induction k with
 |zero=>
  intro i j v hi he;have:i=0:=by lia
  subst this;rw[gR (fun h=>by rw[iI]at h;cases h)];have hw:f 0 j=some v:=by
   unfold dF at he;rw[iI]at he;cases e:f 0 j with
   |none=>rw[e]at he;cases he
   |some w=>rw[e]at he;exact he
  have hl:lf f (aR (0,j))=some v:=by rw[←hw];exact qF f 0 j
  refine⟨.one (by rw[hl];rfl),rfl,by simp[vl,hl],?_⟩;simp[zS,vl,hl,he]
 |succ k ih=>
  intro i j v hi he;by_cases hg:gN (Bq f o p i j)=true
  ·obtain⟨a1,a2,a3⟩:=j_ hg;obtain⟨l1,l2⟩:=(kK f o p i j a1 a2).resolve_right a3;rw[wg hg,List.map_append,List.map_append];cases eb:Bq f o p i j with
   |none=>exact Z1 eb a3
   |some b=>
    obtain⟨x,hx,hb⟩:=t6 f o p i j b eb;obtain⟨w1,w2,w3,w4⟩:=ih _ _ x (by lia) hx;have aaF:0≤b:=by rw[eb]at hg;simpa[gN]using hg
    have hw:∃w,f i j=some w∧v=w+b:=by
     unfold dF at he;rw[eb]at he;cases e:f i j with
     |none=>rw[e]at he;cases he
     |some w=>
      rw[e]at he;simp only[HQ,show ¬b<0 by lia,if_false,Option.some.injEq]at he;exact⟨w,rfl,by lia⟩
    obtain⟨w,hw,hv⟩:=hw;have hl:lf f (aR (i,j))=some w:=by rw[←hw];exact qF f i j
    have st:yv (lstP ((eF f o p (cK f o p i j).1 (cK f o p i j).1 (cK f o p i j).2).map aR)) (aR (i,j)):=by
     rw[w2];exact⟨by simp[aR];lia,by simp[aR];lia⟩
    have ev:vl (lf f) o p ((eF f o p (cK f o p i j).1 (cK f o p i j).1 (cK f o p i j).2).map aR++[aR (i,j)])=v:=by
     rw[oS _ _ _ w1.ne,w2,w3,hl];simp only[gp,Option.getD_some];have e1:(aR (i,j)).1-(aR ((cK f o p i j).1,(cK f o p i j).2)).1-1=(i:Int)-1-(cK f o p i j).1:=by show(i:Int)-((cK f o p i j).1:Int)-1=_;lia
     have e2:(aR (i,j)).2-(aR ((cK f o p i j).1,(cK f o p i j).2)).2-1=(j:Int)-1-(cK f o p i j).2:=by show(j:Int)-((cK f o p i j).2:Int)-1=_;lia
     rw[e1,e2]
     lia
    refine⟨w1.snoc (by rw[hl];rfl) st,dJ,ev,?_⟩;show _++[dF f o p i j]=(zS (lf f) o p (_++[aR (i,j)])).map some;rw[F8,List.map_append,w4,he];show _++[some v]=_++[some _];rw[ev]
  ·rw[gR hg];have hw:f i j=some v:=by
    unfold dF at he;cases e:f i j with
    |none=>rw[e]at he;cases he
    |some w=>
     rw[e]at he;cases eb:Bq f o p i j with
     |none=>rw[eb]at he;exact he
     |some b=>
      rw[eb]at he hg;have:b<0:=by
       have:¬0≤b:=fun z=>hg (by simpa[gN]using z)
       lia
      simp only[HQ,this,if_true]at he;exact he
   have hl:lf f (aR (i,j))=some v:=by rw[←hw];exact qF f i j
   refine⟨.one (by rw[hl];rfl),rfl,by simp[vl,hl],?_⟩;simp[zS,vl,hl,he]
def Io(f:Nat→Nat→Option Int)(o p:Int)(n m:Nat):Option Int:=oQ ((ZR n).map fun i=>oQ ((ZR m).map (dF f o p i)))
theorem F'{f:Nat→Nat→Option Int}{n m:Nat}(t:DQ f n m)(o p:Int):f9 (fun v=>∃ps,Wy (lf f) ps∧v=vl (lf f) o p ps) (Io f o p n m):=by
 refine(kI _).Vy (fun v hv=>?_) (fun v hv=>?_)
 ·obtain⟨i,_,h2⟩:=List.mem_map.mp hv;have h3:=kI ((ZR m).map (dF f o p i));rw[h2]at h3;obtain⟨j,_,h4⟩:=List.mem_map.mp h3.1;obtain⟨as,a1,_,a3⟩:=mC h4;exact⟨as,a1,a3.symm⟩
 ·obtain⟨ps,w,rfl⟩:=hv;obtain⟨i,j,hl,hi,hj⟩:=jU t w (cQ w.ne);obtain⟨b,hb,hle⟩:=xC (o:=o) (p:=p) w hl;have h3:=kI ((ZR m).map (dF f o p i));have lJ:some b∈(ZR m).map (dF f o p i):=List.mem_map.mpr ⟨j,by simpa using hj,hb⟩;cases e:oQ ((ZR m).map (dF f o p i))with
  |none=>rw[e]at h3;exact Z1 lJ (h3 b)
  |some u=>
   rw[e]at h3;refine⟨u,List.mem_map.mpr ⟨i,by simpa using hi,e⟩,?_⟩;have:=h3.2 b lJ
   lia
theorem Ds{f:Nat→Nat→Option Int}{o p W:Int}(T:eZ f o p W){n m:Nat}(t:DQ f n m){a b:Pr}(h:fH f o p W a b):∃i j:Nat,dF f o p i j=some W∧i<n∧j<m∧fH f o p W a (aR (i,j)):=by
 obtain⟨ps,w,hm⟩:=h.on;obtain⟨i,j,hl,hi,hj⟩:=jU t w.1 (cQ w.1.ne);obtain⟨v,hb,hle⟩:=xC (o:=o) (p:=p) w.1 hl;obtain⟨as,a1,_,a3⟩:=mC hb;have:=T _ a1;have hW:=w.2;refine⟨i,j,by rw[hb];congr 1;lia,hi,hj, .way ps w hm ?_⟩;rw[←hl];exact cQ w.1.ne
def u7(n m:Nat):List Pr:=(ZR n).flatMap fun i=>(ZR m).map fun j=>aR (i,j)
theorem oY(n m:Nat):(u7 n m).length=n*m:=by
 unfold u7
 induction n with
 |zero=>simp
 |succ n ih=>
  rw[List.range_succ,List.flatMap_append,List.length_append,ih,Nat.succ_mul];simp
theorem oZ{n m i j:Nat}(hi:i<n)(hj:j<m):aR (i,j)∈u7 n m:=List.mem_flatMap.mpr ⟨i,by simpa using hi,List.mem_map.mpr ⟨j,by simpa using hj,rfl⟩⟩
theorem Told.uO{E:Pr→Pr→Prop}{gs:List (List Pr)}{n m:Nat}(t:Told E gs)(h:∀g∈gs,∀a∈g,∃i j:Nat,a=aR (i,j)∧i<n∧j<m):gs.length≤n*m:=by
 have hf:∀g∈gs,jm g∈g:=fun g hg=>by
  cases e:g with
  |nil=>exact Z1 e (t.ne g hg)
  |cons a r=>simp[jm]
 have:=len_sub (gs.map jm) (u7 n m) (List.pairwise_map.mpr (List.Pairwise.imp_of_mem (fun{a b} ha hb FO e=>FO (jm a) (hf a ha) (by rw[e];exact hf b hb)) t.apart)) fun x hx=>by
  obtain⟨g,hg,rfl⟩:=List.mem_map.mp hx;obtain⟨i,j,e,hi,hj⟩:=h g hg _ (hf g hg);rw[e];exact oZ hi hj
 rw[List.length_map,oY]at this;exact this
structure wj(P:Addr→Prop)(H:Hp)(CF a:Addr)(d:Fd)(dy wy rw pr:Addr)(lz iA:List V):Prop where
 ob:H a=some (.ins CF dy (m4 d.worth wy rw pr))
 hw:H wy=some (.lst lz)
 pw:fT H lz d.way
 hr:H rw=some (.lst (d.row.map V.int))
 hp:H pr=some (.lst iA)
 pp:fT H iA d.pairs
 fa:P a
 fw:P wy
 fr:P rw
 fp:P pr
def cb(P:Addr→Prop)(H:Hp)(CF:Addr)(us:List V)(ds:List Fd):Prop:=us.length=ds.length∧∀(k:Nat) d,ds[k]?=some d→∃a dy wy rw pr lz iA,us[k]?=some (V.ref a)∧wj P H CF a d dy wy rw pr lz iA
theorem wj.keep{P P':Addr→Prop}{H H':Hp}{CF a:Addr}{d:Fd}{dy wy rw pr:Addr}{lz iA:List V}(F:wj P H CF a d dy wy rw pr lz iA)(h:∀b o,P b→H b=some o→H' b=some o)(t:c_ H H')(hP:∀b,P b→P' b):wj P' H' CF a d dy wy rw pr lz iA:=
 ⟨h _ _ F.fa F.ob,h _ _ F.fw F.hw,F.pw.cD t,h _ _ F.fr F.hr,h _ _ F.fp F.hp,F.pp.cD t,hP _ F.fa,hP _ F.fw,hP _ F.fr,hP _ F.fp⟩
theorem cb.keep{P P':Addr→Prop}{H H':Hp}{CF:Addr}{us:List V}{ds:List Fd}(F:cb P H CF us ds)(h:∀b o,P b→H b=some o→H' b=some o)(t:c_ H H')(hP:∀b,P b→P' b):cb P' H' CF us ds:=
 ⟨F.1,fun k d e=>let ⟨a,dy,wy,rw,pr,lz,iA,h1,h2⟩:=F.2 k d e;⟨a,dy,wy,rw,pr,lz,iA,h1,h2.keep h t hP⟩⟩
theorem cb.nil{P:Addr→Prop}{H:Hp}{CF:Addr}:cb P H CF [] []:=⟨rfl,fun k d e=>by simp at e⟩
theorem cb.append{P:Addr→Prop}{H:Hp}{CF:Addr}{us vs:List V}{ds es:List Fd}(F:cb P H CF us ds)(G:cb P H CF vs es):cb P H CF (us++vs) (ds++es):=by
 refine⟨by rw[List.length_append,List.length_append,F.1,G.1],fun k d e=>?_⟩;by_cases hk:k<ds.length
 ·rw[ZZ hk]at e;rw[ZZ (by rw[F.1];exact hk)];exact F.2 k d e
 ·rw[Α Hy]at e;rw[Α (by rw[F.1];lia),F.1];exact G.2 _ d e
inductive t8(CT:Addr)(vs:List V)(H:Hp)(Q:VK)(u3:XK):Prop
 |mk (f g t:Addr) (v:V) (c:Case) (shut:List Pr) (_:vs=[.ref f, .ref g, .ref t,v]) (_:H f=some (.lst (c.xs.map V.str))) (_:H g=some (.lst (c.ys.map V.str))) (_:yX H CT t c) (_:E9 H v shut) (_:shut.length≤1000) (_:c.xs.length≤1000) (_:c.ys.length≤1000) (_:∀H' e as,av H H'→H' e=some (.lst (as.map V.ref))→H e=none→i_ H' as (iH c shut) c.xs.length c.ys.length→as.Nodup→e∉as→(∀a∈as,H a=none)→Q (.ref e) H'):t8 CT vs H Q u3
inductive o6(CT CF:Addr)(vs:List V)(H:Hp)(Q:VK)(u3:XK):Prop
 |mk (w t:Addr) (as:List Addr) (c:Case) (f:Nat→Nat→Option Int) (n m:Nat) (_:vs=[.ref w, .ref t]) (_:H w=some (.lst (as.map V.ref))) (_:i_ H as f n m) (_:yX H CT t c) (_:DQ f n m) (_:n*m≤3000) (_:n≤1000) (_:m≤1000)
  (_:Stop f c.out c.into c.least→∀H' r,av H H'→H r=none→H' r=some (.lst [])→Q (.ref r) H')
  (_:∀W gs ds,jA f c.out c.into c.least W gs ds→gs≠[]→∀H' r us,av H H'→H r=none→H' r=some (.lst us)→cb (fun b=>H b=none) H' CF us ds→Q (.ref r) H'):o6 CT CF vs H Q u3
inductive t9(CF:Addr)(vs:List V)(H:Hp)(Q:VK)(u3:XK):Prop
 |mk (w md:Addr) (as:List Addr) (us:List V) (ds:List Fd) (f:Nat→Nat→Option Int) (n m:Nat) (_:vs=[.ref w, .ref md]) (_:H w=some (.lst (as.map V.ref))) (_:as.Nodup) (_:w∉as) (_:i_ H as f n m) (_:H md=some (.lst us)) (_:md∉as) (_:cb (fun b=>b∉as) H CF us ds) (_:∀d∈ds,∀q∈d.pairs,∃i j:Nat,q=aR (i,j)∧i<n∧j<m)
  (_:∀H',(∀b o,b∉as→H b=some o→H' b=some o)→c_ H H'→i_ H' as (ka f (ds.map Fd.pairs).flatten) n m→Q .cL H'):t9 CF vs H Q u3
def Mb(a b:Fd):Bool:=if a.worth=b.worth then iW (jm a.pairs) (jm b.pairs)else decide (b.worth<a.worth)
structure bR(f0:Nat→Nat→Option Int)(o p least:Int)(es:List Fd):Prop where
 Ra:∃ds f,Reach f0 o p least ds f∧Stop f o p least∧es.Perm ds
 uO:es.length≤20
 qH:es.Pairwise fun a b=>Mb a b=true
inductive xE(CT CF CX:Addr)(vs:List V)(H:Hp)(Q:VK)(E:XK):Prop
 |mk (a b t:Addr) (c:Case) (_:vs=[.ref a, .ref b, .ref t]) (_:H a=some (.lst (c.xs.map V.str))) (_:H b=some (.lst (c.ys.map V.str))) (_:yX H CT t c) (_:c.xs.length≤50) (_:c.ys.length≤50)
  (_:∀es,bR (iH c []) c.out c.into c.least es→∀H' r us,av H H'→H r=none→H' r=some (.lst us)→cb (fun b=>H b=none) H' CF us es→Q (.ref r) H')
  (_:∀ds f,Reach (iH c []) c.out c.into c.least ds f→20<ds.length→∀H',av H H'→E (.ref CX) none H'):xE CT CF CX vs H Q E
def Ga(c:Case)(i m:Nat):Nat:=((ZR m).filter fun j=>(c.pw (aR (i,j))).isSome).length
def manyN(c:Case):Nat→Nat
 |0=>0
 |n+1=>manyN c n+Ga c n c.ys.length
theorem Dt(c:Case)(i m:Nat):Ga c i (m+1)=Ga c i m+if (c.pw (aR (i,m))).isSome=true then 1 else 0:=by
 unfold Ga;rw[List.range_succ,List.filter_append,List.length_append]
 congr 1
 by_cases h:(c.pw (aR (i,m))).isSome=true
 ·rw[MJ h,List.filter_cons,MJ h];rfl
 ·rw[Je h,List.filter_cons,Je h];rfl
theorem t_(c:Case):∀n,((u7 n c.ys.length).filter fun q=>(c.pw q).isSome).length=manyN c n
 |0=>rfl
 |n+1=>by
  unfold u7;rw[List.range_succ,List.flatMap_append,List.filter_append,List.length_append];have ih:=t_ c n;unfold u7 at ih;rw[ih,manyN]
  congr 1
  simp only[List.flatMap_cons,List.flatMap_nil,List.append_nil];rw[List.filter_map,List.length_map];rfl
def bL(c:Case):Nat:=manyN c c.xs.length/21+1
def f'(c:Case):Int:=min c.same (999999/(bL c:Int))
def m6(c:Case):Case:={c with same:=f' c,least:=max c.least (((bL c:Int)-1)*f' c+1)}
theorem AV(s t:Int)(fs:List Form)(x y:Str):(cI s fs x y).isSome=(cI t fs x y).isSome:=by
 unfold cI;split
 ·rfl
 ·simp
theorem Du(c:Case)(q:Pr):((m6 c).pw q).isSome=(c.pw q).isSome:=by
 unfold Case.pw;show((wd c.xs q.1).bind fun x=>(wd c.ys q.2).bind fun y=>cI (m6 c).same c.fs x y).isSome=_;cases wd c.xs q.1 with
 |none=>rfl
 |some x=>
  cases wd c.ys q.2 with
  |none=>rfl
  |some y=>exact AV _ _ _ _ _
theorem Dv{fs:List Form}(g:bO fs=true){x y:Str}{p:Int}(h:c7 fs x y=some p):0≤p:=by
 unfold c7 at h;cases e:fs.find? fun f=>decide (f.1=x∧f.2.1=y)with
 |none=>rw[e]at h;cases h
 |some f=>
  rw[e]at h;have h:f.2.2=p:=by simpa using h
  have hm:=List.mem_of_find?_eq_some e;simp only[bO,Bool.and_eq_true,List.all_eq_true]at g;have:=g.1.2 f hm;simp only[DP,iz,inR,Bool.and_eq_true,decide_eq_true_eq]at this
  lia
theorem pw_le{c:Case}(g:bO c.fs=true){q:Pr}{w:Int}(h:c.pw q=some w):w≤c.same:=by
 unfold Case.pw at h;cases e1:wd c.xs q.1 with
 |none=>rw[e1]at h;cases h
 |some x=>
  cases e2:wd c.ys q.2 with
  |none=>rw[e1,e2]at h;cases h
  |some y=>
   rw[e1,e2]at h;have h:cI c.same c.fs x y=some w:=h;unfold cI at h;split at h
   ·cases h;exact Int.le_refl _
   ·cases e3:c7 c.fs x y with
    |none=>rw[e3]at h;cases h
    |some p=>
     rw[e3]at h;have h:c.same-p=w:=by simpa using h
     have:=Dv g e3
     lia
theorem Cb(c:Case)(n:Nat):manyN c n≤n*c.ys.length:=by
 rw[←t_,←oY];exact List.length_filter_le _ _
theorem Cc{m:Nat}{c:Case}(k:eX m c)(hm:m≤60):eX m (m6 c):=by
 have h1:manyN c c.xs.length≤3600:=by
  have:=Cb c c.xs.length;have h2:=Nat.mul_le_mul (Nat.le_trans k.x hm) (Nat.le_trans k.y hm)
  lia
 have he:(1:Int)≤bL c∧(bL c:Int)≤172:=by unfold bL;lia
 have hq:(bL c:Int)*(999999/(bL c:Int))≤999999:=by
  have:=Int.mul_ediv_self_le (x:=999999) (k:=(bL c:Int)) (by lia);exact this
 have Pl:1≤999999/(bL c:Int):=by
  have:(172:Int)≤999999:=WV;exact(Int.le_ediv_iff_mul_le Hy).mpr Hy
 have hs:=k.same;have hl:=k.least;have s1:1≤f' c∧f' c≤999999∧f' c≤999999/(bL c:Int):=by unfold f';lia
 refine⟨k.x,k.y,k.good,⟨s1.1,s1.2.1⟩,k.out,k.into,?_⟩;show 1≤max c.least (((bL c:Int)-1)*f' c+1)∧max c.least (((bL c:Int)-1)*f' c+1)≤999999;have h3:((bL c:Int)-1)*f' c+1≤999999:=by
  have h4:(bL c:Int)*f' c≤(bL c:Int)*(999999/(bL c:Int)):=Int.mul_le_mul_of_nonneg_left s1.2.2 Hy;rw[Int.sub_mul]
  lia
 lia
theorem jc{g g':Pr→Option Int}(o p:Int):∀{ps:List Pr},(∀q∈ps,g q=g' q)→vl g o p ps=vl g' o p ps
 |[],_=>rfl
 |[a],h=>by simp only[vl];rw[h a (XC)]
 |a::b::r,h=>by
  have ih:=jc (g:=g) (g':=g') o p (ps:=b::r) fun q hq=>h q (by simp[hq])
  simp only[vl];rw[ih,h a (XC)]
theorem Dx{g g':Pr→Option Int}(o p:Int){ps:List Pr}(h:∀q∈ps,g q=g' q):zS g o p ps=zS g' o p ps:=by
 unfold zS;apply List.map_congr_left;intro k _;exact jc o p fun q hq=>h q (List.mem_of_mem_take hq)
theorem Wy.congr{g g':Pr→Option Int}{ps:List Pr}(w:Wy g ps)(h:∀q∈ps,g q=g' q):Wy g' ps:=⟨w.ne,fun q hq=>by rw[←h q hq];exact w.ok q hq,w.up⟩
theorem Mc{o p:Int}(ho:0≤o)(hp:0≤p){a b:Pr}(s:yv a b):0≤gp o p a b:=by
 have h1:=s.1;have h2:=s.2;have:=Int.mul_nonneg ho (show 0≤b.1-a.1-1 by lia);have:=Int.mul_nonneg hp (show 0≤b.2-a.2-1 by lia);unfold gp
 lia
theorem JQ{g:Pr→Option Int}{o p S:Int}(ho:0≤o)(hp:0≤p):∀{ps:List Pr},ps.Pairwise yv→(∀q∈ps,∃w,g q=some w∧w≤S)→vl g o p ps≤ps.length*S
 |[],_,_=>by simp[vl]
 |[a],_,h=>by
  obtain⟨w,h1,h2⟩:=h a (XC);simp[vl,h1,h2]
 |a::b::r,hs,h=>by
  have mZ:=List.pairwise_cons.mp hs;have ih:=JQ ho hp mZ.2 fun q hq=>h q (by simp[hq])
  obtain⟨w,h1,h2⟩:=h a (XC);have:=Mc ho hp (mZ.1 b (XC));simp only[vl,h1,Option.getD_some];have e:((a::b::r).length:Int)*S=((b::r).length:Int)*S+S:=by
   rw[List.length_cons (as:=b::r),Int.natCast_add,Int.add_mul];simp
  rw[e]
  lia
structure Pn(f0:Nat→Nat→Option Int)(o p least:Int)(d:Fd):Prop where
 way:Wy (lf f0) d.way
 worth:vl (lf f0) o p d.way=d.worth
 least:least≤d.worth
 row:d.row=zS (lf f0) o p d.way
 sub:∀q∈d.way,q∈d.pairs
 qH:d.pairs.Pairwise fun p q=>iW p q=true
 op:∀q∈d.pairs,(lf f0 q).isSome=true
 part:∀a b,d.way=a++b→a≠[]→b≠[]→vl (lf f0) o p a≤d.worth∧vl (lf f0) o p b≤d.worth
theorem Reach.jW{f0 f:Nat→Nat→Option Int}{o p least:Int}{ds:List Fd}(r:Reach f0 o p least ds f):∀d∈ds,Pn f0 o p least d:=by
 induction r with
 |start=>exact fun d h=>by cases h
 |@round done f W gs ds r R ih=>
  intro d hd;rcases List.mem_append.mp hd with hd|hd
  ·exact ih d hd
  have ap:=r.apart;have k:=R.ok d hd;have hg:d.pairs∈gs:=by rw[←R.F9];exact List.mem_map.mpr ⟨d,hd,rfl⟩
  have cg:∀q∈d.way,lf f q=lf f0 q:=fun q hq=>ap.sub q (k.way.1.ok q hq)
  refine⟨k.way.1.congr cg,?_,by rw[k.worth];exact R.least,by rw[k.row];exact Dx o p cg,k.sub,R.told.qH _ hg,fun q hq=>?_,fun a b e ha hb=>?_⟩
  ·rw[←jc o p cg,k.way.2,k.worth]
  ·have:=(R.told.mem hg hq).open;rw[←ap.sub q this];exact this
  ·have w:=k.way.1;rw[e]at w;rw[←jc o p (fun q hq=>cg q (by rw[e];exact γ hq)),←jc o p (fun q hq=>cg q (by rw[e];exact Δ hq)),k.worth];exact⟨R.top _ (w.left ha),R.top _ (w.right hb)⟩
theorem Reach.met{f0 f:Nat→Nat→Option Int}{o p least:Int}{ds:List Fd}(r:Reach f0 o p least ds f){ws:List Pr}(w:Wy (lf f0) ws):(∀q∈ws,(lf f q).isSome=true)∨∃d∈ds,vl (lf f0) o p ws≤d.worth∧∃q∈ws,q∈d.pairs:=by
 induction r with
 |start=>exact .inl w.ok
 |@round done f W gs ds r R ih=>
  rcases ih with h|⟨d,h1,h2⟩
  ·have ap:=r.apart;by_cases hm:∃q∈ws,q∈gs.flatten
   ·obtain⟨q,hq,hg⟩:=hm;obtain⟨g,VP,Ye⟩:=List.mem_flatten.mp hg;rw[←R.F9]at VP;obtain⟨d,hd,rfl⟩:=List.mem_map.mp VP;refine .inr ⟨d,Δ hd,?_,q,hq,Ye⟩;have cg:∀q∈ws,lf f0 q=lf f q:=fun q hq=>(ap.sub q (h q hq)).symm
    rw[jc o p cg,(R.ok d hd).worth];exact R.top _ (w.congr cg)
   ·refine .inl fun q hq=>?_
    rw[mE,Je (fun z=>hm ⟨q,hq,z⟩)];exact h q hq
  ·exact .inr ⟨d,γ h1,h2⟩
theorem bR.met{f0:Nat→Nat→Option Int}{o p least:Int}{es:List Fd}(t:bR f0 o p least es){ws:List Pr}(w:Wy (lf f0) ws)(h:least≤vl (lf f0) o p ws):∃d∈es,vl (lf f0) o p ws≤d.worth∧∃q∈ws,q∈d.pairs:=by
 obtain⟨ds,f,r,st,pm⟩:=t.Ra;rcases r.met w with z|⟨d,h1,h2⟩
 ·exfalso;have cg:∀q∈ws,lf f0 q=lf f q:=fun q hq=>(r.apart.sub q (z q hq)).symm
  have:=st ws (w.congr cg);rw[←jc o p cg]at this
  lia
 ·exact⟨d,pm.mem_iff.mpr h1,h2⟩
theorem bR.jW{f0:Nat→Nat→Option Int}{o p least:Int}{es:List Fd}(t:bR f0 o p least es):∀d∈es,Pn f0 o p least d:=fun d hd=>by
 obtain⟨ds,f,r,_,pm⟩:=t.Ra;exact r.jW d (pm.mem_iff.mp hd)
theorem bR.apart{f0:Nat→Nat→Option Int}{o p least:Int}{es:List Fd}(t:bR f0 o p least es):es.Pairwise fun a b=>∀q∈a.pairs,q∉b.pairs:=by
 obtain⟨ds,f,r,_,pm⟩:=t.Ra;exact(pm.pairwise_iff fun{a b} h q hq FZ=>h q FZ hq).mpr r.apart.ap
theorem bR.ne{f0:Nat→Nat→Option Int}{o p least:Int}{es:List Fd}(t:bR f0 o p least es):∀d∈es,d.pairs≠[]:=fun d hd z=>by
 have k:=t.jW d hd;have:=k.sub _ (cQ k.way.ne);rw[z]at this;cases this
theorem Gb{l:List (List Pr)}{k:Nat}(h:∀x∈l,k≤x.length):l.length*k≤l.flatten.length:=by
 induction l with
 |nil=>simp
 |cons a r ih=>
  have h1:=h a (XC);have h2:=ih fun x hx=>h x (by simp[hx])
  rw[List.flatten_cons,List.length_append,List.length_cons,Nat.succ_mul]
  lia
theorem nL:∀{ds:List Fd},ds.Pairwise (fun a b=>∀q∈a.pairs,q∉b.pairs)→(∀d∈ds,d.pairs.Nodup)→(ds.map Fd.pairs).flatten.Nodup
 |[],_,_=>XC
 |d::r,h,h2=>by
  have h':=List.pairwise_cons.mp h;rw[List.map_cons,List.flatten_cons];refine List.nodup_append.mpr ⟨h2 d (XC),nL h'.2 fun x hx=>h2 x (by simp[hx]),fun a ha b hb e=>?_⟩;obtain⟨ps,hp,hq⟩:=List.mem_flatten.mp hb;obtain⟨x,hx,rfl⟩:=List.mem_map.mp hp;exact h'.1 x hx a ha (by rw[e];exact hq)
theorem qO{ps:List Pr}(h:ps.Pairwise fun p q=>iW p q=true):ps.Nodup:=h.imp fun{a b} h e=>by
 rw[e]at h;unfold iW at h;simp at h
theorem ua(c:Case)(q:Pr):lf (iH c []) q=c.pw q:=by
 rw[xp];simp[om]
inductive xF(vs:List V)(H:Hp)(Q:VK)(u3:XK):Prop
 |mk (a:Addr) (c:Case) (f g m l:Addr) (us:List V) (_:vs=[.ref a]) (_:jx H a c f g m l us) (_:eX 60 c) (_:∀H' b m',av H H'→H b=none→H' b=some (.lst [.ref f, .ref g, .ref m', .ref l])→jx H' b (m6 c) f g m' l us→Q (.ref b) H'):xF vs H Q u3
end QF
namespace QF
open PySem L2 PySem.Spec PyProof.Rows PySem.W PySem.Calls
section
variable{X:Cx}
inductive Po(K:Frag)(neg:Bool)(x:V)(y:V)(H:Hp)(Q:VK):Prop
 |mk (p q:Addr) (r:Pr) (vs:List V) (ps:List Pr) (_:x= .ref p) (_:y= .ref q) (_:H p=some (.tup (jk r))) (_:ir K H q vs) (_:fT H vs ps) (_:Q (.bl (xor neg (decide (r∈ps)))) H):Po K neg x y H Q
open Classical in
theorem Gd{pins:List (Addr×Obj)}{s:Shared}{σ:L2.St}{H:Hp}{p q:Addr}{r:Pr}{vs:List V}{ps:List Pr}(hu:X.A.units+1<cLine)(I:Inv X pins σ H s)(hp:H p=some (.tup (jk r)))(hq:ir X.K H q vs)(P:fT H vs ps):
  ∃(its:List Value)(e:Value→Bool),s.heap.IsList q its.toArray∧(∀y∈its.toArray,SeqAt.EqAt X.A.in1 s y (.ref p) (e y))∧its.toArray.any e=decide (r∈ps):=by
 obtain⟨its,r1,pl,hz⟩:=I.tuple (xs:=jk r) (.of hp);obtain⟨dQ,r2,HB,MV⟩:=I.list hq;have lc:=P.1;have l2:=r2.length;have key:∀j,j<dQ.length→∃g t,ps[j]?=some g∧dQ[j]?=some (.ref t)∧H t=some (.tup (jk g)):=fun j hj=>by
  have hc:ps[j]?=some ps[j]:=by simp[show j<ps.length by lia]
  obtain⟨t,h1,h2⟩:=P.2 j _ hc;obtain⟨u,eu,ru⟩:=r2.get h1;cases ru;exact⟨_,t,hc,eu,h2⟩
 let e:Value→Bool:=fun y=>decide (∃t,y=Value.ref t∧H t=some (.tup (jk r)))
 have ee:∀{t g},H t=some (.tup (jk g))→e (.ref t)=decide (g=r):=fun{t g} h=>by
  show decide _=_;rw[Bool.eq_iff_iff,decide_eq_true_iff,decide_eq_true_iff];constructor
  ·rintro⟨t',e1,e2⟩;cases e1;rw[h]at e2;have:=HO.tup.inj (ZO e2);simp only[jk,List.cons.injEq,V.int.injEq,and_true]at this;exact Prod.ext this.1 this.2
  ·rintro rfl;exact⟨t,rfl,h⟩
 refine⟨dQ,e,HB.isList,fun y hy=>?_,?_⟩
 ·obtain⟨j,hj,rfl⟩:=Array.mem_iff_getElem.mp hy;have DS:j<dQ.length:=by simpa using hj
  obtain⟨g,t,h1,h2,h3⟩:=key j DS;have ej:dQ.toArray[j]= .ref t:=by
   have:=(YG h2).2;simpa using this
  rw[ej,ee h3];by_cases hn:t=p
  ·subst hn;rw[hp]at h3;have:=HO.tup.inj (ZO h3);simp only[jk,List.cons.injEq,V.int.injEq,and_true]at this;have:r=g:=Prod.ext this.1 this.2;rw[decide_eq_true this.symm];exact SeqAt.EqAt.same _
  ·obtain⟨Pp,r3,Ub,Yg⟩:=I.tuple (xs:=jk g) (.of h3);have:=SeqAt.EqAt.of_refs hn (SeqAt.RcAt.tuples (A:=X.A.in1) Ub pl (show X.A.in1.units<cLine from hu) (tO r3 r1 rfl rfl));rw[←xn,←kH,r3.length,r1.length];simpa using this
 ·rw[Bool.eq_iff_iff,Array.any_eq_true,decide_eq_true_iff];constructor
  ·rintro⟨j,hj,hh⟩;have DS:j<dQ.length:=by simpa using hj
   obtain⟨g,t,h1,h2,h3⟩:=key j DS;have ej:dQ.toArray[j]= .ref t:=by
    have:=(YG h2).2;simpa using this
   rw[ej,ee h3,decide_eq_true_iff]at hh;rw[←hh];exact ZI h1
  ·intro hm;obtain⟨j,hj,hg⟩:=List.mem_iff_getElem.mp hm;have DS:j<dQ.length:=by lia
   obtain⟨g,t,h1,h2,h3⟩:=key j DS;refine⟨j,by simpa using DS,?_⟩;have ej:dQ.toArray[j]'(by simpa using DS)= .ref t:=by
    have:=(YG h2).2;simpa using this
   rw[ej,ee h3,decide_eq_true_iff];rw[Χ hj,hg]at h1;exact(ZO h1).symm
theorem m7(K:Frag)(hu:X.A.units+1<cLine)(hK:X.K=K:=by rfl):qg X (compareOp .NotIn) (Po K true):=by
 subst hK;intro pins s σ H x y v u Q I rx ry h;obtain⟨p,q,r,vs,ps,rfl,rfl,hp,hq,P,k⟩:=h;cases rx;cases ry;obtain⟨its,e,pl,h1,h2⟩:=Gd hu I hp hq P;refine SeqAt.notIn_listAt e pl h1 ⟨.bl (!decide (r∈ps)),H,I,?_,by simpa using k⟩;rw[h2];rfl
end
end QF
namespace QF
open PySem L2
theorem oR.of{c:Case}{ps:List Pr}(h:la c ps=true):oR c [] ps:=⟨h,fun p _=>XC⟩
theorem Iq{c:Case}{ps:List Pr}(h:la c ps=true):Wy (lf (iH c [])) ps∧dG c ps (ps.length-1)=vl (lf (iH c [])) c.out c.into ps:=⟨y8.mp (.of h),HS (.of h)⟩
end QF
namespace L2
open PySem PySem.Spec PyProof.Rows PySem.W PySem.Calls
inductive fO(K:Frag)(x q:Str)(st:Stmt)(f:Addr):Prop
 |mk {oc kV dc pm cd ct:Value} {od an:Option Addr} {sl:Array (Option Value)} (l:K.lookup f=some ⟨oc,od, .func (fnOf x q (fL st) (eG st) (au st) .none kV dc pm an cd ct),sl⟩) (c:codeIn K cd q=true) (k:keepIn K (.ref f)=true):fO K x q st f
theorem Cd{Φ:Value→Value→Value→Option Addr→Value→Value→List Value→Prop}(h:∀k d p n c t a,Φ k d p n c t [a])(k d p:Value)(n:Option Addr)(c t:Value)(us:List Value)(e:us.length=1):Φ k d p n c t us:=QF.XD (h k d p n c t) us e
theorem xG{Φ:Value→Value→Value→Option Addr→Value→Value→List Value→Prop}(h:∀k d p n c t a b,Φ k d p n c t [a,b])(k d p:Value)(n:Option Addr)(c t:Value)(us:List Value)(e:us.length=2):Φ k d p n c t us:=QF.XE (h k d p n c t) us e
theorem AW{Φ:Value→Value→Value→Option Addr→Value→Value→List Value→Prop}(h:∀k d p n c t x y z,Φ k d p n c t [x,y,z])(k d p:Value)(n:Option Addr)(c t:Value)(us:List Value)(e:us.length=3):Φ k d p n c t us:=QF.XF (h k d p n c t) us e
theorem Uc{Φ:Value→Value→Value→Option Addr→Value→Value→List Value→Prop}(h:∀k d p n c t x y z u,Φ k d p n c t [x,y,z,u])(k d p:Value)(n:Option Addr)(c t:Value)(us:List Value)(e:us.length=4):Φ k d p n c t us:=QF.XG (h k d p n c t) us e
theorem VQ{Φ:Value→Value→Value→Option Addr→Value→Value→List Value→Prop}(h:∀k d p n c t x y z u v,Φ k d p n c t [x,y,z,u,v])(k d p:Value)(n:Option Addr)(c t:Value)(us:List Value)(e:us.length=5):Φ k d p n c t us:=QF.XH (h k d p n c t) us e
theorem Yh{Φ:Value→Value→Value→Option Addr→Value→Value→List Value→Prop}(h:∀k d p n c t x y z u v w,Φ k d p n c t [x,y,z,u,v,w])(k d p:Value)(n:Option Addr)(c t:Value)(us:List Value)(e:us.length=6):Φ k d p n c t us:=QF.XI (h k d p n c t) us e
section
variable{P:Program}{w:World}{K:Frag}{mg:Str→Option Value}{base h:Heap}{cm:Bool}{k:Nat}{x q:Str}{st:Stmt}{f C:Addr}{ps:List Str}{sp:Sp}
def Rb(x q:Str)(st:Stmt)(ps:List Str):Prop:=∀(kV doc pm:Value)(an:Option Addr)(bU ct:Value)(us:List Value),us.length=ps.length→bindArgs (fnOf x q (fL st) (eG st) (au st) .none kV doc pm an bU ct) ⟨us,[]⟩=pure (ps.zip us)
theorem fO.df(d:fO K x q st f)(X:K.In h)(G:h.Ns mainGlobals mg)(a:nsIn K mainGlobals x=some (some (.ref f)))(ok:∀fd,ju K x q st f fd→a7 P w K mg base (cX P w) cm k f fd ps sp)(b:Rb x q st ps):bK P w K mg base cm k x ps sp:=by
 obtain⟨l,c,z⟩:=d;have F:=EC (st:=st) l c z;exact EJ F (mg_of X G a) (F.binds b) (ok _ F)
theorem fO.ok(d:fO K x q st f){R:FuncData→Prop}(ok:∀fd,iy K x q st f fd→R fd)(b:Rb x q st ps):∃fd,R fd∧Binds K fd ps []:=by
 obtain⟨l,c,z⟩:=d;exact⟨_,ok _ (BD (st:=st) l c z), .all fun us e=>b _ _ _ _ _ _ us e⟩
theorem fO.mt(d:fO K x q st f)(cl:wK K C)(a:findIn K (.ref C) x=some (some (.ref f)))(i:isFn K (.ref f)=true)(ok:∀fd,iy K x q st f fd→a7 P w K mg base (cX P w) cm k f fd ps sp)(b:Rb x q st ps):eE P w K mg base cm k C x ps sp:=by
 obtain⟨fd,h1,h2⟩:=d.ok (R:=fun fd=>a7 P w K mg base (cX P w) cm k f fd ps sp) ok b;obtain⟨l,c,z⟩:=d;exact CO h1 ⟨a,i,z⟩ h2 cl
theorem fO.nw{y:Str}(d:fO K x q st f)(m:mg y=some (.ref C))(g1:makesIn K C=true)(g2:keepIn K (.ref C)=true)(a:findIn K (.ref C) "__init__"=some (some (.ref f)))(i:isFn K (.ref f)=true)(ok:∀fd,iy K x q st f fd→a7 P w K mg base (cX P w) cm k f fd ps sp)(b:Rb x q st ps):mW P w K mg base cm k y C ps [] sp:=by
 obtain⟨fd,h1,h2⟩:=d.ok (R:=fun fd=>a7 P w K mg base (cX P w) cm k f fd ps sp) ok b;exact yT h1 ⟨g1,a,i,g2⟩ m h2 .nil
structure Pq(K:Frag)(x:Str)(C:Addr):Prop where
 a:nsIn K mainGlobals x=some (some (.ref C))
 b:excIn K C [.type "ValueError", .type "Exception", .type "BaseException", .type "object"] "ValueError.__new__"=true
 c:findIn K (.ref C) "__class__"=some (some (.builtin "object.__class__"))
 d:mroIn K C (.type "object")=some true
 e:mroIn K C (.type "BaseException")=some true
 f:findIn K (.ref C) "__getattribute__"=some (some (.builtin "BaseException.__getattribute__"))
 g:findIn K (.ref C) "__getattr__"=some none
 h:instIn K (.ref C) (.type "tuple")=some false
 i:keepIn K (.ref C)=true
theorem Pq.er{x:Str}{C:Addr}(e:Pq K x C)(X:K.In h)(G:h.Ns mainGlobals mg):QF.Er K mg x C:=⟨mg_of X G e.a,e.b,e.c,e.d,e.e,e.f,e.g,e.h,e.i⟩
structure Pt(K:Frag)(x:Str)(C:Addr):Prop where
 a:nsIn K mainGlobals x=some (some (.ref C))
 b:makesIn K C=true
 c:keepIn K (.ref C)=true
def zT(K:Frag)(x:Str):Prop:=nsIn K mainGlobals x=some none
structure TZ(K:Frag):Prop where
 a:zT K "len"
 b:zT K "range"
 c:zT K "isinstance"
 d:zT K "int"
 e:zT K "bool"
 f:zT K "str"
 g:zT K "list"
 h:zT K "tuple"
 i:zT K "dict"
 j:zT K "all"
 k:zT K "any"
 l:zT K "min"
 m:zT K "max"
 n:zT K "enumerate"
 o:zT K "ValueError"
theorem nM{x:Str}(z:zT K x)(X:K.In h)(G:h.Ns mainGlobals mg):mg x=none:=mg_none_of X G z
theorem TZ.tb(z:TZ K)(X:K.In h)(G:h.Ns mainGlobals mg):QF.TB mg:=⟨nM z.a X G,nM z.b X G,nM z.c X G,nM z.d X G,nM z.e X G,nM z.f X G,nM z.g X G,nM z.h X G,nM z.i X G,nM z.j X G,nM z.k X G,nM z.l X G,nM z.m X G,nM z.n X G,nM z.o X G⟩
end
end L2
namespace QF
open PySem L2
def DY(H:Hp)(us:List V)(ts:List (Pr×Int)):Prop:=us.length=ts.length∧∀(k:Nat)(x:Pr×Int),ts[k]?=some x→∃t,us[k]?=some (V.ref t)∧H t=some (.tup [.int x.1.1, .int x.1.2, .int x.2])
theorem DY.cD{H H':Hp}{us:List V}{ts:List (Pr×Int)}(S:DY H us ts)(t:c_ H H'):DY H' us ts:=⟨S.1,fun k x e=>let ⟨a,h1,h2⟩:=S.2 k x e;⟨a,h1,t _ _ h2⟩⟩
theorem DY.nil{H:Hp}:DY H [] []:=⟨rfl,fun k x e=>by simp at e⟩
theorem DY.snoc{H:Hp}{us:List V}{ts:List (Pr×Int)}(S:DY H us ts){t:Addr}{x:Pr×Int}(h:H t=some (.tup [.int x.1.1, .int x.1.2, .int x.2])):DY H (us++[.ref t]) (ts++[x]):=by
 refine⟨by simp[S.1],fun k y e=>?_⟩;by_cases hk:k<ts.length
 ·rw[ZZ hk]at e;rw[ZZ (by rw[S.1];exact hk)];exact S.2 k y e
 ·rw[Α Hy]at e;have xt:k-ts.length=0:=by
   have:=(YG e).1;simp at this;lia
  rw[xt]at e;cases e;refine⟨t,?_,h⟩;rw[Α (by rw[S.1];lia),S.1,xt];rfl
def lR(c:Case)(sh:List Pr)(i:Nat):Nat→List (Pr×Int)
 |0=>[]
 |j+1=>lR c sh i j++match om c sh (aR (i,j))with|some w=>[(aR (i,j),w)]|none=>[]
def kb(c:Case)(sh:List Pr):Nat→List (Pr×Int)
 |0=>[]
 |n+1=>kb c sh n++lR c sh n c.ys.length
theorem qQ(c:Case)(sh:List Pr)(i:Nat):∀j,(lR c sh i j).length≤j
 |0=>Nat.le_refl _
 |j+1=>by
  have:=qQ c sh i j;simp only[lR,List.length_append];split<;>simp<;>lia
theorem wk(c:Case)(sh:List Pr):∀n,(kb c sh n).length≤n*c.ys.length
 |0=>by simp[kb]
 |n+1=>by
  have:=wk c sh n;have:=qQ c sh n c.ys.length;simp only[kb,List.length_append,Nat.succ_mul]
  lia
theorem wm{c:Case}{sh:List Pr}{i:Nat}{x:Pr×Int}:∀{j},x∈lR c sh i j→om c sh x.1=some x.2
 |0,h=>by cases h
 |j+1,h=>by
  rcases List.mem_append.mp h with h|h
  ·exact wm h
  ·split at h
   ·rename_i w e
    have:x=(aR (i,j),w):=by simpa using h
    rw[this];exact e
   ·cases h
theorem wt{c:Case}{sh:List Pr}{x:Pr×Int}:∀{n},x∈kb c sh n→om c sh x.1=some x.2
 |0,h=>by cases h
 |n+1,h=>by
  rcases List.mem_append.mp h with h|h
  ·exact wt h
  ·exact wm h
inductive ub(vs:List V)(H:Hp)(Q:VK)(u3:XK):Prop
 |mk (a s:Addr) (c:Case) (f g m l:Addr) (us ws:List V) (sh:List Pr) (_:vs=[.ref a, .ref s]) (_:jx H a c f g m l us) (_:H s=some (.lst ws)) (_:fT H ws sh) (_:c.xs.length≤50) (_:c.ys.length≤50) (_:∀H' r vs,av H H'→H r=none→H' r=some (.lst vs)→DY H' vs (kb c sh c.xs.length)→Q (.ref r) H'):ub vs H Q u3
inductive uc(CF:Addr)(vs:List V)(H:Hp)(Q:VK)(u3:XK):Prop
 |mk (y:Addr) (P:Addr→Prop) (d:Fd) (dy wy rw pr:Addr) (lz iA:List V) (_:vs=[.ref y]) (_:wj P H CF y d dy wy rw pr lz iA) (_:d.row.length=d.way.length) (_:d.way≠[]) (_:∀H',av H H'→Q (.bl true) H'):uc CF vs H Q u3
inductive qR(CF:Addr)(vs:List V)(H:Hp)(Q:VK)(u3:XK):Prop
 |mk (a t:Addr) (c:Case) (f g m l:Addr) (us ws:List V) (es:List Fd) (_:vs=[.ref a, .ref t]) (_:jx H a c f g m l us) (_:eX 50 c) (_:H t=some (.lst ws)) (_:cb (fun _=>True) H CF ws es) (_:bR (iH c []) c.out c.into c.least es) (_:∀H',av H H'→Q (.bl true) H'):qR CF vs H Q u3
theorem Ge{c:Case}{ps:List Pr}(w:Wy (lf (iH c [])) ps):la c ps=true:=(y8.mpr w).1
theorem Ir(g:Pr→Option Int)(o p:Int)(ps:List Pr):(zS g o p ps).length=ps.length:=by simp[zS]
theorem bR.pair{c:Case}{es:List Fd}(t:bR (iH c []) c.out c.into c.least es){q:Pr}{w:Int}(h:om c [] q=some w)(hl:c.least≤w):∃d∈es,q∈d.pairs:=by
 have hq:lf (iH c []) q=some w:=by rw[xp];exact h
 obtain⟨d,hd,_,p,hp,wN⟩:=t.met (ws:=[q]) (.one (by rw[hq];rfl)) (by simp[vl,hq];exact hl);have:p=q:=by simpa using hp
 exact⟨d,hd,this▸wN⟩
theorem bR.Gf{m:Nat}{c:Case}(ok:eX m c){es:List Fd}(t:bR (iH c []) c.out c.into c.least es){ds:List Fd}(hs:ds.Sublist es):(ds.map Fd.pairs).flatten.length≤m*m:=by
 have h2:=nL (t.apart.sublist hs) fun d hd=>qO (t.jW d (hs.subset hd)).qH
 have h3:=len_sub _ (u7 c.xs.length c.ys.length) h2 fun q hq=>by
  obtain⟨ps,hp,hq⟩:=List.mem_flatten.mp hq;obtain⟨d,hd,rfl⟩:=List.mem_map.mp hp;have:=(t.jW d (hs.subset hd)).op q hq;rw[ua]at this;obtain⟨w,hw⟩:=Option.isSome_iff_exists.mp this;obtain⟨⟨a1,a2⟩,a3,a4⟩:=c.pw_in hw;have:=oZ (n:=c.xs.length) (m:=c.ys.length) (i:=q.1.toNat) (j:=q.2.toNat) (by lia) (by lia);have e:aR (q.1.toNat,q.2.toNat)=q:=Prod.ext (by simp[aR];lia) (by simp[aR];lia);rw[e]at this;exact this
 rw[oY]at h3;exact Nat.le_trans h3 (Nat.mul_le_mul ok.x ok.y)
end QF
namespace L2
open PySem PySem.Spec PyProof.Rows PySem.W PySem.Calls
open AutoSeq1 (wpAny_loadPart')
end L2
namespace QF
open PySem L2 PySem.Spec PyProof.Rows PySem.W PySem.Calls
section
variable{X:Cx}
end
def lS(es:List Fd)(k:Nat):List Pr:=((es.take k).map Fd.pairs).flatten
theorem ud{es:List Fd}{k:Nat}{d:Fd}(ek:es[k]?=some d):lS es (k+1)=lS es k++d.pairs:=by
 unfold lS;rw[List.take_succ,ek];simp
theorem Iu{es:List Fd}{k:Nat}{q:Pr}(h:q∈lS es k):∃d∈es.take k,q∈d.pairs:=by
 obtain⟨ps,hp,hq⟩:=List.mem_flatten.mp h;obtain⟨d,hd,rfl⟩:=List.mem_map.mp hp;exact⟨d,hd,hq⟩
theorem Md{es:List Fd}{d:Fd}{q:Pr}(hd:d∈es)(hq:q∈d.pairs):q∈lS es es.length:=by
 unfold lS;rw[List.take_length];exact List.mem_flatten.mpr ⟨_,List.mem_map.mpr ⟨d,hd,rfl⟩,hq⟩
theorem bR.Iv{c:Case}{es:List Fd}(t:bR (iH c []) c.out c.into c.least es){k:Nat}{d:Fd}(ek:es[k]?=some d){q:Pr}(hq:q∈d.pairs):q∉lS es k:=fun h=>by
 obtain⟨e,he,h2⟩:=Iu h;obtain⟨hk,rfl⟩:=YG ek;obtain⟨i,hi,rfl⟩:=List.mem_iff_getElem.mp he;rw[List.length_take]at hi;rw[List.getElem_take]at h2;exact List.pairwise_iff_getElem.mp t.apart i k (by lia) hk Hy q h2 hq
theorem bR.Gg{m:Nat}{c:Case}(ok:eX m c){es:List Fd}(t:bR (iH c []) c.out c.into c.least es)(k:Nat):(lS es k).length≤m*m:=t.Gf ok (List.take_sublist _ _)
theorem Iw{α:Type}{l:List α}{i:Nat}{g:α}(h:l.Nodup)(e:l[i]?=some g):g∉l.take i:=fun m=>by
 obtain⟨hi,rfl⟩:=YG e;obtain⟨j,hj,e2⟩:=List.mem_iff_getElem.mp m;rw[List.length_take]at hj;rw[List.getElem_take]at e2;exact List.pairwise_iff_getElem.mp h j i Hy hi Hy e2
theorem Gh{kvs:List (List Key×V)}{ps:List Pr}(h:m3 kvs ps)(g:Pr)(v:V):m3 (putK kvs (ba g) v) (ps++[g]):=fun p=>by
 rw[i6];by_cases hp:p=g
 ·rw[MJ (by rw[hp])];simp[hp]
 ·rw[Je (fun z=>hp (du z)),h p];simp[hp]
theorem xH{α:Type}{R:α→α→Prop}(as:∀a b,R a b→¬R b a):∀{l m:List α},l.Pairwise R→m.Pairwise R→(∀x,x∈l↔x∈m)→l=m
 |[],[],_,_,_=>rfl
 |[],b::m,_,_,h=>by have:=(h b).mpr Vs;cases this
 |a::l,[],_,_,h=>by have:=(h a).mp Vs;cases this
 |a::l,b::m,hl,hm,h=>by
  have JR:=List.pairwise_cons.mp hl;have CL:=List.pairwise_cons.mp hm;have e:a=b:=by
   rcases List.mem_cons.mp ((h a).mp Vs)with e|e
   ·exact e
   ·rcases List.mem_cons.mp ((h b).mpr Vs)with e2|e2
    ·exact e2.symm
    ·exact Z1 (CL.1 a e) (as _ _ (JR.1 b e2))
  subst e
  congr 1
  refine xH as JR.2 CL.2 fun x=>⟨fun hx=>?_,fun hx=>?_⟩
  ·rcases List.mem_cons.mp ((h x).mp (by simp[hx]))with e|e
   ·subst e;exact Z1 (JR.1 x hx) (as _ _ (JR.1 x hx))
   ·exact e
  ·rcases List.mem_cons.mp ((h x).mpr (by simp[hx]))with e|e
   ·subst e;exact Z1 (CL.1 x hx) (as _ _ (CL.1 x hx))
   ·exact e
theorem Gi(p q:Pr)(h:iW p q=true):¬iW q p=true:=fun z=>by rw[AH h]at z;cases z
abbrev Ky:=Int×List Pr
def Gj(d:Fd):Ky:=(d.worth,d.pairs)
def Me(a b:Ky):Bool:=if a.1=b.1 then iW (jm a.2) (jm b.2)else decide (b.1<a.1)
theorem Iy(a b:Ky)(h:Me a b=true):¬Me b a=true:=fun z=>by
 unfold Me at h z;by_cases e:a.1=b.1
 ·rw[MJ e]at h;rw[MJ e.symm]at z;exact Gi _ _ h z
 ·rw[Je e]at h;rw[Je (Ne.symm e)]at z;simp at h z;lia
inductive Rn(o p least:Int):(Nat→Nat→Option Int)→List Fd→Prop
 |stop {f:Nat→Nat→Option Int} (_:Stop f o p least):Rn o p least f []
 |round {f:Nat→Nat→Option Int} {W:Int} {gs:List (List Pr)} {ds rs:List Fd} (_:jA f o p least W gs ds) (_:Rn o p least (ka f gs.flatten) rs):Rn o p least f (ds++rs)
theorem Reach.rn{f0 f:Nat→Nat→Option Int}{o p least:Int}{ds rs:List Fd}(r:Reach f0 o p least ds f)(h:Rn o p least f rs):Rn o p least f0 (ds++rs):=by
 induction r generalizing rs with
 |start=>exact h
 |round _ R ih=>rw[List.append_assoc];exact ih (.round R h)
theorem bR.rn{f0:Nat→Nat→Option Int}{o p least:Int}{es:List Fd}(t:bR f0 o p least es):∃ds,Rn o p least f0 ds∧es.Perm ds:=by
 obtain⟨ds,f,r,st,pm⟩:=t.Ra;have:=r.rn (.stop st);rw[List.append_nil]at this;exact⟨ds,this,pm⟩
def Mf(H:Hp)(ws:List V)(ks:List Ky):Prop:=ws.length=ks.length∧∀(i:Nat)(x:Ky),ks[i]?=some x→∃t l us,ws[i]?=some (V.ref t)∧H t=some (.tup [.int x.1, .ref l])∧H l=some (.lst us)∧fT H us x.2
inductive ue(CF:Addr)(vs:List V)(H:Hp)(Q:VK)(u3:XK):Prop
 |mk (t d:Addr) (us ws:List V) (es:List Fd) (P:Addr→Prop) (_:vs=[.ref t, .ref d]) (_:H t=some (.lst us)) (_:cb P H CF us es) (_:H d=some (.lst ws)) (_:Mf H ws (es.map Gj)) (_:es.length≤1000) (_:Q (.bl true) H):ue CF vs H Q u3
section
variable{X:Cx}
inductive FK(K:Frag)(x:V)(y:V)(H:Hp)(Q:VK):Prop
 |mk (p q:Addr) (xs ys:List V) (ps:List Pr) (_:x= .ref p) (_:y= .ref q) (_:ir K H p xs) (_:ir K H q ys) (_:fT H xs ps) (_:fT H ys ps) (_:Q (.bl false) H):FK K x y H Q
theorem AX(K:Frag)(hu:X.A.units+1<cLine)(hK:X.K=K:=by rfl):qg X (compareOp .NotEq) (FK K):=by
 subst hK;intro pins s σ H x y v u Q I rx ry h;obtain⟨p,q,xs,ys,ps,rfl,rfl,hp,hq,P1,P2,k⟩:=h;cases rx;cases ry;obtain⟨its,r,pl,hz⟩:=I.list hp;obtain⟨dQ,r2,HB,MV⟩:=I.list hq;have l1:=r.length;have l2:=r2.length;have c1:=P1.1;have c2:=P2.1;obtain⟨⟨cls,dd,data,sl⟩,ho,hc,n,hd⟩:=id pl.isList;obtain⟨⟨Lg,EU,data2,yt⟩,yu,uP,n2,hd2⟩:=id HB.isList;simp only at hc hd uP hd2;subst hc hd uP hd2;have hsz:its.toArray.size=dQ.toArray.size:=by rw[List.size_toArray,List.size_toArray];lia
 refine richCompare_meets_room (op:= .NotEq) ⟨_,ho,rfl⟩ ⟨_,yu,rfl⟩ F.slot_list_ne F.entry_list_ne (F.args_list_ne_2 _ _) (SeqAt.list_neAt p q its.toArray dQ.toArray n n2 dd EU sl yt hsz fun _=>true) ⟨ho,yu,fun j h1 h2=>?_,?_⟩ Hy
 ·have Jw:j<ps.length:=by simp at h1;lia
  have ej:ps[j]?=some ps[j]:=by simp[Jw]
  generalize ps[j]=g at ej;obtain⟨a1,e1,g1⟩:=P1.2 j g ej;obtain⟨a2,e2,g2⟩:=P2.2 j g ej;obtain⟨u1,Yi,Yj⟩:=r.get e1;obtain⟨u2,Yk,Yl⟩:=r2.get e2;cases Yj;cases Yl;have k1:its.toArray[j]= .ref a1:=by simpa[List.getElem?_eq_some_iff]using(YG Yi).2
  have k2:dQ.toArray[j]= .ref a2:=by simpa[List.getElem?_eq_some_iff]using(YG Yk).2
  rw[k1,k2];by_cases ha:a1=a2
  ·subst ha;exact SeqAt.EqAt.same _
  ·obtain⟨Pp,r3,Ub,Yg⟩:=I.tuple (xs:=jk g) (.of g1);obtain⟨Ud,r4,Ym,aaH⟩:=I.tuple (xs:=jk g) (.of g2);have:=SeqAt.EqAt.of_refs ha (SeqAt.RcAt.tuples (A:=X.A.in1) Ub Ym (show X.A.in1.units<cLine from hu) (tO r3 r4 rfl rfl));have e9:true=decide (g=g):=XC;have h3:Pp.toArray.size=(jk g).length:=by rw[List.size_toArray,←r3.length]
   have h4:Ud.toArray.size=(jk g).length:=by rw[List.size_toArray,←r4.length]
   rw[h3,h4]at this;rw[e9,←xn,←kH];exact this
 ·refine⟨(fun x=>nomatch x), .bl false,H,I,?_,k⟩;have e9:((ZR its.toArray.size).all fun _=>true)=true:=XC;rw[e9];rfl
end
end QF
namespace QF
open PySem L2
def VR(c:Case):Prop:=∀ds f,Reach (iH c []) c.out c.into c.least ds f→ds.length≤20
inductive xI(CF:Addr)(vs:List V)(H:Hp)(Q:VK)(u3:XK):Prop
 |mk (a:Addr) (c:Case) (f g m l:Addr) (us:List V) (most:Nat) (_:vs=[.ref a]) (_:jx H a c f g m l us) (_:eX most c) (_:most≤50) (_:VR c) (_:∀es,bR (iH c []) c.out c.into c.least es→∀H' r vs,av H H'→H r=none→H' r=some (.lst vs)→cb (fun _=>True) H' CF vs es→Q (.ref r) H'):xI CF vs H Q u3
def lT(H:Hp)(S:Addr)(ws:List V)(ks:List Ky):Prop:=ws.length=ks.length∧∀(i:Nat)(x:Ky),ks[i]?=some x→∃t l us,ws[i]?=some (V.ref t)∧H t=some (.tup [.int x.1, .ref l])∧H l=some (.lst us)∧fT H us x.2∧l≠S
theorem lT.Ue{H:Hp}{S:Addr}{ws:List V}{ks:List Ky}(D:lT H S ws ks):Mf H ws ks:=⟨D.1,fun i x e=>let ⟨t,l,us,h1,h2,h3,P,_⟩:=D.2 i x e;⟨t,l,us,h1,h2,h3,P⟩⟩
theorem lT.nil{H:Hp}{S:Addr}:lT H S [] []:=⟨rfl,fun i x e=>by simp at e⟩
theorem lT.keep{H H':Hp}{S:Addr}{ws:List V}{ks:List Ky}(D:lT H S ws ks)(h:∀b o,b≠S→H b=some o→H' b=some o)(T:c_ H H'):lT H' S ws ks:=
 ⟨D.1,fun i x e=>let ⟨t,l,us,h1,h2,h3,P,n⟩:=D.2 i x e;⟨t,l,us,h1,T _ _ h2,h l _ n h3,P.cD T,n⟩⟩
theorem lT.snoc{H:Hp}{S:Addr}{ws:List V}{ks:List Ky}(D:lT H S ws ks){t l:Addr}{us:List V}{x:Ky}(h1:H t=some (.tup [.int x.1, .ref l]))(h2:H l=some (.lst us))(P:fT H us x.2)(n:l≠S):lT H S (ws++[.ref t]) (ks++[x]):=by
 refine⟨by simp[D.1],fun k y e=>?_⟩;by_cases hk:k<ks.length
 ·rw[ZZ hk]at e;rw[ZZ (by rw[D.1];exact hk)];exact D.2 k y e
 ·rw[Α Hy]at e;have xt:k-ks.length=0:=by
   have:=(YG e).1;simp at this;lia
  rw[xt]at e;cases e;refine⟨t,l,us,?_,h1,h2,P,n⟩;rw[Α (by rw[D.1];lia),D.1,xt];rfl
end QF
namespace L2
open PySem PySem.Spec PyProof.Rows PySem.W PySem.Calls
open AutoSeq1 (wpAny_loadPart')
end L2
namespace QF
open PySem L2 PySem.Spec PyProof.Rows PySem.W PySem.Calls
section
variable{X:Cx}
end
end QF
namespace QF
open PySem L2
end QF
namespace QF
open PySem L2
section
variable{m:Nat}{c:Case}
end
structure Mv(φ ψ:Pr→Pr)(o p o' p':Int):Prop where
 l:∀q,ψ (φ q)=q
 r:∀q,φ (ψ q)=q
 go:∀(u:Pr→Option Int) ps,Wy u ps→∃qs,Wy (fun q=>u (ψ q)) qs∧vl (fun q=>u (ψ q)) o' p' qs=vl u o p ps∧∀q,q∈qs↔ψ q∈ps
section
variable{φ ψ:Pr→Pr}{o p o' p' W least:Int}{f g:Nat→Nat→Option Int}
theorem Mv.bw(m:Mv φ ψ o p o' p')(h:∀q,lf g q=lf f (ψ q)){ps:List Pr}(b:BW f o p W ps):∃qs,BW g o' p' W qs∧∀q,q∈qs↔ψ q∈ps:=by
 obtain⟨qs,h1,h2,h3⟩:=m.go (lf f) ps b.1;have e:(fun q=>lf f (ψ q))=lf g:=funext fun q=>(h q).symm
 rw[e]at h1 h2;exact⟨qs,⟨h1,h2.trans b.2⟩,h3⟩
theorem Mv.F1(m:Mv φ ψ o p o' p')(h:∀q,lf g q=lf f (ψ q)){a b:Pr}(k:fH f o p W a b):fH g o' p' W (φ a) (φ b):=by
 induction k with
 |way ps w ha hb=>
  obtain⟨qs,w',hm⟩:=m.bw h w;exact .way qs w' ((hm _).mpr (by rw[m.l];exact ha)) ((hm _).mpr (by rw[m.l];exact hb))
 |tr _ _ i1 i2=>exact .tr i1 i2
theorem Mv.rel(m:Mv φ ψ o p o' p')(h:∀q,lf g q=lf f (ψ q))(q:Pr):lf f q=lf g (φ q):=by rw[h,m.l]
theorem Mv.groups(m:Mv φ ψ o p o' p')(m':Mv ψ φ o' p' o p)(h:∀q,lf g q=lf f (ψ q)){gs hs:List (List Pr)}(t:Told (fH f o p W) gs)(t':Told (fH g o' p' W) hs):∀x∈gs,∃y∈hs,∀q,q∈y↔ψ q∈x:=fun x hx=>by
 obtain⟨a,ha⟩:=List.exists_mem_of_ne_nil x (t.ne x hx);obtain⟨y,hy,hb⟩:=t'.all (φ a) (m.F1 h (t.mem hx ha));refine⟨y,hy,fun q=>?_⟩;rw[t'.cls y hy _ hb q,t.cls x hx a ha];constructor
 ·intro k;have:=m'.F1 (m.rel h) k;rw[m.l]at this;exact this
 ·intro k;have:=m.F1 h k;rw[m.r]at this;exact this
theorem Mv.round(m:Mv φ ψ o p o' p')(m':Mv ψ φ o' p' o p)(h:∀q,lf g q=lf f (ψ q)){gs hs:List (List Pr)}{ds es:List Fd}{W':Int}(R:jA f o p least W gs ds)(R':jA g o' p' least W' hs es):W=W'∧∀d∈ds,∃e∈es,e.worth=d.worth∧∀q,q∈e.pairs↔ψ q∈d.pairs:=by
 have eW:W=W':=by
  obtain⟨ps,b⟩:=R.ex;obtain⟨qs,b',_⟩:=m.bw h b;obtain⟨rs,c⟩:=R'.ex;obtain⟨us,c',_⟩:=m'.bw (m.rel h) c;have h1:=R'.top qs b'.1;have h2:=R.top us c'.1;rw[b'.2]at h1;rw[c'.2]at h2
  lia
 subst eW;refine⟨rfl,fun d hd=>?_⟩;have hx:d.pairs∈gs:=by rw[←R.F9];exact List.mem_map.mpr ⟨d,hd,rfl⟩
 obtain⟨y,hy,hm⟩:=m.groups m' h R.told R'.told _ hx;rw[←R'.F9]at hy;obtain⟨e,he,rfl⟩:=List.mem_map.mp hy;exact⟨e,he,by rw[(R'.ok e he).worth,(R.ok d hd).worth],hm⟩
theorem Rn.moved(m:Mv φ ψ o p o' p')(m':Mv ψ φ o' p' o p){ds:List Fd}(r:Rn o p least f ds):∀{g:Nat→Nat→Option Int}{es:List Fd},(∀q,lf g q=lf f (ψ q))→Rn o' p' least g es→∀d∈ds,∃e∈es,e.worth=d.worth∧∀q,q∈e.pairs↔ψ q∈d.pairs:=by
 induction r with
 |stop s=>exact fun _ _ d hd=>by cases hd
 |@round f W gs ds rs R r' ih=>
  intro g es h s d hd;cases s with
  |stop s=>
   obtain⟨ps,b⟩:=R.ex;obtain⟨qs,b',_⟩:=m.bw h b;have h1:=s qs b'.1;rw[b'.2]at h1;have:=R.least
   lia
  |@round _ W' hs es us R' s'=>
   obtain⟨eW,hr⟩:=m.round m' h R R';subst eW;have K6:∀q,q∈hs.flatten↔ψ q∈gs.flatten:=fun q=>by
    simp only[List.mem_flatten];constructor
    ·rintro⟨y,hy,hq⟩;obtain⟨x,hx,hm⟩:=m'.groups m (m.rel h) R'.told R.told y hy;exact⟨x,hx,(hm _).mpr (by rw[m.r];exact hq)⟩
    ·rintro⟨x,hx,hq⟩;obtain⟨y,hy,hm⟩:=m.groups m' h R.told R'.told x hx;exact⟨y,hy,(hm q).mpr hq⟩
   rcases List.mem_append.mp hd with hd|hd
   ·obtain⟨e,he,k⟩:=hr d hd;exact⟨e,γ he,k⟩
   ·obtain⟨e,he,k⟩:=ih (g:=ka g hs.flatten) (fun q=>by
     rw[mE,mE];by_cases hq:q∈hs.flatten
     ·rw[MJ hq,MJ ((K6 q).mp hq)]
     ·rw[Je hq,Je (fun z=>hq ((K6 q).mpr z)),h]) s' d hd
    exact⟨e,Δ he,k⟩
theorem bR.moved(m:Mv φ ψ o p o' p')(m':Mv ψ φ o' p' o p)(h:∀q,lf g q=lf f (ψ q)){ds es:List Fd}(t:bR f o p least ds)(t':bR g o' p' least es):∀d∈ds,∃e∈es,e.worth=d.worth∧∀q,q∈e.pairs↔ψ q∈d.pairs:=fun d hd=>by
 obtain⟨aaP,r,pm⟩:=t.rn;obtain⟨zV,r',Yn⟩:=t'.rn;obtain⟨e,he,k⟩:=r.moved m m' h r' d (pm.mem_iff.mp hd);exact⟨e,Yn.mem_iff.mpr he,k⟩
end
theorem Mg{φ ψ:Pr→Pr}{o p o' p':Int}(l:∀q,ψ (φ q)=q)(r:∀q,φ (ψ q)=q)(s:∀{a b},yv a b→yv (φ a) (φ b))(k:∀a b,gp o' p' (φ a) (φ b)=gp o p a b):Mv φ ψ o p o' p':=by
 refine⟨l,r,fun u ps w=>⟨ps.map φ,⟨fun z=>w.ne (List.map_eq_nil_iff.mp z),fun q hq=>?_,List.pairwise_map.mpr (w.up.imp s)⟩,?_,fun q=>⟨fun hq=>?_,fun hq=>List.mem_map.mpr ⟨_,hq,r q⟩⟩⟩⟩
 ·obtain⟨x,hx,rfl⟩:=List.mem_map.mp hq;show(u (ψ (φ x))).isSome=true;rw[l];exact w.ok x hx
 ·have:∀ps:List Pr,vl (fun q=>u (ψ q)) o' p' (ps.map φ)=vl u o p ps:=fun ps=>by
   induction ps with
   |nil=>rfl
   |cons a t ih=>
    cases t with
    |nil=>show(u (ψ (φ a))).getD 0=_;rw[l];rfl
    |cons b t=>
     show(u (ψ (φ a))).getD 0-gp o' p' (φ a) (φ b)+vl (fun q=>u (ψ q)) o' p' ((b::t).map φ)=_;rw[l,k,ih];rfl
  exact this ps
 ·obtain⟨x,hx,rfl⟩:=List.mem_map.mp hq;rw[l];exact hx
def m8(a b:Int)(q:Pr):Pr:=(q.1+a,q.2+b)
theorem sU(a b:Int)(q:Pr):m8 (-a) (-b) (m8 a b q)=q:=Prod.ext (by simp[m8];lia) (by simp[m8];lia)
theorem Gk(a b o p:Int):Mv (m8 a b) (m8 (-a) (-b)) o p o p:=Mg (sU a b) (fun q=>by have:=sU (-a) (-b) q;simpa using this) (fun h=>⟨by simp[m8];exact h.1,by simp[m8];exact h.2⟩) fun x y=>by
 unfold gp m8;have e1:y.1+a-(x.1+a)-1=y.1-x.1-1:=by lia
 have e2:y.2+b-(x.2+b)-1=y.2-x.2-1:=by lia
 simp only[e1,e2]
end QF
namespace L2
open PySem PySem.Spec PyProof.Rows PySem.W PySem.Calls
open AutoSeq1 (wpAny_loadPart')
open PySem.SeqAt PySem.MeetsSeq PySem.MeetsSeq2 PySem.MeetsSeq3 PySem.SeqRoads2
open PySem.SeqAt
section
variable{prog:Program}{w:World}{A:Around}{E:Value→Shared→Prop}{s:Shared}
end
end L2
namespace QF
open PySem L2 PySem.Spec PyProof.Rows PySem.W PySem.Calls
end QF
namespace QF
open PySem L2
def Ug(φ:Pr→Pr)(c c0:Case):Prop:=(∀q,(c.pw q).isSome=(c0.pw (φ q)).isSome)∧((bL c0:Int)-1)*c.same+1≤c.least
theorem AY(c:Case):((bL c:Int)-1)*(m6 c).same+1≤(m6 c).least:=by show _≤max c.least (((bL c:Int)-1)*f' c+1);exact Int.le_max_right _ _
section
variable{φ:Pr→Pr}{c:Case}{es:List Fd}{ks:List Ky}
end
section
open PySem.Spec PyProof.Rows PySem.W PySem.Calls
variable{X:Cx}
end
def uf:Nat→Int→Str×Int
 |0,r=>(Str.ofString "",r)
 |k+1,r=>((uf k r).1++⟨#[97+((uf k r).2%26).toNat]⟩,(uf k r).2/26)
def Ce(cell other:Int)(n:Nat):List Str:=(ZR n).map (jw (uf 12 (cell/24)).1 cell other)
inductive ug(vs:List V)(H:Hp)(Q:VK)(u3:XK):Prop
 |mk (cell other many:Int) (_:vs=[.int cell, .int other, .int many]) (_:0≤many) (_:many≤12) (_:∀H' b (zs:List Str),av H H'→H b=none→H' b=some (.lst (zs.map V.str))→zs.length=many.toNat→(∀z∈zs,sM z=true)→zs.Nodup→zs=Ce cell other many.toNat→Q (.ref b) H'):ug vs H Q u3
inductive uh(vs:List V)(H:Hp)(Q:VK)(u3:XK):Prop
 |mk (cell same:Int) (b:Addr) (zs:List Str) (_:vs=[.int cell, .ref b, .int same]) (_:H b=some (.lst (zs.map V.str))) (_:zs.length≤8) (_:(∀z∈zs,sM z=true)) (_:zs.Nodup) (_:1≤same) (_:same≤999999) (_:∀H' l xs fs,av H H'→H l=none→H' l=some (.lst xs)→dS H' xs fs→bO fs=true→(∀f∈fs,f.1∈zs∧f.2.1∈zs)→Q (.ref l) H'):uh vs H Q u3
structure Gm(c:Case)(zs:List Str):Prop where
 x:∀w∈c.xs,w∈zs
 y:∀w∈c.ys,w∈zs
 f:∀f∈c.fs,f.1∈zs∧f.2.1∈zs
inductive ui(K:W.Frag)(vs:List V)(H:Hp)(Q:VK)(u3:XK):Prop
 |mk (a:Addr) (ns:List Int) (most:Int) (_:vs=[.ref a, .int most]) (_:ir K H a (ns.map V.int)) (_:0≤most) (_:most≤40) (_:most≤20) (_:∀H' b c f g m l us,av H H'→H b=none→jx H' b c f g m l us→eX most.toNat c→∀zs,zs=Ce (cell ns 0) (cell ns 1) (1+cell ns 2%5).toNat→zs.length≤5→(∀z∈zs,sM z=true)→zs.Nodup→Gm c zs→Q (.ref b) H'):ui K vs H Q u3
theorem Cf{φ:Pr→Pr}{m:Nat}{c c0:Case}(k:eX m c)(inj:∀p q,φ p=φ q→p=q)(F0:Ug φ c c0):VR c:=fun ds f r=>by
 obtain⟨hs,hl⟩:=F0;have each:∀d∈ds,bL c0≤d.pairs.length:=fun d hd=>by
  have F:=r.jW d hd;have h1:=JQ (g:=lf (iH c [])) (S:=c.same) k.out.1 k.into.1 F.way.up fun q hq=>by
   obtain⟨w,hw⟩:=Option.isSome_iff_exists.mp (F.way.ok q hq);refine⟨w,hw,?_⟩;rw[ua]at hw;exact pw_le k.good hw
  rw[F.worth]at h1;have h2:=F.least;have Yo:=k.same.1;have h4:((bL c0:Int)-1)*c.same<(d.way.length:Int)*c.same:=by lia
  have h5:(bL c0:Int)-1<(d.way.length:Int):=Int.lt_of_mul_lt_mul_right h4 Hy;have h6:=len_sub d.way d.pairs (F.way.up.imp fun{a b} h e=>by
   rw[e]at h;have:=h.1
   lia) F.sub
  lia
 have h1:=Gb (l:=ds.map Fd.pairs) (k:=bL c0) fun x hx=>by
  obtain⟨d,hd,rfl⟩:=List.mem_map.mp hx;exact each d hd
 have h2:=nL r.apart.ap fun d hd=>qO (r.jW d hd).qH
 have h3:=len_sub ((ds.map Fd.pairs).flatten.map φ) ((u7 c0.xs.length c0.ys.length).filter fun q=>(c0.pw q).isSome) (List.pairwise_map.mpr (h2.imp fun{a b} h e=>h (inj _ _ e))) fun q hq=>by
  obtain⟨q0,Gp,rfl⟩:=List.mem_map.mp hq;obtain⟨ps,hp,hq⟩:=List.mem_flatten.mp Gp;obtain⟨d,hd,rfl⟩:=List.mem_map.mp hp;have:=(r.jW d hd).op q0 hq;rw[ua,hs]at this;refine List.mem_filter.mpr ⟨?_,this⟩;obtain⟨w,hw⟩:=Option.isSome_iff_exists.mp this;generalize φ q0=q at hw;obtain⟨⟨a1,a2⟩,a3,a4⟩:=c0.pw_in hw;have:=oZ (n:=c0.xs.length) (m:=c0.ys.length) (i:=q.1.toNat) (j:=q.2.toNat) (by lia) (by lia);have e:aR (q.1.toNat,q.2.toNat)=q:=Prod.ext (by simp[aR];lia) (by simp[aR];lia);rw[e]at this;exact this
 rw[t_,List.length_map]at h3;rw[List.length_map]at h1;have h4:ds.length*bL c0≤manyN c0 c0.xs.length:=Nat.le_trans h1 h3;rcases Nat.lt_or_ge 20 ds.length with h|h
 ·exfalso;have h5:21*bL c0≤ds.length*bL c0:=Nat.mul_le_mul_right _ h;unfold bL at h4 h5
  lia
 ·exact h
def lA(n:Nat)(s:Str)(xs:List Str)(m:Nat):List Str:=List.replicate n s++xs++List.replicate m s
theorem xJ(n:Nat)(s:Str)(xs:List Str)(m:Nat):(lA n s xs m).length=n+xs.length+m:=by simp[lA];lia
theorem AZ(n:Nat)(s:Str)(xs:List Str)(m:Nat)(i:Int):wd (lA n s xs m) i=wd xs (i+-(n:Int))∨(wd xs (i+-(n:Int))=none∧wd (lA n s xs m) i=some s):=by
 unfold wd;by_cases h:0≤i
 ·rw[MJ h];obtain⟨j,rfl⟩:=Int.eq_ofNat_of_zero_le h;have ej:((j:Nat):Int).toNat=j:=by lia
  rw[ej];by_cases h1:j<n
  ·refine .inr ⟨Je Hy,?_⟩;unfold lA;rw[List.append_assoc,ZZ (by simpa using h1)];simp[h1]
  ·rw[MJ Hy];have ek:((j:Int)+-(n:Int)).toNat=j-n:=by lia
   rw[ek];by_cases h2:j-n<xs.length
   ·refine .inl ?_;unfold lA;rw[List.append_assoc,Α (by simpa using(by lia:n≤j)),List.length_replicate,ZZ h2]
   ·rw[List.getElem?_eq_none (by lia:xs.length≤j-n)];by_cases h3:j<n+xs.length+m
    ·refine .inr ⟨rfl,?_⟩;unfold lA;rw[Α (by rw[List.length_append,List.length_replicate];lia),List.getElem?_replicate,MJ (by rw[List.length_append,List.length_replicate];lia)]
    ·refine .inl (List.getElem?_eq_none ?_);rw[xJ];lia
 ·rw[Je h];exact .inl (by rw[Je Hy])
def IA(c:Case)(n0 n1 m0 m1:Nat)(s t:Str):Case:={c with xs:=lA n0 s c.xs n1,ys:=lA m0 t c.ys m1}
theorem Gq{fs:List Form}{x y:Str}(h:∀f∈fs,f.1≠x∨f.2.1≠y):c7 fs x y=none:=by
 unfold c7;rw[Option.map_eq_none_iff,List.find?_eq_none];intro f hf;rcases h f hf with h|h<;>simp[h]
theorem Pu{c:Case}{n0 n1 m0 m1:Nat}{s t:Str}(uN:s≠t)(hs:s∉c.ys∧∀f∈c.fs,f.1≠s)(ht:t∉c.xs∧∀f∈c.fs,f.2.1≠t)(q:Pr):(IA c n0 n1 m0 m1 s t).pw q=c.pw (m8 (-(n0:Int)) (-(m0:Int)) q):=by
 unfold Case.pw;show((wd (lA n0 s c.xs n1) q.1).bind fun x=>(wd (lA m0 t c.ys m1) q.2).bind fun y=>cI c.same c.fs x y)=(wd c.xs (q.1+-(n0:Int))).bind fun x=>(wd c.ys (q.2+-(m0:Int))).bind fun y=>cI c.same c.fs x y
 have lJ:∀{xs:List Str}{i:Int}{x:Str},wd xs i=some x→x∈xs:=fun{xs i x} h=>by
  unfold wd at h;split at h
  ·exact ZI h
  ·cases h
 have no:∀{x y:Str},x≠y→(∀f∈c.fs,f.1≠x∨f.2.1≠y)→cI c.same c.fs x y=none:=fun{x y} h1 h2=>by
  unfold cI;rw[Je h1,Gq h2];rfl
 rcases AZ n0 s c.xs n1 q.1 with e1|⟨e1,Yp⟩
 ·rw[e1];cases e:wd c.xs (q.1+-(n0:Int))with
  |none=>rfl
  |some x=>
   rcases AZ m0 t c.ys m1 q.2 with e2|⟨e2,Oy⟩
   ·rw[e2]
   ·rw[e2,Oy];have hx:=lJ e;exact no (fun z=>ht.1 (by rw[←z];exact hx)) fun f hf=> .inr (ht.2 f hf)
 ·rw[e1,Yp];show((wd (lA m0 t c.ys m1) q.2).bind fun y=>cI c.same c.fs s y)=none;rcases AZ m0 t c.ys m1 q.2 with e2|⟨e2,Oy⟩
  ·rw[e2];cases e:wd c.ys (q.2+-(m0:Int))with
   |none=>rfl
   |some y=>
    have hy:=lJ e;exact no (fun z=>hs.1 (by rw[z];exact hy)) fun f hf=> .inl (hs.2 f hf)
  ·rw[Oy];exact no uN fun f hf=> .inl (hs.2 f hf)
theorem IB(a b:Int)(p q:Pr)(h:m8 a b p=m8 a b q):p=q:=by rw[←sU a b p,h,sU]
theorem JS(a b:Int)(p q:Pr):iW (m8 a b p) (m8 a b q)=iW p q:=by
 unfold iW m8;by_cases h:p.1=q.1
 ·rw[MJ h,MJ (by show p.1+a=q.1+a;lia)];simp
 ·rw[Je h,Je (by show ¬p.1+a=q.1+a;lia)];simp
def Px(a b:Int)(d:Fd):Ky:=(d.worth,d.pairs.map (m8 a b))
theorem bR.shifted{c c':Case}{a b:Int}{es zV:List Fd}(t:bR (iH c []) c.out c.into c.least es)(t':bR (iH c' []) c.out c.into c.least zV)(h:∀q,lf (iH c' []) q=lf (iH c []) (m8 (-a) (-b) q)):zV.map Gj=es.map (Px a b):=by
 have m:=Gk a b c.out c.into;have m':Mv (m8 (-a) (-b)) (m8 a b) c.out c.into c.out c.into:=by
  have:=Gk (-a) (-b) c.out c.into;simpa using this
 have mv:=t.moved m m' h t';have Yq:=t'.moved m' m (m.rel h) t;have one:∀{d e:Fd},d∈es→e∈zV→e.worth=d.worth→(∀q,q∈e.pairs↔m8 (-a) (-b) q∈d.pairs)→Gj e=Px a b d:=fun{d e} hd he w k=>by
  refine Prod.ext w (xH Gi (t'.jW e he).qH (List.pairwise_map.mpr ((t.jW d hd).qH.imp fun{x y} z=>by rw[JS];exact z)) fun q=>?_);show q∈e.pairs↔q∈d.pairs.map (m8 a b);rw[List.mem_map];constructor
  ·intro hq;exact⟨_,(k q).mp hq,m.r q⟩
  ·rintro⟨x,hx,rfl⟩;exact(k _).mpr (by rw[m.l];exact hx)
 refine xH Iy (List.pairwise_map.mpr t'.qH) (List.pairwise_map.mpr (List.Pairwise.imp_of_mem (fun{x y} hx hy z=>?_) t.qH)) fun k=>?_
 ·have f:∀{d:Fd},d.pairs≠[]→jm (d.pairs.map (m8 a b))=m8 a b (jm d.pairs):=fun{d} n=>by
   cases e:d.pairs with
   |nil=>exact Z1 e n
   |cons x r=>rfl
  unfold Mb at z;show(if x.worth=y.worth then iW (jm (x.pairs.map (m8 a b))) (jm (y.pairs.map (m8 a b)))else decide (y.worth<x.worth))=true;rw[f (t.ne x hx),f (t.ne y hy),JS];exact z
 ·rw[List.mem_map,List.mem_map];constructor
  ·rintro⟨e,he,rfl⟩;obtain⟨d,hd,w,k⟩:=Yq e he;exact⟨d,hd,(one hd he w.symm fun q=>by rw[k,m.r]).symm⟩
  ·rintro⟨d,hd,rfl⟩;obtain⟨e,he,w,k⟩:=mv d hd;exact⟨e,he,one hd he w k⟩
def fE:List Str:=["q","qq","qr","qs","qt","qu","qv","qw"]
theorem wu:fE.Nodup:=by decide+kernel
theorem Dy{ks zs:List Str}(h:∀w∈ks,w∈zs)(hz:zs.length≤5):∃s t r,fE.filter (fun w=>decide (w∉ks))=s::t::r∧s∉ks∧t∉ks∧s≠t:=by
 have h1:=len_sub (fE.filter fun w=>decide (w∈ks)) zs (wu.filter _) fun w hw=>h w (by simpa using(List.mem_filter.mp hw).2)
 have h2:(fE.filter fun w=>decide (w∈ks)).length+(fE.filter fun w=>decide (w∉ks)).length=8:=by
  have:=(List.filter_append_perm (fun w=>decide (w∈ks)) fE).length_eq;rw[List.length_append]at this;have e:(fun w=>decide (w∉ks))=fun w=>!decide (w∈ks):=by funext w;simp
  rw[e];have e8:fE.length=8:=rfl
  lia
 have nd:=wu.filter fun w=>decide (w∉ks)
 match e:fE.filter (fun w=>decide (w∉ks)),nd with
 |[],_=>rw[e]at h2;simp at h2;lia
 |[x],_=>rw[e]at h2;simp at h2;lia
 |s::t::r,nd=>
  have m:∀w∈fE.filter (fun w=>decide (w∉ks)),w∉ks:=fun w hw=>by simpa using(List.mem_filter.mp hw).2
  rw[e]at m;have:=(List.nodup_cons.mp nd).1;exact⟨s,t,r,rfl,m s Vs,m t (XC),fun z=>this (by rw[z];simp)⟩
theorem sV(k:Nat)(s:Str):(List.replicate k [V.str s]).flatten=(List.replicate k s).map V.str:=by
 induction k with
 |zero=>rfl
 |succ k ih=>rw[List.replicate_succ,List.replicate_succ,List.flatten_cons,ih];rfl
section
variable{zs rs:List Str}{c:Case}(hl:rs.length=zs.length)(nd:rs.Nodup)(W:Gm c zs)
include hl nd
include W
end
def VS(n m:Nat)(q:Pr):Prop:=(0≤q.1∧q.1<n)∧0≤q.2∧q.2<m
section
variable{n m:Nat}{S o p least:Int}(hS:0<S)(ho:40*S≤o)(hp:40*S≤p)(hn:n≤40)(hl:1≤least)
structure Un(n m:Nat)(S:Int)(f:Nat→Nat→Option Int):Prop where
 val:∀q,(lf f q).isSome=true→lf f q=some S∧VS n m q
 all:∀q q',(lf f q).isSome=true→VS n m q'→q.1-q.2=q'.1-q'.2→(lf f q').isSome=true
include hS ho hp hn
include hl
end
section
variable{n m:Nat}{S o p least:Int}{w:Str}(hS:0<S)(ho:40*S≤o)(hp:40*S≤p)(hn:n≤40)(hl:1≤least)
include hS ho hp hn hl
end
abbrev sR(a:Addr):Option V:=some (.ref a)
abbrev sI(a:Int):Option V:=some (.int a)
abbrev sS(a:Str):Option V:=some (.str a)
end QF
namespace Uh
open PySem L2 QF
def top(i:Nat):Stmt:=PySem.Challenge.pw_quotefind_k24_round_about.main.body.getD i (.Pass ⟨0,0,0,0⟩)
abbrev gj:Stmt:=top 28
abbrev mF:Stmt:=top 29
abbrev kL:Stmt:=top 34
abbrev jd:Stmt:=top 35
abbrev gk:Stmt:=top 36
abbrev g7:Stmt:=top 37
abbrev bx:Stmt:=inClass (top 38) 0
abbrev dW:Stmt:=inClass (top 38) 1
abbrev kM:Stmt:=top 11
abbrev A0:Stmt:=top 12
abbrev fU:Stmt:=top 13
abbrev dM:Stmt:=inClass (top 14) 1
abbrev eI:Stmt:=inClass (top 14) 0
abbrev gS:Stmt:=inClass (top 14) 2
abbrev dX:Stmt:=inClass (top 14) 4
abbrev cS:Stmt:=inClass (top 14) 3
abbrev e6:Stmt:=inClass (top 14) 5
abbrev iB:Stmt:=inClass (top 14) 6
abbrev fV:Stmt:=inClass (top 20) 0
abbrev nN:Stmt:=top 24
abbrev e7:Stmt:=top 21
abbrev gm:Stmt:=inClass (top 7) 0
abbrev iK:Stmt:=inClass (top 7) 1
abbrev fz:Stmt:=inClass (top 7) 2
abbrev e_:Stmt:=inClass (top 7) 3
abbrev g8:Stmt:=inClass (top 7) 4
abbrev fe:Stmt:=inClass (top 8) 0
abbrev fA:Stmt:=inClass (top 8) 1
abbrev dH:Stmt:=inClass (top 8) 2
abbrev eJ:Stmt:=inClass (top 8) 3
abbrev jX:Stmt:=top 9
abbrev mG:Stmt:=top 16
abbrev fI:Stmt:=top 17
abbrev gq:Stmt:=top 22
abbrev kN:Stmt:=top 23
abbrev qS:Stmt:=top 25
abbrev qT:Stmt:=top 40
abbrev kO:Stmt:=top 41
abbrev lU:Stmt:=top 42
abbrev lV:Stmt:=top 43
abbrev iL:Stmt:=top 44
abbrev gu:Stmt:=top 45
abbrev lW:Stmt:=top 46
abbrev lX:Stmt:=top 47
abbrev lY:Stmt:=top 48
abbrev kP:Stmt:=top 49
abbrev kQ:Stmt:=top 50
abbrev kR:Stmt:=top 51
abbrev lZ:Stmt:=top 52
abbrev gv:Stmt:=top 53
abbrev g9:Stmt:=top 54
abbrev iM:Stmt:=top 55
abbrev g_:Stmt:=top 56
abbrev kT:Stmt:=top 57
abbrev fB:Stmt:=top 58
abbrev m9:Stmt:=top 59
section
variable{P:Program}{w:World}{K:W.Frag}{mg:Str→Option Value}{base:Heap}
variable{dY cU aU aC ay aI az kc:Addr}
variable(T:TB mg)
theorem nP:aL ["sign"] ["sign"] (au gj):=⟨rfl,rfl,rfl,by decide+kernel,rfl,by decide+kernel,by decide+kernel⟩
include T in
theorem nQ{f:Addr}{fd:FuncData}(F:ju K "is_small_letter" "is_small_letter" gj f fd):a7 P w K mg base (cX P w) true 1 f fd ["sign"] Ao:=by
 refine F.gL nP ZH (fun bU A outer s H vs Q E hr h hX=>?_)
 ·obtain⟨i,rfl,_⟩:=h;rfl
 ·obtain⟨c,rfl,q⟩:=h;refine⟨_,(X9 (ZJ (@wJ _ _ _ _ _ _ _ (@iF _ _ _ _ _ _ _ _ vZ bY Y' (aV _)) (@wI _ _ _ _ _ (@iF _ _ _ _ _ _ _ _ vZ Y' bY (aV _)))))),?_⟩;refine⟨_,rfl,_,_,rfl,rfl,_,rfl,?_⟩;have q:Q (.bl (decide (97≤c)&&decide (c≤122))) H:=q;rw[←SW,←SX]at q;refine bb (fun h=>?_) (fun h=>?_)
  ·refine⟨_,rfl,_,_,rfl,rfl,?_⟩;rw[h,Bool.true_and]at q;exact q
  ·rw[Bool.not_eq_true]at h;rw[h,Bool.false_and]at q;exact q
variable(jB:Ef mg "WORD_MOST" (.int 12))
variable(eK:bK P w K mg base true 1 "is_small_letter" ["sign"] Ao)
theorem A3:aL ["text"] ["text"] (au mF):=⟨rfl,rfl,rfl,by decide+kernel,rfl,by decide+kernel,by decide+kernel⟩
include T jB eK in
theorem A4{f:Addr}{fd:FuncData}(F:ju K "is_word" "is_word" mF f fd):a7 P w K mg base (cX P w) true 2 f fd ["text"] xa:=by
 refine F.gL A3 ZH (fun bU A outer s H vs Q E hr h hX=>?_)
 ·obtain⟨i,rfl,_⟩:=h;rfl
 ·obtain⟨z,rfl,hz,q⟩:=h;refine⟨_,(Xm (Ν (@PW.pt _ _ _ (Κ (ZQ mV (Ε oF T.cY (SV Y')) af (aV _)) (@pw_or1 _ _ _ _ (ZQ rE (Ε oF T.cY (SV Y')) (θ jB) (aV _))))) aP) (X9 (ZJ (ε (CQ K rfl) T.OG PyProof.Rows.Boot.«all» (SV (@mq _ _ _ _ _ _ _ _ _ _ _ _ _ _ (by exact rfl) (show bh ["text"] (au mF) _ ["sign"] [] []from⟨rfl,by decide+kernel,by decide+kernel,by decide+kernel,rfl,rfl,by decide+kernel,by decide+kernel,by decide+kernel⟩) (@K_ _ _ _ _ (pv 0)) (fun _ _ _ _ _=>(Z9 (0) (show(["sign"]:List Str).Nodup by decide+kernel))) (fun _ _ _ _ _=>gX) (fun _ _ _ _ _=>(ZG eK aQ (SV Y'))) (by intro _;rfl))))))),?_⟩;have VT:z.length≤sizeLine:=Nat.le_trans hz (WV);refine⟨_,rfl,z,rfl,VT,_,_,rfl,rfl,_,rfl,?_⟩;refine bb (fun h=>?_) (fun h=>?_)
  ·have h:((z.length:Nat):Int)<1:=by simpa using h
   refine jS ?_;have e:sM z=false:=by
    have:¬1≤z.length:=by lia
    simp[sM,this]
   have q:=q H (av.refl H);rw[e]at q;exact q
  have h:¬((z.length:Nat):Int)<1:=by simpa using h
  refine⟨_,rfl,z,rfl,VT,_,_,rfl,rfl,_,rfl,?_⟩;refine bb (fun h2=>?_) (fun h2=>?_)
  ·have h2:(12:Int)<((z.length:Nat):Int):=by simpa using h2
   have e:sM z=false:=by
    have:¬z.length≤12:=by lia
    simp[sM,this]
   have q:=q H (av.refl H);rw[e]at q;exact q
  have h2:¬(12:Int)<((z.length:Nat):Int):=by simpa using h2
  have hl:z.length≤12:=by lia
  have e:sM z=z.cps.toList.all low:=by
   have h3:1≤z.length:=by lia
   simp[sM,h3,hl]
  refine⟨_,rfl,z,rfl,fun D hD=>?_⟩;refine EG (fun i ys σ H'=>(∃v,σ=[v])∧ys=(z.cps.toList.take i).map (fun c=>V.bl (low c))∧H'=upd H D (.lst ys)) ⟨⟨_,rfl⟩,rfl,rfl⟩ ?_ ?_
  ·rintro i c ys σ H' hc ⟨⟨v,rfl⟩,hy,rfl⟩;refine qw ?_;refine⟨_,rfl,c,rfl,ae,?_,⟨_,rfl⟩,?_,?_⟩
   ·rw[hy,List.length_map,List.length_take];exact Nat.lt_of_le_of_lt (Nat.min_le_left _ _) (Nat.lt_of_lt_of_le (Nat.lt_of_lt_of_le (YG hc).1 (by simpa[Str.length]using hl)) (WV))
   ·rw[hy,List.take_succ,hc];simp
   ·rw[gf]
  ·rintro ys σ H' ⟨_,hy,rfl⟩;have DZ:ys=(z.cps.toList.map low).map V.bl:=by
    rw[hy,List.take_of_length_le (by simp[Str.length])];simp
   rw[DZ];refine⟨D,z.cps.toList.map low,rfl,ir.of ae,?_⟩;have q:=q _ (av.upd hD:av H (upd H D (.lst ((z.cps.toList.map low).map V.bl))));rw[e]at q;have e3:(z.cps.toList.map low).all id=z.cps.toList.all low:=by rw[List.all_map];rfl
   rw[←e3]at q;exact q
theorem u9:aL ["low","number","high"] ["low","number","high"] (au kL):=⟨rfl,rfl,rfl,by decide+kernel,rfl,by decide+kernel,by decide+kernel⟩
include T in
theorem u_{f:Addr}{fd:FuncData}(F:ju K "is_between" "is_between" kL f fd):a7 P w K mg base (cX P w) true 1 f fd ["low","number","high"] nE:=by
 refine F.gL u9 ZH (fun bU A outer s H vs Q E hr h hX=>?_)
 ·obtain⟨l,n,h,rfl,_⟩:=h;rfl
 ·obtain⟨l,n,h,rfl,q⟩:=h;refine⟨_,(X9 (ZJ (@wJ _ _ _ _ _ _ _ (@iF _ _ _ _ _ _ _ _ Bp Y' (pv 1) (aV _)) (@wI _ _ _ _ _ (@iF _ _ _ _ _ _ _ _ Bp Z' (pv 2) (aV _)))))),?_⟩;refine⟨_,rfl,_,rfl,_,_,rfl,rfl,_,rfl,?_⟩;refine bb (fun h1=>?_) (fun h1=>?_)
  ·refine⟨_,rfl,_,rfl,_,_,rfl,rfl,?_⟩;rw[h1,Bool.true_and]at q;exact q
  ·rw[Bool.not_eq_true]at h1;rw[h1,Bool.false_and]at q;exact q
variable(dZ:bK P w K mg base true 1 "is_between" ["low","number","high"] nE)
variable(je:Er K mg "BadTerms" dY)
theorem r6:aL ["name","number","low","high"] ["name","number","low","high"] (au jd):=⟨rfl,rfl,rfl,by decide+kernel,rfl,by decide+kernel,by decide+kernel⟩
include T dZ je in
theorem r9{f:Addr}{fd:FuncData}(F:ju K "check_number" "check_number" jd f fd):a7 P w K mg base (cX P w) true 2 f fd ["name","number","low","high"] (qx dY):=by
 refine F.gL r6 ZH (fun bU A outer s H vs Q E hr h hX=>?_)
 ·obtain⟨nm,n,l,h,rfl,_⟩:=h;rfl
 ·obtain⟨nm,n,l,h,rfl,hn,hl,hh,q⟩:=h;refine⟨_,(X9 (ZX (@cN _ _ _ _ (Β (ZG dZ aQ (WW Z2 (ι Z'))))) (X9 (@i8 _ _ _ _ _ _ _ _ _ _ hX Η (by exact rfl) je.m je.e (SV (@mn _ _ _ _ _ _ (@fu _ _ _ _ _ (@qv _ _ _ _ (pv 0)) (@fu _ _ _ _ _ bY (@fu _ _ _ _ _ (@qv _ _ _ _ (pv 2)) (@fu _ _ _ _ _ bY (@fu _ _ _ _ _ (@qv _ _ _ _ (pv 3)) w6))))))) (WV) (Z5) (Z5))) aP)),?_⟩;refine⟨_,rfl,_,rfl,_,rfl,l,n,h,rfl,?_⟩;refine⟨_,rfl,?_⟩;refine bb (fun h1=>?_) (fun h1=>?_)
  ·have h1:inR l n h=false:=(Bool.not_eq_true' _).mp h1;rw[h1]at q;have z1:=oN (i:=l) (by lia);have z2:=oN (i:=h) (by lia);have w1:(Str.ofString " lies between ").length=14:=by decide+kernel
   have w2:(Str.ofString " and ").length=5:=by decide+kernel
   have w3:=mw;refine⟨_,rfl, .inl ⟨nm,rfl,aA Hy,nm,rfl,aA ?_,_,rfl,aA ?_,_,rfl, .inr ⟨l,rfl,z1.1,_,rfl,aA ?_,_,rfl,aA ?_,_,rfl, .inr ⟨h,rfl,z2.1,_,rfl,aA ?_,aA ?_,ig,?_⟩⟩⟩⟩
   ·rw[len_app];lia
   ·rw[len_app,len_app];lia
   ·rw[len_app,len_app,len_app];lia
   ·rw[len_app,len_app,len_app,len_app];lia
   ·rw[len_app,len_app,len_app,len_app,len_app];lia
   ·rw[len_app,len_app,len_app,len_app,len_app];lia
   ·exact q
  ·have h1:inR l n h=true:=by
    have h1:¬(!(inR l n h))=true:=h1;simpa using h1
   rw[h1]at q;exact q
variable(bS:Ef mg "WORTH_MOST" (.int 999999))
variable(ke:bK P w K mg base true 2 "is_word" ["text"] xa)
variable(cc:Er K mg "BadNear" cU)
theorem nS:aL ["x","y","price"] ["x","y","price"] (au gk):=⟨rfl,rfl,rfl,by decide+kernel,rfl,by decide+kernel,by decide+kernel⟩
include T dZ bS ke cc in
theorem nU{f:Addr}{fd:FuncData}(F:ju K "check_near_form" "check_near_form" gk f fd):a7 P w K mg base (cX P w) true 3 f fd ["x","y","price"] (xb cU):=by
 refine F.gL nS ZH (fun bU A outer s H vs Q E hr h hX=>?_)
 ·obtain⟨x,y,p,rfl,_⟩:=h;rfl
 ·obtain⟨x,y,p,rfl,hx,hy,q⟩:=h;have bad:iz x y p=false→∀H',av H H'→E (.ref cU) none H':=fun e=>by rw[e]at q;exact q
  have good:iz x y p=true→∀H',av H H'→Q .cL H':=fun e=>by rw[e]at q;exact q
  refine⟨_,(Xm (ZX (@PW.pt _ _ _ (Κ (@cN _ _ _ _ (Β (ZG ke aQ (SV Y')))) (@pw_or1 _ _ _ _ (@cN _ _ _ _ (Β (ZG ke aQ (SV Z'))))))) (X9 (@i8 _ _ _ _ _ _ _ _ _ _ hX Η (by exact rfl) cc.m cc.e (SV bY) (WV) (Z5) (Z5))) aP) (Xm (ZX (ZQ jt Y' (pv 1) (aV _)) (X9 (@i8 _ _ _ _ _ _ _ _ _ _ hX Η (by exact rfl) cc.m cc.e (SV bY) (WV) (Z5) (Z5))) aP) (X9 (ZX (@cN _ _ _ _ (Β (ZG dZ aQ (WW af (WW Z2 (SV (θ bS))))))) (X9 (@i8 _ _ _ _ _ _ _ _ _ _ hX Η (by exact rfl) cc.m cc.e (SV (@mn _ _ _ _ _ _ (@fu _ _ _ _ _ bY (@fu _ _ _ _ _ (@qv _ _ _ _ (θ bS)) w6)))) (WV) (Z5) (Z5))) aP)))),?_⟩;refine⟨_,rfl,x,rfl,hx,fun H1 s1=>⟨_,rfl,?_⟩⟩;refine bb (fun h1=>?_) (fun h1=>?_)
  ·have h1:(!(sM x))=true:=h1;exact⟨ig,bad (by simp[iz,(Bool.not_eq_true' _).mp h1]) H1 s1⟩
  have h1:¬(!(sM x))=true:=h1;have h1:sM x=true:=by simpa using h1
  refine⟨_,rfl,y,rfl,hy,fun H2 s2=>⟨_,rfl,?_⟩⟩;have s2:=s1.trans s2;refine bb (fun h2=>?_) (fun h2=>?_)
  ·have h2:(!(sM y))=true:=h2;exact⟨ig,bad (by simp[iz,(Bool.not_eq_true' _).mp h2]) H2 s2⟩
  have h2:¬(!(sM y))=true:=h2;have h2:sM y=true:=by simpa using h2
  refine⟨_,rfl,_,rfl,rfl,_,rfl,?_⟩;refine bb (fun h3=>?_) (fun h3=>?_)
  ·have h3:x=y:=by simpa using h3
   exact⟨ig,bad (by simp[iz,h3]) H2 s2⟩
  have h3:¬x=y:=by simpa using h3
  refine⟨_,rfl,0,p,999999,rfl,_,rfl,?_⟩;refine bb (fun h4=>?_) (fun h4=>?_)
  ·have h4:(!(inR 0 p 999999))=true:=h4;have z1:=oN (i:=999999) (by lia);have w1:(Str.ofString "the price of a near form lies between 0 and ").length=44:=by decide+kernel
   have w3:=mw;refine⟨_,rfl,aA ?_, .inr ⟨999999,rfl,z1.1,_,rfl,aA ?_,aA ?_,ig,?_⟩⟩
   ·rw[len_app];lia
   ·rw[len_app,len_app];lia
   ·rw[len_app,len_app];lia
   ·exact bad (by simp[iz,(Bool.not_eq_true' _).mp h4]) H2 s2
  ·have h4:¬(!(inR 0 p 999999))=true:=h4;have h4:inR 0 p 999999=true:=by simpa using h4
   exact good (by simp[iz,h1,h2,h3,h4]) H2 s2
variable(iq:Ef mg "NEAR_MOST" (.int 60))
variable(eL:bK P w K mg base true 3 "check_near_form" ["x","y","price"] (xb cU))
theorem fg:aL ["near","prices","x","y","price"] ["near"] (au g7):=⟨rfl,rfl,rfl,by decide+kernel,rfl,by decide+kernel,by decide+kernel⟩
include T cc iq eL in
theorem uj{f:Addr}{fd:FuncData}(F:ju K "near_prices" "near_prices" g7 f fd):a7 P w K mg base (cX P w) true 4 f fd ["near"] (qy cU):=by
 refine F.gL fg ZH (fun bU A outer s H vs Q E hr h hX=>?_)
 ·obtain⟨a,xs,fs,rfl,_⟩:=h;rfl
 ·obtain⟨a,xs,fs,rfl,ha,ht,Ol,q⟩:=h;have bad:bO fs=false→∀H',av H H'→E (.ref cU) none H':=fun e=>by rw[e]at q;exact q
  have good:bO fs=true→∀H' d,av H H'→H d=none→H' d=some (.dT (fs.map lL))→Q (.ref d) H':=fun e=>by rw[e]at q;exact q
  have hu:=hr.units;have hu:(A.deeper (Ρ "near_prices" (au g7) f bU)).units+1<cLine:=by lia
  refine⟨_,(Xm (ZX (ZQ rE (Ε (aK K) T.cY (SV Y')) (θ iq) (aV _)) (X9 (@i8 _ _ _ _ _ _ _ _ _ _ hX Η (by exact rfl) cc.m cc.e (SV (@mn _ _ _ _ _ _ (@fu _ _ _ _ _ bY (@fu _ _ _ _ _ (@qv _ _ _ _ (θ iq)) (@fu _ _ _ _ _ bY w6))))) (WV) (Z5) (Z5))) aP) (Xm (YL (1) fg.nd j7) (Xm (Za hX.own (Γ K Y') (ζ K (3) (by exact rfl) (Z_ (Z9 (2) fg.nd) (Z_ (Z9 (3) fg.nd) (Z_ (Z9 (4) fg.nd) fq)))) (Xm (ZY (ZG eL hX.pass (WW Z2 (WW (pv 3) (SV (pv 4)))))) (Xm (ZX (Ψ (@qr _ _ _ _ _ hu (@eC _ _ _ _ _ (ι Z2)) (pv 1))) (X9 (@i8 _ _ _ _ _ _ _ _ _ _ hX Η (by exact rfl) cc.m cc.e (SV bY) (WV) (Z5) (Z5))) aP) (X9 (@ky _ _ _ _ _ _ _ _ _ hu Z' (@eC _ _ _ _ _ (ι Z2)) (pv 4) (by exact rfl)))))) (X9 (ZJ Z'))))),?_⟩;refine⟨_,rfl,a,_,rfl, .inl (.of ha),_,_,rfl,rfl,_,rfl,?_⟩;refine bb (fun h1=>?_) (fun h1=>?_)
  ·have h1:(60:Int)<(xs.length:Int):=by simpa using h1
   rw[ht.1]at h1;have z1:=oN (i:=60) (by lia);have w1:(Str.ofString "there are at most ").length=18:=by decide+kernel
   have w2:(Str.ofString " near forms").length=11:=by decide+kernel
   have w3:=mw;refine⟨_,rfl,aA ?_, .inr ⟨60,rfl,z1.1,_,rfl,aA ?_,_,rfl,aA ?_,aA ?_,ig,?_⟩⟩
   ·rw[len_app];lia
   ·rw[len_app,len_app];lia
   ·rw[len_app,len_app,len_app];lia
   ·rw[len_app,len_app,len_app];lia
   ·exact bad (by have:¬fs.length≤60:=(by lia);simp[bO,this]) H (.refl H)
  have h1:¬(60:Int)<(xs.length:Int):=by simpa using h1
  rw[ht.1]at h1;refine fun d hd=>?_
  have aae:H a≠none:=by rw[ha];intro z;cases z
  have eQ:a≠d:=aF ha hd;refine⟨_,rfl,a,rfl,⟨xs, .of (by rw[ao eQ];exact ha)⟩,?_⟩;refine bM (xs:=xs) (fun i σ H'=>(∃u v w,σ=[sR a,sR d,u,v,w])∧H' d=some (.dT ((fs.take i).map lL))∧av H H'∧((fs.take i).all DP=true)∧((fs.take i).map lq).Nodup) ?_ ?_ ?_ ?_
  ·exact⟨⟨_,_,_,rfl⟩,ae,Z6 hd,rfl, .nil⟩
  ·rintro i σ H' hi ⟨_,_,s1,_⟩;exact .of (s1 _ _ ha)
  ·rintro i x σ H' hx ⟨⟨u,v,w,rfl⟩,hD,s1,bX,GN⟩;have hi:i<fs.length:=by rw[←ht.1];exact(YG hx).1
   have hf:fs[i]?=some fs[i]:=by simp[hi]
   generalize fs[i]=f0 at hf;obtain⟨t,yy,uS⟩:=ht.2 i f0 hf;rw[hx]at yy;cases yy;obtain⟨x,y,p⟩:=f0;have hm:(x,y,p)∈fs:=ZI hf;obtain⟨lu,GO⟩:=Ol.2 _ hm;refine⟨t,_,rfl, .of (s1 _ _ uS),rfl,_,_,rfl,_,_,rfl,_,_,rfl,rfl,?_⟩;refine⟨_,rfl,_,rfl,_,rfl,x,y,p,rfl,lu,GO,?_⟩;refine bb (fun h2=>?_) (fun h2=>?_)
   rotate_left
   ·have h2:DP (x,y,p)=false:=by simpa[DP]using h2
    exact fun H2 s2=>bad (EN hf h2) H2 (s1.trans s2)
   have h2:DP (x,y,p)=true:=h2;intro H2 s2;have Rg:=s1.trans s2;have ku:=s2 _ _ hD;refine⟨_,rfl,_,rfl,aA Vs,fun p1 AF=>?_⟩;have n1:d≠p1:=aF ku AF;refine⟨_,rfl,d,_,rfl, .t (k:=lq (x,y,p)) (by rw[ao n1];exact ku) ae,_,rfl,?_⟩;refine bb (fun h3=>?_) (fun h3=>?_)
   ·obtain⟨v3,h3⟩:=Option.isSome_iff_exists.mp h3;exact⟨ig,bad (CS hf (Le h3)) _ (Rg.eP (Rg.free AF))⟩
   have h3:bA ((fs.take i).map lL) (lq (x,y,p))=none:=by simpa using h3
   have s3:av H (upd H2 p1 (.tup [.str x, .str y])):=Rg.eP (Rg.free AF);refine⟨_,rfl,_,rfl,_,rfl,_,rfl,aA Vs,fun p2 wN=>?_⟩;have Dz:upd H2 p1 (.tup [.str x, .str y]) d=some (.dT ((fs.take i).map lL)):=by rw[ao n1];exact ku
   have n2:d≠p2:=aF Dz wN;have hlen:((fs.take i).map lL).length<sizeLine:=bf (by rw[List.length_map,List.length_take];lia);refine⟨d,_,rfl, .t (k:=lq (x,y,p)) (by rw[ao n2];exact Dz) ae hlen,?_⟩;refine⟨⟨_,_,_,rfl⟩,?_,?_,?_,?_⟩
   ·rw[ae,s_ _ h3,CU hf];rfl
   ·exact(s3.eP (s3.free wN)).eP hd
   ·rw[List.take_succ,hf,List.all_append,bX];simp[h2]
   ·rw[List.take_succ,hf,List.map_append];have:=OH h3;refine List.nodup_append.mpr ⟨GN,XC,?_⟩;intro a1 AE b1 jY e;have jY:b1=lq (x,y,p):=by simpa using jY
    rw[e,jY]at AE;exact this AE
  ·rintro σ H' ⟨⟨u,v,w,rfl⟩,hD,s1,bX,GN⟩;rw[ht.1,List.take_length]at hD bX GN;refine⟨_,rfl,good ?_ H' d s1 hd hD⟩;have:fs.length≤60:=by lia
   simp[bO,this,bX,GN]
variable(jC:Ef mg "PART_MOST" (.int 100))
variable(cB:bK P w K mg base true 2 "check_number" ["name","number","low","high"] (qx dY))
variable(hG:bK P w K mg base true 4 "near_prices" ["near"] (qy cU))
variable(Tc:EO K aU)
theorem o7:aL ["self","same","out","into","least","part","near"] ["self","same","out","into","least","part","near"] (au bx):=⟨rfl,rfl,rfl,by decide+kernel,rfl,by decide+kernel,by decide+kernel⟩
include T bS jC cB hG Tc in
theorem o8{f:Addr}{fd:FuncData}(F:iy K "__init__" "Terms.__init__" bx f fd):a7 P w K mg base (cX P w) true 5 f fd ["self","same","out","into","least","part","near"] (sN aU dY cU):=by
 refine F.gL o7 ZH (fun bU A outer s H vs Q E hr h hX=>?_)
 ·obtain⟨x,dx,n,nv,xs,fs,rfl,_⟩:=h;rfl
 ·obtain⟨x,dx,n,nv,xs,fs,rfl,hx,E4,Yr,Ol,q⟩:=h;have bad:i9 n=false→E (.ref dY) none H:=fun e=>by rw[e]at q;exact q H .refl
  refine⟨_,(Xm (ZY (ZG cB hX.pass (WW bY (WW Z' (WW af (SV (θ bS))))))) (Xm (ZY (ZG cB hX.pass (WW bY (WW Z2 (WW af (SV (θ bS))))))) (Xm (ZY (ZG cB hX.pass (WW bY (WW (pv 3) (WW af (SV (θ bS))))))) (Xm (ZY (ZG cB hX.pass (WW bY (WW (pv 4) (WW af (SV (θ bS))))))) (Xm (ZY (ZG cB hX.pass (WW bY (WW (pv 5) (WW af (SV (θ jC))))))) (Xm (Λ K Y' (pv 1)) (Xm (Λ K Y' (pv 2)) (Xm (Λ K Y' (pv 3)) (Xm (Λ K Y' (pv 4)) (Xm (Λ K Y' (pv 5)) (Z0 (Λ K Y' (@oA _ _ _ _ _ _ _ _ (Ψ (@lG _ _ _ _ _ (pv 6))) (ZW ai) (ν (gY K) (by exact rfl) T.kD PyProof.Rows.Boot.«list» (SV (pv 6))))) (X9 (Λ K Y' (ZG hG hX.pass (SV (ZL K)))))))))))))))),?_⟩;refine⟨_,rfl,"same",n.same,1,999999,rfl,by decide+kernel,by lia,by lia,?_⟩;refine bb (fun h1=>?_) (fun h1=>bad (by simp[i9,h1]));refine⟨_,rfl,"out",n.out,0,999999,rfl,by decide+kernel,by lia,by lia,?_⟩;refine bb (fun h2=>?_) (fun h2=>bad (by simp[i9,h2]));refine⟨_,rfl,"into",n.into,0,999999,rfl,by decide+kernel,by lia,by lia,?_⟩;refine bb (fun h3=>?_) (fun h3=>bad (by simp[i9,h3]));refine⟨_,rfl,"least",n.least,1,999999,rfl,by decide+kernel,by lia,by lia,?_⟩;refine bb (fun h4=>?_) (fun h4=>bad (by simp[i9,h4]));refine⟨_,rfl,"part",n.part,1,100,rfl,by decide+kernel,by lia,by lia,?_⟩;refine bb (fun h5=>?_) (fun h5=>bad (by simp[i9,h5]));have bX:i9 n=true:=by simp[i9,h1,h2,h3,h4,h5]
  rw[bX]at q;have hl:∀k:Nat,k<10→k<1000:=fun k h=>by lia
  refine⟨_,rfl,_,rfl,x,aU,dx,_,rfl,hx,Tc.cl,Tc.same,WV,?_⟩;refine⟨_,rfl,_,rfl,x,aU,dx,_,rfl,ae,Tc.cl,Tc.out,?_,?_⟩
  ·exact hl _ (by have:=aW "same" (.int n.same) [];simp at this;lia)
  refine⟨_,rfl,_,rfl,x,aU,dx,_,rfl,ae,Tc.cl,Tc.into,?_,?_⟩
  ·exact hl _ (Nat.lt_of_le_of_lt (aW _ _ _) (by have:=aW "same" (.int n.same) [];simp at this;lia))
  refine⟨_,rfl,_,rfl,x,aU,dx,_,rfl,ae,Tc.cl,Tc.least,?_,?_⟩
  ·show([("same", .int n.same),("out", .int n.out),("into", .int n.into)]:List (Str×V)).length<1000;simp
  refine⟨_,rfl,_,rfl,x,aU,dx,_,rfl,ae,Tc.cl,Tc.part,?_,?_⟩
  ·show([("same", .int n.same),("out", .int n.out),("into", .int n.into),("least", .int n.least)]:List (Str×V)).length<1000;simp
  rw[gf,gf,gf,gf,SY];have b5:SameBut x H (upd H x (.ins aU dx (mY n))):=SameBut.refl.upd;refine⟨fun σ H'=>σ=[sR x,sI n.same,sI n.out,sI n.into,sI n.least,sI n.part,some nv]∧∃l,H' x=some (.ins aU dx (bq "near" (.ref l) (mY n)))∧SameBut x H H'∧H' l=some (.lst xs)∧dS H' xs fs∧H l=none,?_,?_⟩
  ·refine⟨_,rfl,_,rfl,?_⟩;rcases Yr with⟨rfl,rfl,rfl⟩|⟨a,rfl,ha,Rh⟩
   ·refine jS ?_;refine⟨aA Vs,fun l lg=>?_⟩;have n1:x≠l:=aF ae lg;refine⟨_,rfl,x,aU,dx,_,rfl,by rw[ao n1,ae],Tc.cl,Tc.near,by simp[mY],rfl,l,ae,?_,?_, .nil,?_⟩
    ·exact(b5.laid (b5.free ae lg)).upd
    ·rw[ao (Ne.symm n1),ae]
    ·exact b5.free ae lg
   ·refine bb (fun hh=>absurd hh Vs) (fun _=>?_);have n0:a≠x:=iZ ha hx (by intro z;cases z);refine⟨_,rfl,a,xs,rfl, .inl (.of (by rw[ao n0];exact ha)),fun l lg=>?_⟩;have n1:x≠l:=aF ae lg;have b6:SameBut x H (upd (upd H x (.ins aU dx (mY n))) l (.lst xs)):=b5.laid (b5.free ae lg);refine⟨_,rfl,x,aU,dx,_,rfl,by rw[ao n1,ae],Tc.cl,Tc.near,by simp[mY],rfl,l,ae,b6.upd,?_,?_,?_⟩
    ·rw[ao (Ne.symm n1),ae]
    ·exact Rh.but b6.upd hx
    ·exact b5.free ae lg
  ·rintro σ H' ⟨rfl,l,uR,sb,JR,Rh,Ys⟩;refine⟨_,rfl,x,aU,dx,_,_,rfl,uR,Tc.cl,Tc.near,OJ n l,l,xs,fs,rfl,JR,Rh,Ol,?_⟩;refine bb (fun h6=>?_) (fun h6=>?_)
   ·rw[if_pos rfl,MJ h6]at q;intro H2 d s2 hd hD;have b2:=sb.same s2;have Yt:=sb.free uR hd;refine⟨_,rfl,x,aU,dx,_,rfl,s2 _ _ uR,Tc.cl,Tc.ER,?_,?_⟩
    ·have:=aW "near" (.ref l) (mY n);have e5:(mY n).length=5:=rfl;exact hl _ (by lia)
    ·have nl:l≠x:=iZ JR uR (by intro z;cases z);have nd:d≠x:=iZ hD (s2 _ _ uR) (by intro z;cases z);have VU:dx≠x:=iZ E4 hx (by intro z;cases z);refine q _ l d b2.upd ⟨?_,?_,?_,?_,?_⟩ Ys Yt
     ·rw[ae,S8]
     ·rw[ao VU];exact b2 _ _ VU E4
     ·rw[ao nl];exact s2 _ _ JR
     ·exact Rh.but (SameBut.upd (fun b u n e=>s2 b u e)) uR
     ·rw[ao nd];exact hD
   ·rw[if_pos rfl,Je h6]at q;exact fun H2 s2=>q H2 (sb.same s2)
theorem iE:aL ["self","x","y","price"] ["self","x","y"] (au dW):=⟨rfl,rfl,rfl,by decide+kernel,rfl,by decide+kernel,by decide+kernel⟩
include T Tc in
theorem mL{f:Addr}{fd:FuncData}(F:iy K "pair_worth" "Terms.pair_worth" dW f fd):a7 P w K mg base (cX P w) true 1 f fd ["self","x","y"] (xh aU):=by
 refine F.gL iE ZH (fun bU A outer s H vs Q E hr h hX=>?_)
 ·obtain⟨t,x,y,n,fs,dx,l,d,xs,rfl,_⟩:=h;rfl
 ·obtain⟨t,x,y,n,fs,dx,l,d,xs,rfl,T1,q⟩:=h;have hu:=hr.units;have hu:(A.deeper (Ρ "Terms.pair_worth" (au dW) f bU)).units+1<cLine:=by lia
  refine⟨_,(Xm (ZX (ZQ jt Z' (pv 2) (aV _)) (X9 (ZJ (ZL K))) aP) (Xm (YL (3) iE.nd (@Eo _ _ _ _ _ _ _ hu (ZL K) (@eC _ _ _ _ _ (WW Z' (SV Z2))) ⟨rfl,rfl,rfl,rfl⟩)) (Xm (ZX (Ψ (@lG _ _ _ _ _ (pv 3))) (X9 (ZJ jR)) aP) (X9 (ZJ (Xb cz (ZL K) (pv 3))))))),?_⟩;refine⟨_,rfl,_,rfl,rfl,_,rfl,?_⟩;refine bb (fun h=>?_) (fun h=>?_)
  ·have h:x=y:=by simpa using h
   have q:=q H (.refl H);rw[show cI n.same fs x y=some n.same by simp[cI,h]]at q;exact⟨_,rfl,t,aU,dx,_,_,rfl,T1.ob,Tc.cl,Tc.same,ES n l d,q⟩
  have h:¬x=y:=by simpa using h
  refine⟨_,rfl,t,aU,dx,_,_,rfl,T1.ob,Tc.cl,Tc.ER,ET n l d,d,rfl, .inr ⟨_, .inl T1.di⟩,_,rfl,_,rfl,aA Vs,fun p hp=>?_⟩;have nd:d≠p:=aF T1.di hp;have q:=q _ (av.upd (o:= .tup [.str x, .str y]) hp);refine⟨_, .t (k:=[.inr x, .inr y]) (by rw[ao nd];exact T1.di) ae,?_⟩;rw[v5];have T2:kE (upd H p (.tup [.str x, .str y])) aU t n fs dx l d xs:=⟨av.upd hp _ _ T1.ob,av.upd hp _ _ T1.own,av.upd hp _ _ T1.li,T1.tr.same (Z6 hp),av.upd hp _ _ T1.di⟩
  cases e:c7 fs x y with
  |none=>
   rw[show cI n.same fs x y=none by simp[cI,h,e]]at q;refine⟨_,rfl,_,rfl,?_⟩;exact jS q
  |some v=>
   rw[show cI n.same fs x y=some (n.same-v) by simp[cI,h,e]]at q;refine⟨_,rfl,_,rfl,?_⟩;refine bb (fun hh=>absurd hh Vs) (fun _=>?_);exact⟨_,rfl,t,aU,dx,_,_,rfl,T2.ob,Tc.cl,Tc.same,ES n l d,_,rfl,_,_,rfl,rfl,q⟩
theorem zo:aL ["numbers"] ["numbers"] (au kM):=⟨rfl,rfl,rfl,by decide+kernel,rfl,by decide+kernel,by decide+kernel⟩
include T in
theorem zp{f:Addr}{fd:FuncData}(F:ju K "greatest" "greatest" kM f fd):a7 P w K mg base (cX P w) true 1 f fd ["numbers"] lO:=by
 refine F.gL zo ZH (fun bU A outer s H vs Q E hr h hX=>?_)
 ·obtain⟨a,os,rfl,_⟩:=h;rfl
 ·obtain⟨a,os,rfl,ha,hl,q⟩:=h;refine⟨_,(X9 (ZJ (@HN _ K _ _ _ _ _ _ _ (by exact rfl) (by exact rfl) T.Ju (@mq _ _ _ _ _ _ _ _ _ _ _ _ _ _ (by exact rfl) (show bh ["numbers"] (au kM) _ ["number"] [] []from⟨rfl,by decide+kernel,by decide+kernel,by decide+kernel,rfl,rfl,by decide+kernel,by decide+kernel,by decide+kernel⟩) (Γ K Y') (fun _ _ _ _ _=>(Z9 (0) (show(["number"]:List Str).Nodup by decide+kernel))) (fun _ _ _ _ _=>(@w_ _ _ _ (Ψ (@oz _ _ _ _ _ (pv 0))))) (fun _ _ _ _ _=>(pv 0)) (by intro _;rfl)) (Z5) (Z5)))),?_⟩;refine⟨_,rfl,a,rfl,⟨_, .of ha⟩,fun D hD=>?_⟩;refine f6 (xs:=os.map bD) (fun i ys bB H'=>(∃u,bB=[u])∧ys=((os.take i).filterMap id).map V.int∧H' D=some (.lst ys)∧av H H') ⟨⟨_,rfl⟩,rfl,ae,Z6 hD⟩ ?_ ?_ ?_
  ·rintro i ys bB H' _ ⟨_,_,_,s1⟩;exact .of (s1 _ _ ha)
  ·rintro i x ys bB H' hx ⟨⟨u,rfl⟩,rfl,r_,s1⟩;have hi:i<os.length:=by have:=(YG hx).1;simpa using this
   have ho:os[i]?=some os[i]:=by simp[hi]
   generalize os[i]=o at ho;have ex:x=bD o:=by
    rw[List.getElem?_map,ho]at hx;exact(ZO hx).symm
   subst ex;have ic:(((os.take i).filterMap id).map V.int).length<sizeLine:=bf (by
    have:=List.length_filterMap_le id (os.take i);rw[List.length_take]at this;rw[List.length_map]
    lia)
   have e1:os.take (i+1)=os.take i++[o]:=by rw[List.take_succ,ho];rfl
   refine⟨_,rfl,_,rfl,?_⟩;cases o with
   |none=>
    refine bb (fun hh=>Z1 hh (by simp[bD])) (fun _=>?_);exact⟨⟨_,rfl⟩,by rw[e1];simp,r_,s1⟩
   |some v=>
    refine bb (fun _=>?_) (fun hh=>Z1 (by simp[bD]) hh);exact⟨_,rfl,r_,ic,⟨_,rfl⟩,by rw[e1];simp[bD],ae,s1.eP hD⟩
  ·rintro ys bB H' ⟨_,rfl,r_,s1⟩;rw[List.length_map,List.take_length]at r_;refine⟨D,os.filterMap id,rfl, .of r_,?_⟩;rw[HR];exact q H' s1
theorem IC:aL ["number","price"] ["number","price"] (au A0):=⟨rfl,rfl,rfl,by decide+kernel,rfl,by decide+kernel,by decide+kernel⟩
include T in
theorem ID{f:Addr}{fd:FuncData}(F:ju K "less" "less" A0 f fd):a7 P w K mg base (cX P w) true 1 f fd ["number","price"] xl:=by
 refine F.gL IC ZH (fun bU A outer s H vs Q E hr h hX=>?_)
 ·obtain⟨o,p,rfl,_⟩:=h;rfl
 ·obtain⟨o,p,rfl,q⟩:=h;refine⟨_,(X9 (ZJ (@oA _ _ _ _ _ _ _ _ (Ψ (@lG _ _ _ _ _ (pv 0))) jR (Xb cz Y' (pv 1))))),?_⟩;refine⟨_,rfl,_,rfl,?_⟩;cases o with
  |none=>
   refine jS ?_;exact q
  |some v=>
   refine bb (fun hh=>Z1 hh (by simp[bD])) (fun _=>?_);exact⟨_,rfl,_,rfl,_,_,rfl,rfl,q⟩
theorem mM:aL ["worth","brought"] ["worth","brought"] (au fU):=⟨rfl,rfl,rfl,by decide+kernel,rfl,by decide+kernel,by decide+kernel⟩
include T in
theorem mO{f:Addr}{fd:FuncData}(F:ju K "begun_or_gone_on" "begun_or_gone_on" fU f fd):a7 P w K mg base (cX P w) true 1 f fd ["worth","brought"] Av:=by
 refine F.gL mM ZH (fun bU A outer s H vs Q E hr h hX=>?_)
 ·obtain⟨w,b,rfl,_⟩:=h;rfl
 ·obtain⟨w,b,rfl,q⟩:=h;refine⟨_,(Xm (ZX (Ψ (@lG _ _ _ _ _ (pv 0))) (X9 (ZJ jR)) aP) (Xm (ZX (@PW.pt _ _ _ (Κ (Ψ (@lG _ _ _ _ _ (pv 1))) (@pw_or1 _ _ _ _ (ZQ mV Z' af (aV _))))) (X9 (ZJ Y')) aP) (X9 (ZJ (Xb br Y' (pv 1)))))),?_⟩;refine⟨_,rfl,_,rfl,?_⟩;cases w with
  |none=>
   refine jS ?_;exact q
  |some w=>
   refine bb (fun hh=>Z1 hh (by simp[bD])) (fun _=>?_);refine⟨_,rfl,_,rfl,?_⟩;cases b with
   |none=>
    refine jS ?_;refine jS ?_;exact⟨_,rfl,q⟩
   |some b=>
    refine bb (fun hh=>Z1 hh (by simp[bD])) (fun _=>?_);refine⟨_,rfl,_,_,rfl,rfl,_,rfl,?_⟩;refine bb (fun hh=>?_) (fun hh=>?_)
    ·have hh:b<0:=by simpa using hh
     simp only[HQ,hh,if_true]at q;exact⟨_,rfl,q⟩
    ·have hh:¬b<0:=by simpa using hh
     simp only[HQ,hh,if_false]at q;exact⟨_,rfl,_,rfl,_,_,rfl,rfl,q⟩
variable(fh:bK P w K mg base true 1 "greatest" ["numbers"] lO)
variable(kU:bK P w K mg base true 1 "less" ["number","price"] xl)
variable(Rc:BL K aC)
theorem cw:aL ["self","ended","above","row","j","worth"] ["self","ended","above"] (au dM):=⟨rfl,rfl,rfl,by decide+kernel,rfl,by decide+kernel,by decide+kernel⟩
include T fh kU Rc in
theorem jZ{f:Addr}{fd:FuncData}(F:iy K "brought_behind" "Trails.brought_behind" dM f fd):a7 P w K mg base (cX P w) true 2 f fd ["self","ended","above"] (qD aC):=by
 refine F.gL cw ZH (fun bU A outer s H vs Q E hr h hX=>?_)
 ·obtain⟨x,e,a,dx,te,tb,o,p,m,f,g,rfl,_⟩:=h;rfl
 ·obtain⟨x,e,a,dx,te,tb,o,p,m,f1,g,rfl,hx,he,ha,hm,q⟩:=h;refine⟨_,(Xm (YL (3) cw.nd (ZW (SV jR))) (Xm (Za hX.own (@oP _ K _ _ _ _ _ _ _ (by exact rfl) T.jv (SV Z') (Z5) (Z5)) (ζ K (2) (by exact rfl) (Z_ (Z9 (4) cw.nd) (Z_ (Z9 (5) cw.nd) fq))) (X9 (ZY (Ω K PySem.F.slot_list_append PySem.F.type_list_append bT (pv 3) (SV (ZG fh aQ (SV (ZW (WW (pv 5) (WW (ZG kU aQ (WW (YF Z2 (Xb br (pv 4) af)) (SV (ZL K)))) (SV (ZG kU aQ (WW (YF (pv 3) (pv 4)) (SV (ZL K))))))))))))))) (X9 (ZJ (pv 3))))),?_⟩;refine⟨aA Vs,fun r GP=>?_⟩;refine⟨_,rfl,e,rfl,⟨_, .of (av.upd GP _ _ he)⟩,?_⟩;have hl:=dj m f1;refine yV (xs:=dh m f1) (fun i σ H'=>(∃u v,σ=[sR x,sR e,sR a,sR r,u,v])∧av H H'∧H' r=some (.lst (dh (i+1) (rX f1 g o p)))) ?_ ?_ ?_ ?_
  ·exact⟨⟨_,_,rfl⟩,Z6 GP,by rw[ae];simp[dh,rX,bD,List.range_succ]⟩
  ·rintro i σ H' _ ⟨_,s1,_⟩;exact .of (s1 _ _ he)
  ·rintro i v T' σ H' hv ⟨⟨u,u2,rfl⟩,s1,zR⟩ hT;have hi:i<m:=by have:=(YG hv).1;lia
   rw[dq hi]at hv;cases hv;have s2:av H (upd H' T' (.tup [.int i,bD (f1 i)])):=s1.trans (Z6 hT);have xK:=av.upd (o:= .tup [.int i,bD (f1 i)]) hT _ _ zR;refine⟨T',_,rfl, .of ae,rfl,_,_,rfl,_,_,rfl,rfl,?_⟩;generalize upd H' T' (.tup [.int i,bD (f1 i)])=H2 at s2 xK;have Yu:rV (dh (m+1) g) ((i:Int)+1)=some (bD (g (i+1))):=by
    have:((i:Int)+1)=((i+1:Nat):Int):=by lia
    rw[this];exact ar (dq Hy)
   have at2:rV (dh (i+1) (rX f1 g o p)) (i:Int)=some (bD (rX f1 g o p i)):=ar (dq Hy);refine⟨_,rfl, .inl ⟨rfl,_, .of xK⟩,_,rfl,_,rfl,_,rfl,_,_,rfl,rfl,a,_,_,_,rfl,rfl, .of (s2 _ _ ha),Yu,_,rfl,x,aC,dx,_,_,rfl,s2 _ _ hx,Rc.cl,Rc.out,JA o p te tb,g (i+1),o,rfl,_,rfl,_,rfl,r,_,_,_,rfl,rfl, .of xK,at2,_,rfl,x,aC,dx,_,_,rfl,s2 _ _ hx,Rc.cl,Rc.into,E7 o p te tb,rX f1 g o p i,p,rfl,aA Vs,fun L hL=>⟨L,[f1 i,bC (g (i+1)) o,bC (rX f1 g o p i) p],rfl,ae,XC,fun H3 s3=>?_⟩⟩;have s4:=(av.upd (o:= .lst [bD (f1 i),bD (bC (g (i+1)) o),bD (bC (rX f1 g o p i) p)]) hL).trans s3;exact⟨r,_,_,rfl,rfl,s4 _ _ xK,bf (by rw[dj];lia),⟨_,_,rfl⟩,(s2.trans s4).eP GP,by rw[ae,qC (i+1)];rfl⟩
  ·rintro σ H' ⟨⟨u,v,rfl⟩,s1,zR⟩;rw[hl]at zR;exact⟨_,rfl,q H' r s1 GP zR⟩
variable(d6:bK P w K mg base true 1 "begun_or_gone_on" ["worth","brought"] Av)
variable(cF:eE P w K mg base true 2 aC "brought_behind" ["self","ended","above"] (qD aC))
theorem cO:aL ["self","worths","terms","width","row","above","ended"] ["self","worths","terms"] (au eI):=⟨rfl,rfl,rfl,by decide+kernel,rfl,by decide+kernel,by decide+kernel⟩
include T Tc Rc d6 cF in
theorem nV{f:Addr}{fd:FuncData}(F:iy K "__init__" "Trails.__init__" eI f fd):a7 P w K mg base (cX P w) true 4 f fd ["self","worths","terms"] (qJ aC aU):=by
 refine F.gL cO ZH (fun bU A outer s H vs Q E hr h hX=>?_)
 ·obtain⟨x,dx,w,t,c,as,f,n,m,rfl,_⟩:=h;rfl
 ·obtain⟨x,dx,w,t,c,as,f1,n,m,rfl,hx,E4,hw,TA,TF,hn,hm,q⟩:=h;obtain⟨nu,dt,l,d,vs,T1,e1,e2,e3,e4⟩:=TF;have Ui:w≠x:=iZ hw hx (by intro z;cases z);have Ri:t≠x:=fun z=>by
   have h1:=T1.ob;rw[z,hx]at h1;have h2:=congrArg (fun o=>match o with|some (HO.ins _ _ fs)=>fs.length| _=>0) h1;simp[xc]at h2
  refine⟨_,(Z0 (Λ K Y' (Ξ K Z2)) (Z0 (Λ K Y' (Ξ K Z2)) (Z0 (YL (3) cO.nd (@oA _ _ _ _ _ _ _ _ (ZQ rE (Ε (aK K) T.cY (SV Z')) af (aV _)) (Ε (aK K) T.cY (SV (YF Z' af))) af)) (Z0 (Λ K Y' (ZW ai)) (Z0 (Λ K Y' (ZW (SV (Xb tD (ZW (SV jR)) (Xb br (pv 3) af))))) (X9 (Za hX.own (Γ K Z') (Z9 (4) cO.nd) (Z0 (ξ (5) cO.nd (Or.inr rfl) (YF (ZL K) (@rD _ _ _ _ _ _ lI af))) (Z0 (@kC _ _ _ _ _ _ _ _ _ _ _ _ _ _ _ (6) _ _ (by exact rfl) cO.nd Η (by exact rfl) (show bh ["self","worths","terms","width","row","above","ended"] (au eI) _ ["j","worth"] [5] ["above"]from⟨rfl,by decide+kernel,by decide+kernel,by decide+kernel,rfl,rfl,by decide+kernel,by decide+kernel,by decide+kernel⟩) (@oP _ K _ _ _ _ _ _ _ (by exact rfl) T.jv (SV (pv 4)) (Z5) (Z5)) (fun _ _ _ _ _=>(ζ K (2) (by exact rfl) (Z_ (Z9 (0) (show(["j","worth","above"]:List Str).Nodup by decide+kernel)) (Z_ (Z9 (1) (show(["j","worth","above"]:List Str).Nodup by decide+kernel)) fq)))) (fun _ _ _ _ _=>gX) (fun _ _ _ _ _=>(ZG d6 aQ (WW Z' (SV (YF Z2 (pv 0)))))) (Z5) (by intro _;rfl)) (Z0 (ZY (Ω K PySem.F.slot_list_append PySem.F.type_list_append bT (ZL K) (SV (pv 6)))) (X9 (ZY (Ω K PySem.F.slot_list_append PySem.F.type_list_append bT (ZL K) (SV (Ο Y' cF aQ (WW (pv 6) (SV (pv 5)))))))))))))))))),?_⟩;refine⟨fun σ H1=>σ=[sR x,sR w,sR t,none,none,none,none]∧H1=upd H x (.ins aC dx (bq "out" (.int c.out) [])),?_,?_⟩
  ·refine⟨_,rfl,t,aU,dt,_,_,rfl,T1.ob,Tc.cl,Tc.out,l_out nu l d,_,rfl,x,aC,dx,_,rfl,hx,Rc.cl,Rc.out,WV,rfl,?_⟩;rw[e2]
  rintro σ H1 ⟨rfl,rfl⟩;refine⟨fun σ H1=>σ=[sR x,sR w,sR t,none,none,none,none]∧H1=upd H x (.ins aC dx (bq "into" (.int c.into) (bq "out" (.int c.out) []))),?_,?_⟩
  ·refine⟨_,rfl,t,aU,dt,_,_,rfl,by rw[ao Ri];exact T1.ob,Tc.cl,Tc.into,Lf nu l d,_,rfl,x,aC,dx,_,rfl,ae,Rc.cl,Rc.into,?_,rfl,?_⟩
   ·have:=aW "out" (.int c.out) [];simp at this
    lia
   ·rw[gf,e3]
  rintro σ H1 ⟨rfl,rfl⟩;refine⟨fun σ H1=>∃wd:Int,σ=[sR x,sR w,sR t,sI wd,none,none,none]∧H1=upd H x (.ins aC dx (bq "into" (.int c.into) (bq "out" (.int c.out) [])))∧(0<n→wd=(m:Int))∧0≤wd∧wd≤1000,?_,?_⟩
  ·have sf:upd H x (.ins aC dx (bq "into" (.int c.into) (bq "out" (.int c.out) []))) w=some (.lst (as.map V.ref)):=by rw[ao Ui];exact hw
   have B_:=TA.len;refine⟨_,rfl,w,_,rfl, .inl (.of sf),_,_,rfl,rfl,_,rfl,?_⟩;refine bb (fun hh=>?_) (fun hh=>?_)
   ·have hh:0<n:=by
     have:(0:Int)<((as.map V.ref).length:Int):=by simpa using hh
     rw[List.length_map]at this
     lia
    obtain⟨a,AE,M5,VV⟩:=TA.at hh;have Py:a≠x:=iZ VV hx (by intro z;cases z);have Yv:upd H x (.ins aC dx (bq "into" (.int c.into) (bq "out" (.int c.out) []))) a=some (.lst (dh m (f1 0))):=by rw[ao Py];exact VV
    refine⟨_,rfl,w,_,0,_,rfl,rfl, .of sf,ar (j:=0) M5,a,_,rfl, .inl (.of Yv),_,rfl,rfl,fun _=>by rw[dj],by rw[dj];lia,by rw[dj];lia⟩
   ·have hh:n=0:=by
     have:¬(0:Int)<((as.map V.ref).length:Int):=by simpa using hh
     rw[List.length_map]at this
     lia
    exact⟨_,rfl,rfl,fun z=>by lia,by lia,by lia⟩
  rintro σ H1 ⟨wd,rfl,rfl,Yw,aaX,aah⟩;refine⟨fun σ H1=>∃e,σ=[sR x,sR w,sR t,sI wd,none,none,none]∧H1 x=some (.ins aC dx (bq "ending" (.ref e) (bq "into" (.int c.into) (bq "out" (.int c.out) []))))∧SameBut x H H1∧H e=none∧H1 e=some (.lst []),?_,?_⟩
  ·refine⟨aA Vs,fun e he=>?_⟩;have yz:SameBut x H (upd H x (.ins aC dx (bq "into" (.int c.into) (bq "out" (.int c.out) [])))):=SameBut.refl.upd;have VW:x≠e:=aF ae he;have JT:=yz.free ae he;refine⟨_,rfl,x,aC,dx,_,rfl,by rw[ao VW,ae],Rc.cl,Rc.kJ,?_,e,rfl,ae,(yz.laid JT).upd,JT,by rw[ao (Ne.symm VW),ae]⟩;have a1:=aW "into" (.int c.into) (bq "out" (.int c.out) []);have a2:=aW "out" (.int c.out) [];simp at a2
   lia
  rintro σ H1 ⟨e,rfl,lu,yz,JT,A5⟩;refine⟨fun σ H2=>∃b ab,σ=[sR x,sR w,sR t,sI wd,none,none,none]∧H2 x=some (.ins aC dx (gM c.out c.into e b))∧SameBut x H H2∧H2 e=some (.lst [])∧H b=none∧e≠b∧H2 b=some (.lst [.ref ab])∧(0<n→H2 ab=some (.lst (dh (m+1) (Bq f1 c.out c.into 0))))∧ab≠e∧ab≠b∧H ab=none,?_,?_⟩
  ·refine⟨aA Vs,fun l1 lg=>⟨_,rfl,_,_,rfl,rfl,l1,_,_,rfl,rfl,ae,by lia,by lia,aA (by simp;lia),fun ab FO=>⟨aA Vs,fun b hb=>?_⟩⟩⟩;have s1:av H1 (upd (upd (upd H1 l1 (.lst [.cL])) ab (.lst (List.replicate (wd+1).toNat [V.cL]).flatten)) b (.lst [.ref ab])):=((Z6 lg).trans (Z6 FO)).trans (Z6 hb);have jY:H1 b=none:=((Z6 lg).trans (Z6 FO)).free hb;have yA:=s1 _ _ lu;have Yx:x≠b:=aF lu jY;have JU:ab≠b:=aF ae hb;refine⟨_,rfl,x,aC,dx,_,rfl,yA,Rc.cl,Rc.jy,?_,b,ab,rfl,by rw[ae,OS],(yz.same s1).upd,?_,yz.free lu jY,aF A5 jY,?_,fun h0=>?_,?_,JU,yz.free lu ((Z6 lg).free FO)⟩
   ·have a0:=aW "ending" (.ref e) (bq "into" (.int c.into) (bq "out" (.int c.out) []));have a1:=aW "into" (.int c.into) (bq "out" (.int c.out) []);have a2:=aW "out" (.int c.out) [];simp at a2
    lia
   ·have:e≠x:=iZ A5 lu (by intro z;cases z);rw[ao this];exact s1 _ _ A5
   ·rw[ao (Ne.symm Yx),ae]
   ·have VX:ab≠x:=fun z=>by rw[z]at FO;rw[(Z6 lg) _ _ lu]at FO;cases FO
    rw[ao VX,ao JU,ae,Yw h0]
    congr 1
    have:((m:Int)+1).toNat=m+1:=by lia
    rw[this]
    congr 1
    apply List.ext_getElem?;intro k;by_cases hk:k<m+1
    ·rw[dq hk,iI];simp[bD,hk]
    ·rw[List.getElem?_eq_none (by simp;lia),List.getElem?_eq_none (by rw[dj];lia)]
   ·exact Ne.symm (aF ((Z6 lg) _ _ A5) FO)
  clear lu yz A5 H1;rintro σ H1 ⟨b,ab,rfl,lu,yz,A5,VY,VZ,jY,IE,Pz,JU,D0⟩;refine⟨_,rfl,w,rfl,⟨_, .of (yz _ _ Ui hw)⟩,?_⟩;refine bM (xs:=as.map V.ref) (fun i σ H'=>(∃u1 u2 u3,σ=[sR x,sR w,sR t,sI wd,u1,u2,u3])∧H' x=some (.ins aC dx (gM c.out c.into e b))∧SameBut x H H'∧∃(es:List Addr)(bs:List V)(ab:Addr),H' e=some (.lst (es.map V.ref))∧i_ H' es (dF f1 c.out c.into) i m∧(∀a∈es,H a=none∧a≠e∧a≠b∧a≠x)∧H' b=some (.lst (bs++[.ref ab]))∧bs.length=i∧(0<n→H' ab=some (.lst (dh (m+1) (Bq f1 c.out c.into i))))∧ab≠e∧ab≠b∧H ab=none∧∃bz:List Addr,bs=bz.map V.ref∧∀k a,bz[k]?=some a→H' a=some (.lst (dh (m+1) (Bq f1 c.out c.into k)))∧a≠e∧a≠b∧H a=none) ?_ ?_ ?_ ?_
  ·exact⟨⟨_,_,_,rfl⟩,lu,yz,[],[],ab,A5,⟨rfl,fun i a h=>by simp at h⟩,(fun a h=>by cases h),jY,rfl,IE,Pz,JU,D0,[],rfl,fun k a h=>by simp at h⟩
  ·rintro i σ H' _ ⟨_,_,sb,_⟩;exact .of (sb _ _ Ui hw)
  ·clear lu yz A5 jY IE Pz JU D0 ab H1;rintro i v σ H' hv ⟨⟨u1,u2,u3,rfl⟩,lu,yz,es,bs,ab,A5,TE,PB,jY,IF,IE,Pz,JU,D0,bz,PD,BZ⟩;have B_:=TA.len;have hi:i<n:=by have:=(YG hv).1;rw[List.length_map]at this;lia
   obtain⟨ra,GP,zR,xK⟩:=TA.at hi;rw[zR]at hv;cases hv;have Yy:ra≠x:=iZ xK hx (by intro z;cases z);have Rj:=yz _ _ Yy xK;have DA:=IE Hy;refine⟨fun σ H2=>σ=[sR x,sR w,sR t,sI wd,sR ra,sR ab,u3]∧H2=H',?_,?_⟩
   ·exact⟨_,rfl,x,aC,dx,_,_,rfl,lu,Rc.cl,Rc.jy,gQ c.out c.into e b,_,rfl,b,_,_,_,rfl,rfl, .of jY,yP _ _,rfl,rfl⟩
   rintro σ H' ⟨rfl,rfl⟩;refine⟨fun σ H2=>∃D,σ=[sR x,sR w,sR t,sI wd,sR ra,sR ab,sR D]∧av H' H2∧H' D=none∧H2 D=some (.lst (dh m (dF f1 c.out c.into i))),?_,?_⟩
   ·refine⟨_,rfl,ra,rfl,⟨_, .of Rj⟩,fun D hD=>?_⟩;refine v8 (xs:=dh m (f1 i)) (fun j ys bB H2=>(∃w1 w2,bB=[w1,w2,sR ab])∧ys=dh j (dF f1 c.out c.into i)∧H2 D=some (.lst ys)∧av H' H2) ⟨⟨_,_,rfl⟩,rfl,ae,Z6 hD⟩ ?_ ?_ ?_
    ·rintro j ys bB H2 _ ⟨_,_,_,s2⟩;exact .of (s2 _ _ Rj)
    ·rintro j y T2 ys bB H2 hy ⟨⟨w1,w2,rfl⟩,rfl,ku,s2⟩ PF;have hj:j<m:=by have:=(YG hy).1;rw[dj]at this;exact this
     rw[dq hj]at hy;cases hy;have s3:av H' (upd H2 T2 (.tup [.int j,bD (f1 i j)])):=s2.trans (Z6 PF);have Dz:=av.upd (o:= .tup [.int j,bD (f1 i j)]) PF _ _ ku;refine⟨T2,_,rfl, .of ae,rfl,_,_,rfl,_,_,rfl,rfl,?_⟩;refine sG ?_;refine⟨_,rfl,_,rfl,_,rfl,ab,_,_,_,rfl,rfl, .of (s3 _ _ DA),ar (dq Hy),f1 i j,Bq f1 c.out c.into i j,rfl,Dz,bf (by rw[dj];lia),⟨_,_,rfl⟩,by rw[qC];rfl,ae,s3.eP hD⟩
    ·rintro ys bB H2 ⟨_,rfl,ku,s2⟩;rw[dj]at ku;exact⟨D,rfl,s2,hD,ku⟩
   rintro σ H2 ⟨D,rfl,s2,Na,ku⟩;have yA:=s2 _ _ lu;have Nb:=s2 _ _ A5;have xD:=s2 _ _ jY;have Uj:=s2 _ _ DA;have Yz:D≠x:=Ne.symm (aF lu Na);have V1:D≠e:=Ne.symm (aF A5 Na);have V4:D≠b:=Ne.symm (aF jY Na);have YA:e≠x:=iZ A5 lu (by intro z;cases z);have YB:b≠x:=iZ jY lu (by intro z;cases z);have VX:ab≠x:=iZ DA lu (by intro z;cases z);have IG:=TE.len;have YC:H D=none:=yz.free lu Na;have Uk:=yz.same s2;refine⟨fun σ H3=>σ=[sR x,sR w,sR t,sI wd,sR ra,sR ab,sR D]∧H3=upd H2 e (.lst (es.map V.ref++[.ref D])),?_,?_⟩
   ·exact⟨_,rfl,x,aC,dx,_,_,rfl,yA,Rc.cl,Rc.kJ,ij c.out c.into e b, .inl ⟨rfl,_, .of Nb⟩,_,rfl,e,_,_,rfl,rfl,Nb,bf (by rw[List.length_map];lia),rfl,rfl⟩
   rintro σ H3 ⟨rfl,rfl⟩;have Nc:upd H2 e (.lst (es.map V.ref++[.ref D])) x=some (.ins aC dx (gM c.out c.into e b)):=by rw[ao (Ne.symm YA)];exact yA
   have Rk:upd H2 e (.lst (es.map V.ref++[.ref D])) b=some (.lst (bs++[.ref ab])):=by rw[ao (Ne.symm VZ)];exact xD
   have Mh:upd H2 e (.lst (es.map V.ref++[.ref D])) ab=some (.lst (dh (m+1) (Bq f1 c.out c.into i))):=by rw[ao Pz];exact Uj
   have Dz:upd H2 e (.lst (es.map V.ref++[.ref D])) D=some (.lst (dh m (dF f1 c.out c.into i))):=by rw[ao V1];exact ku
   have GQ:upd H2 e (.lst (es.map V.ref++[.ref D])) e=some (.lst (es.map V.ref++[.ref D])):=ae;have Ul:SameBut x H (upd H2 e (.lst (es.map V.ref++[.ref D]))):=Uk.laid JT;have V5:∀k a,es[k]?=some a→upd H2 e (.lst (es.map V.ref++[.ref D])) a=some (.lst (dh m (dF f1 c.out c.into k))):=fun k a hk=>by
    rw[ao (PB a (ZI hk)).2.1];exact s2 _ _ (TE.row k a hk)
   have V6:∀k a,bz[k]?=some a→upd H2 e (.lst (es.map V.ref++[.ref D])) a=some (.lst (dh (m+1) (Bq f1 c.out c.into k))):=fun k a hk=>by
    rw[ao (BZ k a hk).2.1];exact s2 _ _ (BZ k a hk).1
   generalize upd H2 e (.lst (es.map V.ref++[.ref D]))=H3 at Nc Rk Mh Dz GQ Ul V5 V6;refine⟨_,rfl,x,aC,dx,_,_,rfl,Nc,Rc.cl,Rc.jy,gQ c.out c.into e b, .inl ⟨rfl,_, .of Rk⟩,_,rfl,x,dx,_,rfl,Nc,E8 c.out c.into e b,_,rfl,_,rfl,x,D,ab,dx,e,b,c.out,c.into,m,_,_,rfl,Nc,Dz,Mh,hm,fun H4 r s4 rM YD=>?_⟩;have V7:r≠b:=Ne.symm (aF Rk rM);have YE:r≠e:=Ne.symm (aF GQ rM);refine⟨b,_,_,rfl,rfl,s4 _ _ Rk,bf (by rw[List.length_append];simp;lia),⟨_,_,_,rfl⟩,by rw[ao (Ne.symm YB)];exact s4 _ _ Nc,(Ul.same s4).laid VY,es++[D],bs++[.ref ab],r,by rw[ao VZ];rw[s4 _ _ GQ];simp,⟨by simp[IG],fun k a hk=>?_⟩,fun a ha=>?_,ae,by simp[IF],fun _=>?_,YE,V7,Ul.free Nc rM,bz++[ab],by simp[PD],fun k a hk=>?_⟩
   ·by_cases h:k<i
    ·rw[ZZ Hy]at hk;rw[ao (PB a (ZI hk)).2.2.1];exact s4 _ _ (V5 k a hk)
    ·rw[Α Hy]at hk;have xt:k-es.length=0:=by
      have:=(YG hk).1;simp at this
      lia
     rw[xt]at hk;have:D=a:=by simpa using hk
     subst this;rw[ao V4];have:k=i:=by lia
     rw[this];exact s4 _ _ Dz
   ·rcases List.mem_append.mp ha with ha|ha
    ·exact PB a ha
    ·have:a=D:=by simpa using ha
     rw[this];exact⟨YC,V1,V4,Yz⟩
   ·rw[ao V7,YD]
    congr 2
    unfold dh;apply List.map_congr_left;intro j _;rw[BM]
   ·have PH:bz.length=i:=by rw[PD,List.length_map]at IF;exact IF
    by_cases h:k<i
    ·rw[ZZ Hy]at hk;obtain⟨_,z1,z2,z3⟩:=BZ k a hk;exact⟨by rw[ao z2];exact s4 _ _ (V6 k a hk),z1,z2,z3⟩
    ·rw[Α Hy]at hk;have xt:k-bz.length=0:=by
      have:=(YG hk).1;simp at this
      lia
     rw[xt]at hk;have:ab=a:=by simpa using hk
     subst this;have:k=i:=by lia
     subst this;exact⟨by rw[ao JU];exact s4 _ _ Mh,Pz,JU,D0⟩
  ·rintro σ H' ⟨⟨u1,u2,u3,rfl⟩,yA,Uk,es,bs,Um,Nb,TE,PB,xD,IF,DA,aag,aar,M5,bz,PD,BZ⟩;rw[List.length_map,TA.len]at TE IF DA;have PH:bz.length=n:=by rw[PD,List.length_map]at IF;exact IF
   refine q H' e b Uk yA ⟨es,Nb,JT,TE,fun a ha=>(PB a ha).1⟩ fun Uo=>⟨bz++[Um],by rw[xD,PD];simp,VY,⟨by simp[PH],fun k a hk=>?_⟩,fun a ha=>?_⟩
   ·by_cases h:k<n
    ·rw[ZZ Hy]at hk;exact(BZ k a hk).1
    ·rw[Α Hy]at hk;have xt:k-bz.length=0:=by
      have:=(YG hk).1;simp at this
      lia
     rw[xt]at hk;have:Um=a:=by simpa using hk
     subst this;have:k=n:=by lia
     subst this;exact DA Uo
   ·rcases List.mem_append.mp ha with ha|ha
    ·obtain⟨k,hk,rfl⟩:=List.mem_iff_getElem.mp ha;exact(BZ k _ (by simp[hk])).2.2.2
    ·have:a=Um:=by simpa using ha
     rw[this];exact M5
theorem jD:aL ["self","pair","brought"] ["self","pair"] (au gS):=⟨rfl,rfl,rfl,by decide+kernel,rfl,by decide+kernel,by decide+kernel⟩
include T Rc in
theorem o_{f:Addr}{fd:FuncData}(F:iy K "goes_on" "Trails.goes_on" gS f fd):a7 P w K mg base (cX P w) true 1 f fd ["self","pair"] (xv aC):=by
 refine F.gL jD ZH (fun bU A outer s H vs Q E hr h hX=>?_)
 ·obtain⟨x,dx,e,b,es,bs,f,o,p,n,m,pr,i,j,rfl,_⟩:=h;rfl
 ·obtain⟨x,dx,e,b,es,bs,f1,o,p,n,m,pr,i,j,rfl,TR,Cg,hi,hj,q⟩:=h;refine⟨_,(Xm (YL (2) jD.nd (YF (YF (ZL K) (Ζ (bV K) (pv 1) af)) (Ζ (bV K) (pv 1) af))) (X9 (ZJ (@wJ _ _ _ _ _ _ _ (@zW _ _ _ _ _ _ (@oz _ _ _ _ _ (pv 2)) (by first|exact bj _ (WV) (WV)|rfl)) (@wI _ _ _ _ _ (@iF _ _ _ _ _ _ _ _ Br Z2 af (aV _))))))),?_⟩;obtain⟨ra,h1,h2,h3⟩:=TR.tb.at (show i<n+1 by lia);refine⟨_,rfl,x,aC,dx,_,_,rfl,TR.ob,Rc.cl,Rc.jy,gQ o p e b,_,rfl,pr,_,_,_,rfl,rfl, .of Cg,Xo (j:=0),b,_,_,_,rfl,rfl, .of TR.hb,ar h2,_,rfl,pr,_,_,_,rfl,rfl, .of Cg,Xo (j:=1),ra,_,_,_,rfl,rfl, .of h3,ar (dq (show j<m+1 by lia)),?_⟩;refine⟨_,rfl,?_⟩;cases eB:Bq f1 o p i j with
  |none=>
   rw[eB]at q;exact⟨_,rfl,bb (fun hh=>Z1 hh (by simp[bD])) fun _=>q⟩
  |some v=>
   rw[eB]at q;exact⟨_,rfl,bb (fun _=>⟨_,rfl,_,_,rfl,rfl,q⟩) fun hh=>Z1 (by simp[bD]) hh⟩
theorem kf:aL ["self","crossing","pair"] ["self","crossing","pair"] (au dX):=⟨rfl,rfl,rfl,by decide+kernel,rfl,by decide+kernel,by decide+kernel⟩
include T Rc in
theorem kg{f:Addr}{fd:FuncData}(F:iy K "is_brought_by" "Trails.is_brought_by" dX f fd):a7 P w K mg base (cX P w) true 1 f fd ["self","crossing","pair"] (AL aC):=by
 refine F.gL kf ZH (fun bU A outer s H vs Q E hr h hX=>?_)
 ·obtain⟨x,dx,e,b,es,bs,f,o,p,n,m,cr,pr,i,j,k,l,rfl,_⟩:=h;rfl
 ·obtain⟨x,dx,e,b,es,bs,f1,o,p,n,m,cr,pr,i,j,k,l,rfl,TR,JV,Cg,hi,hj,hk,hl,q⟩:=h;refine⟨_,(X9 (ZJ (@iF _ _ _ _ _ _ _ _ jt (YF (YF (ZL K) (Ζ (bV K) (pv 2) af)) (Ζ (bV K) (pv 2) af)) (YF (YF (ZL K) (Ζ (bV K) (pv 1) af)) (Ζ (bV K) (pv 1) af)) (aV _)))),?_⟩;obtain⟨ra,h1,h2,h3⟩:=TR.tb.at (show i<n+1 by lia);obtain⟨rb,g1,g2,g3⟩:=TR.te.at hk;refine⟨_,rfl,x,aC,dx,_,_,rfl,TR.ob,Rc.cl,Rc.kJ,ij o p e b,_,rfl,pr,_,_,_,rfl,rfl, .of Cg,Xo (j:=0),e,_,_,_,rfl,rfl, .of TR.he,ar g2,_,rfl,pr,_,_,_,rfl,rfl, .of Cg,Xo (j:=1),rb,_,_,_,rfl,rfl, .of g3,ar (dq hl),?_⟩;refine⟨_,rfl,x,aC,dx,_,_,rfl,TR.ob,Rc.cl,Rc.jy,gQ o p e b,_,rfl,cr,_,_,_,rfl,rfl, .of JV,Xo (j:=0),b,_,_,_,rfl,rfl, .of TR.hb,ar h2,_,rfl,cr,_,_,_,rfl,rfl, .of JV,Xo (j:=1),ra,_,_,_,rfl,rfl, .of h3,ar (dq (show j<m+1 by lia)),?_⟩;have JW:∀a c:Option Int,decide (bD a=bD c)=decide (a=c):=fun a c=>by cases a<;>cases c<;>simp[bD]
  refine⟨by cases dF f1 o p k l<;>cases Bq f1 o p i j<;>rfl,?_⟩;rw[JW];exact q
theorem bp:aL ["self","crossing","i","j","brought","found"] ["self","crossing"] (au cS):=⟨rfl,rfl,rfl,by decide+kernel,rfl,by decide+kernel,by decide+kernel⟩
include T kU Rc in
theorem jf{f:Addr}{fd:FuncData}(F:iy K "crossings_before" "Trails.crossings_before" cS f fd):a7 P w K mg base (cX P w) true 2 f fd ["self","crossing"] (tS aC):=by
 refine F.gL bp ZH (fun bU A outer s H vs Q E hr h hX=>?_)
 ·obtain⟨x,dx,e,b,es,bs,f,o,p,n,m,cr,i,j,rfl,_⟩:=h;rfl
 ·obtain⟨x,dx,e,b,es,bs,f1,o,p,n,m,cr,i,j,rfl,TR,JV,hi,hj,q⟩:=h;refine⟨_,(Z0 (YL (2) bp.nd (Ζ (bV K) (pv 1) af)) (Z0 (YL (3) bp.nd (Ζ (bV K) (pv 1) af)) (Z0 (YL (4) bp.nd (YF (YF (ZL K) (pv 2)) (pv 3))) (Z0 (YL (5) bp.nd (ZW ai)) (Z0 (ZX (ZQ jt (ZG kU aQ (WW (YF (YF (ZL K) (Xb cz Z2 af)) (pv 3)) (SV (ZL K)))) (pv 4) (aV _)) (X9 (ZY (Ω K PySem.F.slot_list_append PySem.F.type_list_append bT (pv 5) (SV (@eC _ _ _ _ _ (ι (Xb cz Z2 af))))))) aP) (Z0 (ZX (ZQ jt (ZG kU aQ (WW (YF (YF (ZL K) (pv 2)) (Xb cz (pv 3) af)) (SV (ZL K)))) (pv 4) (aV _)) (X9 (ZY (Ω K PySem.F.slot_list_append PySem.F.type_list_append bT (pv 5) (SV (@eC _ _ _ _ _ (WW Z2 (SV (Xb cz (pv 3) af)))))))) aP) (X9 (ZJ (pv 5))))))))),?_⟩;have JW:∀a c:Option Int,decide (bD a=bD c)=decide (a=c):=fun a c=>by cases a<;>cases c<;>simp[bD]
  obtain⟨ra,h1,h2,h3⟩:=TR.tb.at (show i<n+1 by lia);obtain⟨rb,g1,g2,g3⟩:=TR.tb.at (show i+1<n+1 by lia);refine⟨fun σ H1=>σ=[sR x,sR cr,sI (((i+1:Nat):Int)),none,none,none]∧H1=H,⟨_,rfl,cr,_,_,_,rfl,rfl, .of JV,Xo (j:=0),rfl,rfl⟩,?_⟩;rintro σ H ⟨rfl,rfl⟩;refine⟨fun σ H1=>σ=[sR x,sR cr,sI (((i+1:Nat):Int)),sI (((j+1:Nat):Int)),none,none]∧H1=H,⟨_,rfl,cr,_,_,_,rfl,rfl, .of JV,Xo (j:=1),rfl,rfl⟩,?_⟩;rintro σ H ⟨rfl,rfl⟩;refine⟨fun σ H1=>σ=[sR x,sR cr,sI (((i+1:Nat):Int)),sI (((j+1:Nat):Int)),some (bD (Bq f1 o p (i+1) (j+1))),none]∧H1=H,⟨_,rfl,x,aC,dx,_,_,rfl,TR.ob,Rc.cl,Rc.jy,gQ o p e b,_,rfl,b,_,_,_,rfl,rfl, .of TR.hb,ar g2,_,rfl,rb,_,_,_,rfl,rfl, .of g3,ar (dq (show j+1<m+1 by lia)),rfl,rfl⟩,?_⟩;rintro σ H ⟨rfl,rfl⟩;refine⟨fun σ H1=>∃r,σ=[sR x,sR cr,sI (((i+1:Nat):Int)),sI (((j+1:Nat):Int)),some (bD (Bq f1 o p (i+1) (j+1))),sR r]∧av H H1∧H r=none∧H1 r=some (.lst []),⟨aA Vs,fun r hr=>⟨r,rfl,Z6 hr,hr,ae⟩⟩,?_⟩;rintro σ H1 ⟨r,rfl,s1,rM,GP⟩;refine⟨fun σ H2=>∃us,σ=[sR x,sR cr,sI (((i+1:Nat):Int)),sI (((j+1:Nat):Int)),some (bD (Bq f1 o p (i+1) (j+1))),sR r]∧av H H2∧H2 r=some (.lst us)∧fT H2 us (if bC (Bq f1 o p i (j+1)) o=Bq f1 o p (i+1) (j+1)then[((i:Int),((j+1:Nat):Int))]else[]),?_,?_⟩
  ·have T1:=TR.keep s1;have ea:rV (bs.map V.ref) (((i+1:Nat):Int)-1)=some (.ref ra):=by
    rw[show((i+1:Nat):Int)-1=(i:Int) by lia];exact ar h2
   refine⟨_,rfl,x,aC,dx,_,_,rfl,T1.ob,Rc.cl,Rc.jy,gQ o p e b,_,rfl,_,_,rfl,rfl,b,_,_,_,rfl,rfl, .of T1.hb,ea,_,rfl,ra,_,_,_,rfl,rfl, .of (s1 _ _ h3),ar (dq (show j+1<m+1 by lia)),?_⟩;refine⟨_,rfl,x,aC,dx,_,_,rfl,T1.ob,Rc.cl,Rc.out,JA o p e b,Bq f1 o p i (j+1),o,rfl,?_⟩;refine⟨_,rfl,by cases bC (Bq f1 o p i (j+1)) o<;>cases Bq f1 o p (i+1) (j+1)<;>rfl,_,rfl,?_⟩;rw[JW];refine bb (fun hh=>?_) (fun hh=>?_)
   ·have hh:bC (Bq f1 o p i (j+1)) o=Bq f1 o p (i+1) (j+1):=of_decide_eq_true hh;rw[MJ hh];refine⟨_,rfl, .inl ⟨rfl,_, .of GP⟩,_,rfl,_,_,rfl,rfl,_,rfl,aA Vs,fun t ht=>?_⟩;refine⟨r,_,_,rfl,rfl,av.upd ht _ _ GP,bf Vs,_,rfl,(s1.trans (Z6 ht)).eP rM,ae,rfl,fun k f hf=>?_⟩;have hk:k=0:=by
     have:=(YG hf).1;simp at this
     lia
    subst hk;have hf:((i:Int),((j+1:Nat):Int))=f:=by simpa using hf
    subst hf;refine⟨t,rfl,?_⟩;rw[ao (fun z=>by subst z;rw[GP]at ht;cases ht),ae];rw[show((i+1:Nat):Int)-1=(i:Int) by lia];rfl
   ·have hh:¬bC (Bq f1 o p i (j+1)) o=Bq f1 o p (i+1) (j+1):=by simpa using hh
    rw[Je hh];exact⟨[],rfl,s1,GP, .nil⟩
  rintro σ H2 ⟨us,rfl,s2,zR,P2⟩;have T2:=TR.keep s2;have aaf:us.length≤1:=by
   rw[P2.1];split<;>simp
  have eb:rV (dh (m+1) (Bq f1 o p (i+1))) (((j+1:Nat):Int)-1)=some (bD (Bq f1 o p (i+1) j)):=by
   rw[show((j+1:Nat):Int)-1=(j:Int) by lia];exact ar (dq (show j<m+1 by lia))
  refine⟨fun σ H3=>∃us,σ=[sR x,sR cr,sI (((i+1:Nat):Int)),sI (((j+1:Nat):Int)),some (bD (Bq f1 o p (i+1) (j+1))),sR r]∧av H H3∧H3 r=some (.lst us)∧fT H3 us (bu f1 o p i j),?_,?_⟩
  ·refine⟨_,rfl,x,aC,dx,_,_,rfl,T2.ob,Rc.cl,Rc.jy,gQ o p e b,_,rfl,b,_,_,_,rfl,rfl, .of T2.hb,ar g2,_,rfl,_,_,rfl,rfl,rb,_,_,_,rfl,rfl, .of (s2 _ _ g3),eb,?_⟩;refine⟨_,rfl,x,aC,dx,_,_,rfl,T2.ob,Rc.cl,Rc.into,E7 o p e b,Bq f1 o p (i+1) j,p,rfl,?_⟩;refine⟨_,rfl,by cases bC (Bq f1 o p (i+1) j) p<;>cases Bq f1 o p (i+1) (j+1)<;>rfl,_,rfl,?_⟩;rw[JW];refine bb (fun hh=>?_) (fun hh=>?_)
   ·have hh:bC (Bq f1 o p (i+1) j) p=Bq f1 o p (i+1) (j+1):=of_decide_eq_true hh;refine⟨_,rfl, .inl ⟨rfl,_, .of zR⟩,_,rfl,_,rfl,_,_,rfl,rfl,aA Vs,fun t ht=>?_⟩;have s3:=av.upd (o:= .tup [.int ((i+1:Nat):Int), .int (((j+1:Nat):Int)-1)]) ht;have V8:t≠r:=fun z=>by subst z;rw[zR]at ht;cases ht
    refine⟨r,_,_,rfl,rfl,s3 _ _ zR,bf Hy,_,rfl,(s2.trans s3).eP rM,ae,?_⟩;unfold bu;rw[MJ hh];refine((P2.same s3).append ⟨rfl,fun k f hf=>?_⟩).cD fun a ys ha=>?_
    ·have hk:k=0:=by
      have:=(YG hf).1;simp at this
      lia
     subst hk;have hf:(((i+1:Nat):Int),(j:Int))=f:=by simpa using hf
     subst hf;refine⟨t,rfl,?_⟩;rw[ae,show((j+1:Nat):Int)-1=(j:Int) by lia];rfl
    ·have eQ:a≠r:=fun z=>by subst z;rw[s3 _ _ zR]at ha;cases ha
     rw[ao eQ];exact ha
   ·have hh:¬bC (Bq f1 o p (i+1) j) p=Bq f1 o p (i+1) (j+1):=by simpa using hh
    refine⟨us,rfl,s2,zR,?_⟩;unfold bu;rw[Je hh,List.append_nil];exact P2
  rintro σ H3 ⟨us,rfl,s3,xK,P3⟩;exact⟨_,rfl,q H3 r us s3 rM xK P3⟩
variable(bg:eE P w K mg base true 1 aC "is_brought_by" ["self","crossing","pair"] (AL aC))
variable(aZ:eE P w K mg base true 2 aC "crossings_before" ["self","crossing"] (tS aC))
theorem bW:aL ["self","pair","crossing","ahead"] ["self","pair"] (au e6):=⟨rfl,rfl,rfl,by decide+kernel,rfl,by decide+kernel,by decide+kernel⟩
include T Rc bg aZ in
theorem lB{f:Addr}{fd:FuncData}(F:iy K "pair_before" "Trails.pair_before" e6 f fd):a7 P w K mg base (cX P w) true 3 f fd ["self","pair"] (xw aC):=by
 refine F.gL bW ZH (fun bU A outer s H vs Q E hr h hX=>?_)
 ·obtain⟨x,dx,e,b,es,bs,f,o,p,n,m,pr,i,j,rfl,_⟩:=h;rfl
 ·obtain⟨x,dx,e,b,es,bs,f1,o,p,n,m,pr,i,j,rfl,TR,Cg,hi,hj,hB,q⟩:=h;refine⟨_,(Xm (YL (2) bW.nd Z') (Xm (YL (3) bW.nd (@eC _ _ _ _ _ (WW (Xb cz (Ζ (bV K) (pv 2) af) af) (SV (Xb cz (Ζ (bV K) (pv 2) af) af))))) (Xm (@sX _ _ _ _ _ _ hX.own (@cN _ _ _ _ (Β (Ο Y' bg aQ (ι Z2)))) (Xm (YL (2) bW.nd (YF (Ο Y' aZ aQ (SV Z2)) af)) (X9 (YL (3) bW.nd (@eC _ _ _ _ _ (WW (Xb cz (Ζ (bV K) (pv 2) af) af) (SV (Xb cz (Ζ (bV K) (pv 2) af) af)))))))) (X9 (ZJ (pv 3)))))),?_⟩;obtain⟨i,rfl⟩:∃i',i=i'+1:=by
   cases i with
   |zero=>exact Z1 (iI f1 o p j) hB
   |succ i=>exact⟨i,rfl⟩
  obtain⟨j,rfl⟩:∃j',j=j'+1:=by
   cases j with
   |zero=>exact Z1 (by unfold Bq;rfl) hB
   |succ j=>exact⟨j,rfl⟩
  refine⟨_,rfl,_,rfl,pr,_,_,_,rfl,rfl, .of Cg,Xo (j:=0),_,_,rfl,rfl,_,rfl,pr,_,_,_,rfl,rfl, .of Cg,Xo (j:=1),_,_,rfl,rfl,aA Vs,fun t ht=>?_⟩;refine⟨fun mm σ H1=>∃(cr ah:Addr)(i2 j2:Nat),mm=i2+j2∧σ=[sR x,sR pr,sR cr,sR ah]∧av H H1∧H1 cr=some (.tup [.int ((i2+1:Nat):Int), .int ((j2+1:Nat):Int)])∧H1 ah=some (.tup [.int i2, .int j2])∧i2<n∧j2<m∧Bq f1 o p (i2+1) (j2+1)≠none∧cK f1 o p (i2+1) (j2+1)=cK f1 o p (i+1) (j+1),⟨i+j,pr,t,i,j,rfl,rfl,Z6 ht,av.upd ht _ _ Cg,?_,by lia,by lia,hB,rfl⟩,?_⟩
  ·rw[ae,show((i+1:Nat):Int)-1=(i:Int) by lia,show((j+1:Nat):Int)-1=(j:Int) by lia]
  rintro mm σ H1 ⟨cr,ah,i2,j2,rfl,rfl,s1,JV,V9,GI,Up,Nd,V_⟩;have T1:=TR.keep s1;refine⟨_,rfl,x,dx,_,rfl,T1.ob,JK o p e b,_,rfl,_,rfl,x,dx,e,b,es,bs,f1,o,p,n,m,cr,ah,i2+1,j2+1,i2,j2,rfl,T1,JV,V9,by lia,by lia,GI,Up,?_⟩;refine⟨_,rfl,?_⟩;by_cases hE:dF f1 o p i2 j2=Bq f1 o p (i2+1) (j2+1)
  ·rw[decide_eq_true hE];refine gc ?_;refine⟨_,rfl,q H1 ah s1 ?_⟩;have:cK f1 o p (i2+1) (j2+1)=(i2,j2):=by unfold cK;rw[MJ hE]
   rw[←V_,this];exact V9
  ·rw[decide_eq_false hE];refine jS ?_;refine⟨_,fun bB H' z=>z,?_⟩;obtain⟨i3,j3,c0,c1,c2,c3,c4,c5⟩:=zi Nd hE;refine⟨_,rfl,x,dx,_,rfl,T1.ob,B4 o p e b,_,rfl,x,dx,e,b,es,bs,f1,o,p,n,m,cr,i2,j2,rfl,T1,JV,GI,Up,fun H2 r us s2 rM zR P2=>?_⟩;obtain⟨t2,k1,k2⟩:=P2.2 0 _ c0;refine⟨r,_,_,_,rfl,rfl, .of zR,ar (j:=0) k1,?_⟩;refine⟨_,rfl,t2,_,_,_,rfl,rfl, .of k2,Xo (j:=0),_,_,rfl,rfl,_,rfl,t2,_,_,_,rfl,rfl, .of k2,Xo (j:=1),_,_,rfl,rfl,aA Vs,fun t3 V'=>?_⟩;refine⟨i3+j3,by lia,t2,t3,i3,j3,rfl,rfl,s1.trans (s2.trans (Z6 V')),av.upd V' _ _ k2,?_,by lia,by lia,c4,by rw[c5,V_]⟩;rw[ae];show some (HO.tup [.int (((i3+1:Nat):Int)-1), .int (((j3+1:Nat):Int)-1)])=_;rw[show((i3+1:Nat):Int)-1=(i3:Int) by lia,show((j3+1:Nat):Int)-1=(j3:Int) by lia]
variable(cf:eE P w K mg base true 1 aC "goes_on" ["self","pair"] (xv aC))
variable(dw:eE P w K mg base true 3 aC "pair_before" ["self","pair"] (xw aC))
theorem kh:aL ["self","pair","way"] ["self","pair"] (au iB):=⟨rfl,rfl,rfl,by decide+kernel,rfl,by decide+kernel,by decide+kernel⟩
include T Rc cf dw in
theorem qU{f:Addr}{fd:FuncData}(F:iy K "way_to" "Trails.way_to" iB f fd):a7 P w K mg base (cX P w) true 4 f fd ["self","pair"] (AM aC):=by
 refine F.gL kh ZH (fun bU A outer s H vs Q E hr h hX=>?_)
 ·obtain⟨x,dx,e,b,es,bs,f,o,p,n,m,pr,i,j,rfl,_⟩:=h;rfl
 ·obtain⟨x,dx,e,b,es,bs,f1,o,p,n,m,pr,i,j,rfl,TR,Cg,hi,hj,hn,q⟩:=h;refine⟨_,(Xm (YL (2) kh.nd (ZW (SV Z'))) (Xm (@sX _ _ _ _ _ _ hX.own (Β (Ο Y' cf aQ (SV (YF Z2 (@rD _ _ _ _ _ _ lI af))))) (X9 (ZY (Ω K PySem.F.slot_list_append PySem.F.type_list_append bT Z2 (SV (Ο Y' dw aQ (SV (YF Z2 (@rD _ _ _ _ _ _ lI af))))))))) (Xm (ZY (@HL _ K _ _ _ _ _ _ _ _ PySem.F.plainAttrs_list PySem.F.slot_list_reverse PySem.F.type_list_reverse Aj Z2 (Z5) (Z5) (Z5))) (X9 (ZJ Z2))))),?_⟩;refine⟨_,rfl,aA Vs,fun w hw=>?_⟩;refine⟨fun mm σ H1=>∃(us:List V)(A:List (Nat×Nat))(i2 j2:Nat),mm=i2∧σ=[sR x,sR pr,sR w]∧av H H1∧H1 w=some (.lst us)∧fT H1 us ((A++[(i2,j2)]).map aR)∧i2<n∧j2<m∧A.length+i2≤i∧eF f1 o p i i j=eF f1 o p i2 i2 j2++A.reverse,⟨i,_,[],i,j,rfl,rfl,Z6 hw,ae,⟨rfl,fun k g hg=>?_⟩,hi,hj,XC,XC⟩,?_⟩
  ·have hk:k=0:=by
    have:=(YG hg).1;simp at this
    lia
   subst hk;have hg:aR (i,j)=g:=by simpa using hg
   subst hg;exact⟨pr,rfl,av.upd hw _ _ Cg⟩
  rintro i2 σ H1 ⟨us,A,_,j2,rfl,rfl,s1,sf,P1,GI,Up,hA,IH⟩;have T1:=TR.keep s1;obtain⟨t,yy,uS⟩:=P1.last Vs;rw[List.map_append,List.map_singleton,nG]at uS;have hlen:us.length≤1001:=by have:=P1.1;simp at this;lia
  refine⟨_,rfl,x,dx,_,rfl,T1.ob,FJ o p e b,_,rfl,_,rfl,w,_,_,_,rfl,rfl, .of sf,yy,x,dx,e,b,es,bs,f1,o,p,n,m,t,i2,j2,rfl,T1,uS,by lia,by lia,?_⟩;refine⟨_,rfl,?_⟩;refine bb (fun hh=>?_) (fun hh=>?_)
  ·obtain⟨c1,c2,c3⟩:=j_ hh;have hl:=(kK f1 o p i2 j2 c1 c2).resolve_right c3;refine⟨_,fun bB H' z=>z,?_⟩;refine⟨_,rfl, .inl ⟨rfl,_, .of sf⟩,_,rfl,x,dx,_,rfl,T1.ob,L1 o p e b,_,rfl,_,rfl,w,_,_,_,rfl,rfl, .of sf,yy,x,dx,e,b,es,bs,f1,o,p,n,m,t,i2,j2,rfl,T1,uS,by lia,by lia,c3,fun H2 r s2 hr=>?_⟩;have aak:r≠w:=fun z=>by subst z;rw[s2 _ _ sf]at hr;cases hr
   refine⟨w,_,_,rfl,rfl,s2 _ _ sf,bf Hy,(cK f1 o p i2 j2).1,hl.1,us++[.ref r],A++[(i2,j2)],_,(cK f1 o p i2 j2).2,rfl,rfl,(s1.trans s2).eP hw,ae,?_,by lia,by lia,by simp;lia,?_⟩
   ·rw[List.map_append];refine((P1.same s2).append ⟨rfl,fun k g hg=>?_⟩).cD fun a ys ha=>?_
    ·have hk:k=0:=by
      have:=(YG hg).1;simp at this
      lia
     subst hk;have hg:aR ((cK f1 o p i2 j2).1,(cK f1 o p i2 j2).2)=g:=by simpa using hg
     subst hg;exact⟨r,rfl,hr⟩
    ·have eQ:a≠w:=fun z=>by subst z;rw[s2 _ _ sf]at ha;cases ha
     rw[ao eQ];exact ha
   ·rw[IH,wg hh];simp
  ·have hh:¬gN (Bq f1 o p i2 j2)=true:=hh;refine⟨_,rfl, .inl ⟨rfl,_, .of sf⟩,w,us,rfl,rfl,sf,?_⟩;refine⟨_,rfl,q _ w us.reverse (s1.eP hw) hw ae ?_⟩;have e:eF f1 o p i i j=(A++[(i2,j2)]).reverse:=by
    rw[IH,gR hh];simp
   rw[e,List.map_reverse];refine⟨by rw[List.length_reverse,List.length_reverse,P1.1],fun k g hg=>?_⟩;have hk:=(YG hg).1;rw[List.length_reverse]at hk;have hl:=P1.1;rw[List.getElem?_reverse hk]at hg;obtain⟨t3,k1,k2⟩:=P1.2 _ _ hg;refine⟨t3,by rw[List.getElem?_reverse Hy,hl];exact k1,?_⟩;have eQ:t3≠w:=fun z=>by subst z;rw[sf]at k2;cases k2
   rw[ao eQ];exact k2
variable(Fc:JL K ay)
theorem mP:aL ["self","worth","way","row","pairs"] ["self","worth","way","row","pairs"] (au fV):=⟨rfl,rfl,rfl,by decide+kernel,rfl,by decide+kernel,by decide+kernel⟩
include T Fc in
theorem mQ{f:Addr}{fd:FuncData}(F:iy K "__init__" "Finding.__init__" fV f fd):a7 P w K mg base (cX P w) true 1 f fd ["self","worth","way","row","pairs"] (tT ay):=by
 refine F.gL mP ZH (fun bU A outer s H vs Q E hr h hX=>?_)
 ·obtain⟨x,dx,a,r,p,w,rfl,_⟩:=h;rfl
 ·obtain⟨x,dx,a,r,p,w,rfl,hx,q⟩:=h;refine⟨_,(Xm (Λ K Y' (pv 1)) (Xm (Λ K Y' (pv 2)) (Xm (Λ K Y' (pv 3)) (X9 (Λ K Y' (pv 4)))))),?_⟩;have a1:=aW "worth" (.int w) [];have a2:=aW "way" (.ref a) (bq "worth" (.int w) []);have a3:=aW "row" (.ref r) (bq "way" (.ref a) (bq "worth" (.int w) []));simp only[List.length_nil]at a1;refine⟨_,rfl,_,rfl,x,ay,dx,_,rfl,hx,Fc.cl,Fc.worth,WV,?_⟩;refine⟨_,rfl,_,rfl,x,ay,dx,_,rfl,ae,Fc.cl,Fc.way,by lia,?_⟩;refine⟨_,rfl,_,rfl,x,ay,dx,_,rfl,ae,Fc.cl,Fc.row,by lia,?_⟩;refine⟨_,rfl,_,rfl,x,ay,dx,_,rfl,ae,Fc.cl,Fc.pairs,by lia,?_⟩;rw[gf,gf,gf,L3];exact q
theorem zq:aL ["finding"] ["finding"] (au nN):=⟨rfl,rfl,rfl,by decide+kernel,rfl,by decide+kernel,by decide+kernel⟩
include T Fc in
theorem zr{f:Addr}{fd:FuncData}(F:ju K "order_of" "order_of" nN f fd):a7 P w K mg base (cX P w) true 1 f fd ["finding"] (tU ay):=by
 refine F.gL zq ZH (fun bU A outer s H vs Q E hr h hX=>?_)
 ·obtain⟨x,dx,a,r,p,w,us,ps,rfl,_⟩:=h;rfl
 ·obtain⟨x,dx,a,r,p,w,us,ps,rfl,hx,hp,PS,eQ,q⟩:=h;refine⟨_,(X9 (ZJ (@eC _ _ _ _ _ (WW (@rD _ _ _ _ _ _ lI (ZL K)) (SV (YF (ZL K) af)))))),?_⟩;obtain⟨t,h1,h2⟩:=PS.first eQ;refine⟨_,rfl,x,ay,dx,_,_,rfl,hx,Fc.cl,Fc.worth,jb w a r p,_,rfl,_,rfl,x,ay,dx,_,_,rfl,hx,Fc.cl,Fc.pairs,ik w a r p,p,_,_,_,rfl,rfl, .of hp,h1,aA Vs,fun k hk=>?_⟩;exact q _ k t (Z6 hk) ae (av.upd hk _ _ h2)
variable(fQ:eE P w K mg base true 4 aC "way_to" ["self","pair"] (AM aC))
variable(kW:mW P w K mg base true 1 "Finding" ay ["self","worth","way","row","pairs"] [] (tT ay))
theorem fR:aL ["trails","worth","pairs","ends","way","row"] ["trails","worth","pairs"] (au e7):=⟨rfl,rfl,rfl,by decide+kernel,rfl,by decide+kernel,by decide+kernel⟩
include T Rc fQ kW in
theorem sg{f:Addr}{fd:FuncData}(F:ju K "make_finding" "make_finding" e7 f fd):a7 P w K mg base (cX P w) true 6 f fd ["trails","worth","pairs"] (AO aC ay):=by
 refine F.gL fR ZH (fun bU A outer s H vs Q E hr h hX=>?_)
 ·obtain⟨x,dx,e,b,es,bs,f,o,p,n,m,w,pr,us,ps,q0,rfl,_⟩:=h;rfl
 ·obtain⟨x,dx,e,b,es,bs,f1,o,p,n,m,w,pr,us,ps,q0,rfl,TR,Cg,PS,lJ,h0,hn,DT,q⟩:=h;refine⟨_,(Z0 (@kC _ _ _ _ _ _ _ _ _ _ _ _ _ _ _ (3) _ _ (by exact rfl) fR.nd Η (by exact rfl) (show bh ["trails","worth","pairs","ends","way","row"] (au e7) _ ["pair"] [0,1] ["trails","worth"]from⟨rfl,by decide+kernel,by decide+kernel,by decide+kernel,rfl,rfl,by decide+kernel,by decide+kernel,by decide+kernel⟩) (Γ K Z2) (fun _ _ _ _ _=>(Z9 (0) (show(["pair","trails","worth"]:List Str).Nodup by decide+kernel))) (fun _ _ _ _ _=>(@w_ _ _ _ (ZQ jt (YF (YF (Ξ K Z') (Ζ (bV K) (pv 0) af)) (Ζ (bV K) (pv 0) af)) (pv 2) (aV _)))) (fun _ _ _ _ _=>(pv 0)) (Z5) (by intro _;rfl)) (Z0 (YL (4) fR.nd (Ο Y' fQ aQ (SV (YF (pv 3) af)))) (Z0 (@kC _ _ _ _ _ _ _ _ _ _ _ _ _ _ _ (5) _ _ (by exact rfl) fR.nd Η (by exact rfl) (show bh ["trails","worth","pairs","ends","way","row"] (au e7) _ ["i","j"] [0] ["trails"]from⟨rfl,by decide+kernel,by decide+kernel,by decide+kernel,rfl,rfl,by decide+kernel,by decide+kernel,by decide+kernel⟩) (Γ K (pv 4)) (fun _ _ _ _ _=>(ζ K (2) (by exact rfl) (Z_ (Z9 (0) (show(["i","j","trails"]:List Str).Nodup by decide+kernel)) (Z_ (Z9 (1) (show(["i","j","trails"]:List Str).Nodup by decide+kernel)) fq)))) (fun _ _ _ _ _=>gX) (fun _ _ _ _ _=>(YF (YF (Ξ K Z2) (pv 0)) (pv 1))) (Z5) (by intro _;rfl)) (X9 (ZJ (@sJ _ _ _ _ _ _ _ _ _ _ _ _ _ _ kW (hr.mono (WV)) hX.pass (WW Z' (WW (pv 4) (WW (pv 5) (SV Z2)))) (Z5) (WV) (Z5) (Z5))))))),?_⟩;have II:us.length=ps.length:=by have:=PS.1;simpa using this
  refine⟨fun σ H1=>∃D vs,σ=[sR x,sI w,sR pr,sR D,none,none]∧av H H1∧H1 D=some (.lst vs)∧fT H1 vs ((ps.filter fun q=>decide (dF f1 o p q.1 q.2=some w)).map aR),?_,?_⟩
  ·refine⟨_,rfl,pr,rfl,⟨_, .of Cg⟩,fun D hD=>?_⟩;refine f6 (xs:=us) (fun k ys bB H'=>(∃u,bB=[u,sR x,sI w])∧fT H ys (((ps.take k).filter fun q=>decide (dF f1 o p q.1 q.2=some w)).map aR)∧H' D=some (.lst ys)∧av H H'∧ys.length≤k) ⟨⟨_,rfl⟩, .nil,ae,Z6 hD,XC⟩ ?_ ?_ ?_
   ·rintro k ys bB H' _ ⟨_,_,_,s1,_⟩;exact .of (s1 _ _ Cg)
   ·rintro k v ys bB H' hv ⟨⟨u,rfl⟩,P1,r_,s1,lg⟩;have hk:k<ps.length:=by rw[←II];exact(YG hv).1
    have ek:ps[k]?=some ps[k]:=by simp[hk]
    have hm:=lJ ps[k] (List.getElem_mem hk);generalize ps[k]=g at ek hm;obtain⟨t,k1,k2⟩:=PS.2 k (aR g) (by rw[List.getElem?_map,ek];rfl);rw[hv]at k1;cases k1;have T1:=TR.keep s1;have kt:=s1 _ _ k2;obtain⟨rb,g1,g2,g3⟩:=T1.te.at hm.1;have et:ps.take (k+1)=ps.take k++[g]:=by rw[List.take_succ,ek];rfl
    refine⟨_,rfl,x,aC,dx,_,_,rfl,T1.ob,Rc.cl,Rc.kJ,ij o p e b,_,rfl,t,_,_,_,rfl,rfl, .of kt,Xo (j:=0),e,_,_,_,rfl,rfl, .of T1.he,ar g2,_,rfl,t,_,_,_,rfl,rfl, .of kt,Xo (j:=1),rb,_,_,_,rfl,rfl, .of g3,ar (dq hm.2),?_⟩;have JW:decide (bD (dF f1 o p g.1 g.2)=V.int w)=decide (dF f1 o p g.1 g.2=some w):=by cases dF f1 o p g.1 g.2<;>simp[bD]
    refine⟨_,rfl,by cases dF f1 o p g.1 g.2<;>rfl,_,rfl,?_⟩;rw[JW];refine bb (fun hh=>?_) (fun hh=>?_)
    ·refine⟨_,rfl,r_,bf Hy,⟨_,rfl⟩,?_,ae,s1.eP hD,by simp;lia⟩;rw[et,List.filter_append,List.map_append];refine P1.append ?_;rw[show[g].filter (fun q=>decide (dF f1 o p q.1 q.2=some w))=[g] by rw[List.filter_cons,MJ hh];rfl];exact⟨rfl,fun k3 g3 Rl=>by
      have Mi:k3=0:=by
       have:=(YG Rl).1;simp at this
       lia
      subst Mi;have Rl:aR g=g3:=by simpa using Rl
      subst Rl;exact⟨t,rfl,k2⟩⟩
    ·have hh:decide (dF f1 o p g.1 g.2=some w)=false:=by simpa using hh
     refine⟨⟨_,rfl⟩,?_,r_,s1,by lia⟩;rw[et,List.filter_append,show[g].filter (fun q=>decide (dF f1 o p q.1 q.2=some w))=[] by rw[List.filter_cons,hh];rfl,List.append_nil];exact P1
   ·rintro ys bB H' ⟨_,P1,r_,s1,_⟩;rw[II,List.take_length]at P1;exact⟨D,ys,rfl,s1,r_,P1.same s1⟩
  rintro σ H1 ⟨D,vs,rfl,s1,r_,P1⟩;obtain⟨t0,k1,k2⟩:=P1.2 0 (aR q0) (by rw[List.getElem?_map,h0];rfl);have Gp:q0.1<n∧q0.2<m:=lJ q0 (List.mem_filter.mp (ZI h0)).1;refine⟨fun σ H2=>∃wy iA,σ=[sR x,sI w,sR pr,sR D,sR wy,none]∧av H1 H2∧H1 wy=none∧H2 wy=some (.lst iA)∧fT H2 iA ((eF f1 o p q0.1 q0.1 q0.2).map aR),?_,?_⟩
  ·have T1:=TR.keep s1;exact⟨_,rfl,x,dx,_,rfl,T1.ob,Pa o p e b,_,rfl,D,_,_,_,rfl,rfl, .of r_,ar (j:=0) k1,x,dx,e,b,es,bs,f1,o,p,n,m,t0,q0.1,q0.2,rfl,T1,k2,Gp.1,Gp.2,hn,fun H2 wy iA s2 h2 h3 P2=>⟨wy,iA,rfl,s2,h2,h3,P2⟩⟩
  rintro σ H2 ⟨wy,iA,rfl,s2,Uq,D1,P2⟩;have A6:=P2.1;rw[List.length_map]at A6;have Oj:(eF f1 o p q0.1 q0.1 q0.2).length≤1001:=by
   have:=zj (f:=f1) (o:=o) (p:=p) q0.1 q0.1 q0.2
   lia
  have PK:=B5 (f:=f1) (o:=o) (p:=p) q0.1 q0.1 q0.2 Gp.1 Gp.2;generalize eF f1 o p q0.1 q0.1 q0.2=W at P2 A6 Oj PK q;refine⟨fun σ H3=>∃r,σ=[sR x,sI w,sR pr,sR D,sR wy,sR r]∧av H2 H3∧H2 r=none∧H3 r=some (.lst (W.map fun q=>bD (dF f1 o p q.1 q.2))),?_,?_⟩
  ·refine⟨_,rfl,wy,rfl,⟨_, .of D1⟩,fun D2 ku=>?_⟩;refine f6 (xs:=iA) (fun k ys bB H'=>(∃u v,bB=[u,v,sR x])∧ys=(W.take k).map (fun q=>bD (dF f1 o p q.1 q.2))∧H' D2=some (.lst ys)∧av H2 H') ⟨⟨_,_,rfl⟩,rfl,ae,Z6 ku⟩ ?_ ?_ ?_
   ·rintro k ys bB H' _ ⟨_,_,_,s3⟩;exact .of (s3 _ _ D1)
   ·rintro k v ys bB H' hv ⟨⟨u,v2,rfl⟩,rfl,Dz,s3⟩;have hk:k<W.length:=by rw[←A6];exact(YG hv).1
    have ek:W[k]?=some W[k]:=by simp[hk]
    have hm:=PK W[k] (List.getElem_mem hk);generalize W[k]=g at ek hm;obtain⟨t,k1,k2⟩:=P2.2 k (aR g) (by rw[List.getElem?_map,ek];rfl);rw[hv]at k1;cases k1;have T3:=TR.keep (s1.trans (s2.trans s3));have kt:=s3 _ _ k2;obtain⟨rb,g1,g2,g3⟩:=T3.te.at hm.1;refine⟨t,_,rfl, .of kt,rfl,_,_,rfl,_,_,rfl,rfl,?_⟩;refine sG ?_;refine⟨_,rfl,x,aC,dx,_,_,rfl,T3.ob,Rc.cl,Rc.kJ,ij o p e b,_,rfl,e,_,_,_,rfl,rfl, .of T3.he,ar g2,_,rfl,rb,_,_,_,rfl,rfl, .of g3,ar (dq hm.2),?_⟩;refine⟨Dz,bf (by rw[List.length_map,List.length_take];lia),⟨_,_,rfl⟩,?_,ae,s3.eP ku⟩;rw[List.take_succ,ek];simp
   ·rintro ys bB H' ⟨_,rfl,Dz,s3⟩;rw[A6,List.take_length]at Dz;exact⟨D2,rfl,s3,ku,Dz⟩
  rintro σ H3 ⟨r,rfl,s3,rM,xK⟩;refine⟨_,rfl,_,rfl,_,rfl,_,rfl,fun y dy hy Mj eQ=>?_⟩;have s4:av H3 (upd (upd H3 dy (.own y)) y (.ins ay dy [])):=(Z6 Mj).eP hy;refine⟨y,dy,wy,r,pr,w,rfl,ae,?_⟩;refine⟨rfl,?_⟩;rw[gf];have s5:av H3 (upd (upd H3 dy (.own y)) y (.ins ay dy (m4 w wy r pr))):=(Z6 Mj).eP hy;have sH:=s1.trans (s2.trans s3);exact q _ y dy wy r iA (sH.trans s5) (sH.free hy) (sH.free Mj) (s1.free Uq) ((s1.trans s2).free rM) ae (by rw[ao eQ];exact ae) (s5 _ _ (s3 _ _ D1)) (P2.same (s3.trans s5)) (s5 _ _ xK)
variable(Gc:Pb K aI)
theorem nW:aL ["self"] ["self"] (au gm):=⟨rfl,rfl,rfl,by decide+kernel,rfl,by decide+kernel,by decide+kernel⟩
include T Gc in
theorem nX{f:Addr}{fd:FuncData}(F:iy K "__init__" "Groups.__init__" gm f fd):a7 P w K mg base (cX P w) true 1 f fd ["self"] (tV aI):=by
 refine F.gL nW ZH (fun bU A outer s H vs Q E hr h hX=>?_)
 ·obtain⟨x,dx,rfl,_⟩:=h;rfl
 ·obtain⟨x,dx,rfl,hx,q⟩:=h;refine⟨_,(Xm (Λ K Y' j7) (X9 (Λ K Y' j7))),?_⟩;have a1:=aW "leads" (.ref 0) [];simp only[List.length_nil]at a1;refine fun dl Ro=>?_
  have n1:x≠dl:=aF hx Ro;refine⟨_,rfl,x,aI,dx,_,rfl,by rw[ao n1];exact hx,Gc.cl,Gc.oX,WV,?_⟩;refine fun dm JX=>?_
  have n2:x≠dm:=fun z=>by rw[z,ae]at JX;cases JX
  have IJ:upd H dl (.dT []) dm=none:=by rw[ao (Ne.symm n2)]at JX;exact JX
  have n3:dm≠dl:=fun z=>by rw[z,ae]at IJ;cases IJ
  have PL:H dm=none:=by rw[ao n3]at IJ;exact IJ
  refine⟨_,rfl,x,aI,dx,_,rfl,by rw[ao n2,ae],Gc.cl,Gc.members,by have:=aW "leads" (.ref dl) [];simp at this;lia,?_⟩;rw[Pc];refine q _ (fun a=>a=dl∨a=dm) ?_ ?_ ?_
  ·exact fun b u hb e=>by
    rw[ao hb,ao (aF e PL),ao hb,ao (aF e Ro)];exact e
  ·rintro a (rfl|rfl)
   ·exact Ro
   ·exact PL
  ·refine⟨dx,dl,dm,[],[],fun _=>none,fun _=>none,ae,fun z=>z.elim n1 n2,⟨?_,?_, .inl rfl, .inr rfl,Ne.symm n3,fun p=>rfl,fun p=>rfl,fun p q a e=>(by cases e),fun kv h=>(by cases h), .nil,fun l ms e=>(by cases e),fun p l e=>(by cases e),fun l ms e=>(by cases e)⟩,fun a b=>⟨False.elim,fun⟨l,e,_⟩=>(by cases e)⟩,Nat.le_refl _,Nat.le_refl _⟩
   ·rw[ao (Ne.symm n1),ao (Ne.symm n3),ao (Ne.symm n1),ae]
   ·rw[ao (Ne.symm n2),ae]
theorem va:aL ["self","pair"] ["self","pair"] (au iK):=⟨rfl,rfl,rfl,by decide+kernel,rfl,by decide+kernel,by decide+kernel⟩
include T Gc in
theorem vc{f:Addr}{fd:FuncData}(F:iy K "has" "Groups.has" iK f fd):a7 P w K mg base (cX P w) true 1 f fd ["self","pair"] (AQ aI):=by
 refine F.gL va ZH (fun bU A outer s H vs Q E hr h hX=>?_)
 ·obtain⟨x,t,p,S,E1,B,rfl,_⟩:=h;rfl
 ·obtain⟨x,t,p,S,E1,B,rfl,G,ht,q⟩:=h;have hu:=hr.units;have hu:(A.deeper (Ρ "Groups.has" (au iK) f bU)).units+1<cLine:=by lia
  refine⟨_,(X9 (ZJ (@zW _ _ _ _ _ _ (@qr _ _ _ _ _ hu Z' (ZL K)) (by first|exact bj _ (WV) (WV)|rfl)))),?_⟩;obtain⟨dg,dl,dm,kl,km,ld,mm,hg,Gr,D,hE,Rp,Nd⟩:=G;refine⟨_,rfl,_,rfl,x,aI,dg,_,_,rfl,hg,Gc.cl,Gc.oX,jz dl dm,dl,_,rfl, .t (k:=ba p) D.hl ht,q _ ?_⟩;rw[hE];have:=D.lv p;cases e:ld p with
  |none=>
   rw[e]at this;have this:bA kl (ba p)=none:=this;rw[this];simp
  |some l=>
   rw[e]at this;obtain⟨t2,h1,_⟩:=this;rw[h1];simp
theorem pe:aL ["self","pair"] ["self","pair"] (au fz):=⟨rfl,rfl,rfl,by decide+kernel,rfl,by decide+kernel,by decide+kernel⟩
include T Gc in
theorem ph{f:Addr}{fd:FuncData}(F:iy K "take_in" "Groups.take_in" fz f fd):a7 P w K mg base (cX P w) true 1 f fd ["self","pair"] (xx aI):=by
 refine F.gL pe ZH (fun bU A outer s H vs Q E hr h hX=>?_)
 ·obtain⟨x,t,p,S,E1,B,rfl,_⟩:=h;rfl
 ·obtain⟨x,t,p,S,E1,B,rfl,G,ht,hB,q⟩:=h;have hu:=hr.units;have hu:(A.deeper (Ρ "Groups.take_in" (au fz) f bU)).units+1<cLine:=by lia
  refine⟨_,(X9 (ZX (Ψ (@vT _ _ _ _ _ hu Z' (ZL K))) (Xm (@ky _ _ _ _ _ _ _ _ _ hu (ZL K) (pv 1) (pv 1) (by exact rfl)) (X9 (@ky _ _ _ _ _ _ _ _ _ hu (ZL K) (pv 1) (ZW (SV Z')) (by exact rfl)))) aP)),?_⟩;obtain⟨dg,dl,dm,kl,km,ld,mm,hg,Gr,D,hE,Rp,Nd⟩:=id G;refine⟨_,rfl,_,rfl,x,aI,dg,_,_,rfl,hg,Gc.cl,Gc.oX,jz dl dm,dl,_,rfl, .t (k:=ba p) D.hl ht,_,rfl,?_⟩;have lv:=D.lv p;cases e:ld p with
  |some l=>
   rw[e]at lv;obtain⟨t2,h1,_⟩:=lv;rw[h1];refine gc ?_;refine q H S (.same (.refl H)) (G.iff (fun a b=>?_) (by lia));unfold JM;refine⟨fun z=>z.elim id ?_, .inl⟩;rintro⟨rfl,rfl⟩;rw[hE];exact⟨l,e,e⟩
  |none=>
   rw[e]at lv;have lv:bA kl (ba p)=none:=lv;rw[lv];refine jS ?_;have nx:x≠dl:=fun z=>Gr (z▸D.sl)
   have Rq:x≠dm:=fun z=>Gr (z▸D.sm)
   have Ur:t≠dl:=fun z=>by rw[z,D.hl]at ht;cases ht
   have aaU:t≠dm:=fun z=>by rw[z,D.hm]at ht;cases ht
   refine⟨_,rfl,_,rfl,x,aI,dg,_,_,rfl,hg,Gc.cl,Gc.oX,jz dl dm,_,rfl,dl,_,rfl, .t (k:=ba p) D.hl ht (bf Hy),?_⟩;refine⟨_,rfl,aA Vs,fun a ha=>?_⟩;have na:a≠dl:=fun z=>by rw[z,ae]at ha;cases ha
   have D0:H a=none:=by rw[ao na]at ha;exact ha
   have Py:x≠a:=aF hg D0;have Wa:dm≠a:=aF D.hm D0;have YH:t≠a:=aF ht D0;refine⟨_,rfl,x,aI,dg,_,_,rfl,by rw[ao Py,ao nx];exact hg,Gc.cl,Gc.members,iX dl dm,_,rfl,dm,_,rfl, .t (k:=ba p) (by rw[ao Wa,ao (Ne.symm D.ne)];exact D.hm) (by rw[ao YH,ao Ur];exact ht) (bf Hy),?_⟩;refine q _ (fun y=>S y∨y=a) ⟨fun y hy=>hy.imp id (fun z=>by rw[z];exact D0),fun b o hb eb=>?_⟩ ?_
   ·rw[ao (fun z:b=dm=>hb (by rw[z];exact D.sm)),ao (aF eb D0),ao (fun z:b=dl=>hb (by rw[z];exact D.sl))];exact eb
   refine⟨dg,dl,dm,_,_,_,_,by rw[ao Rq,ao Py,ao nx];exact hg,fun z=>z.elim Gr Py,D.take (t:=t) (a:=a) e ht D0 ?_ ae ?_ ?_,fun a1 b1=>?_,?_,?_⟩
   ·rw[ao D.ne,ao (Ne.symm na),ae]
   ·rw[ao (Ne.symm Wa),ae]
   ·intro b o h1 h2 eb;rw[ao h2,ao (aF eb D0),ao h1];exact eb
   ·unfold JM;rw[hE];constructor
    ·rintro(⟨l,h1,h2⟩|⟨z1,z2⟩)
     ·exact⟨l,by rw[Je (fun z=>by rw[z,e]at h1;cases h1)];exact h1,by rw[Je (fun z=>by rw[z,e]at h2;cases h2)];exact h2⟩
     ·exact⟨p,by rw[MJ z1],by rw[MJ z2]⟩
    ·rintro⟨l,h1,h2⟩;by_cases z1:a1=p
     ·by_cases z2:b1=p
      ·exact .inr ⟨z1,z2⟩
      ·rw[MJ z1]at h1;rw[Je z2]at h2;cases h1;obtain⟨ms,DW⟩:=D.ml _ _ h2;have:=D.self _ _ DW;rw[e]at this;cases this
     ·rw[Je z1]at h1;by_cases z2:b1=p
      ·rw[MJ z2]at h2;cases h2;obtain⟨ms,DW⟩:=D.ml _ _ h1;have:=D.self _ _ DW;rw[e]at this;cases this
      ·rw[Je z2]at h2;exact .inl ⟨l,h1,h2⟩
   ·exact Nat.le_trans (eU _ _ _) (by lia)
   ·exact Nat.le_trans (eU _ _ _) (by lia)
theorem cG:aL ["self","pair","other","lead","gone","moved","member"] ["self","pair","other"] (au e_):=⟨rfl,rfl,rfl,by decide+kernel,rfl,by decide+kernel,by decide+kernel⟩
include T Gc in
theorem si{f:Addr}{fd:FuncData}(F:iy K "unite" "Groups.unite" e_ f fd):a7 P w K mg base (cX P w) true 1 f fd ["self","pair","other"] (tW aI):=by
 refine F.gL cG ZH (fun bU A outer s H vs Q E hr h hX=>?_)
 ·obtain⟨x,t,u,p,q,S,E1,B,rfl,_⟩:=h;rfl
 ·obtain⟨x,t,u,p,q,S,E1,B,rfl,G,ht,Q9,hp,hq,hB,qq⟩:=h;have hu:=hr.units;have JY:(A.deeper (Ρ "Groups.unite" (au e_) f bU)).units<cLine:=by lia
  have hu:(A.deeper (Ρ "Groups.unite" (au e_) f bU)).units+1<cLine:=by lia
  refine⟨_,(Z0 (YL (3) cG.nd (μ hu Z' (fun _ _=>rfl))) (Z0 (YL (4) cG.nd (μ hu Z2 (fun _ _=>rfl))) (X9 (ZX (ZQ (Dp K JY) (pv 3) (pv 4) (aV _)) (Z0 (ZX (ZQ mV (Ε (aK K) T.cY (SV (μ hu (pv 3) (fun _ _=>rfl)))) (Ε (aK K) T.cY (SV (μ hu (pv 4) (fun _ _=>rfl)))) (aV _)) (Z0 (YL (3) cG.nd (μ hu Z2 (fun _ _=>rfl))) (X9 (YL (4) cG.nd (μ hu Z' (fun _ _=>rfl))))) aP) (Z0 (YL (5) cG.nd (@Fb _ _ _ _ _ _ _ hu (ZL K) (pv 4) ⟨rfl,rfl,rfl,rfl⟩)) (Z0 (Za hX.own (Γ K (pv 5)) (Z9 (6) cG.nd) (X9 (@ky _ _ _ _ _ _ _ _ _ hu (ZL K) (pv 6) (pv 3) (by exact rfl)))) (X9 (ZY (Ω K PySem.F.slot_list_extend PySem.F.type_list_extend vU (μ hu (pv 3) (fun _ _=>rfl)) (SV (pv 5)))))))) aP)))),?_⟩;obtain⟨dg,dl,dm,kl,km,ld,mm,hg,Gr,D,hE,Rp,Nd⟩:=id G;obtain⟨l,JZ,_⟩:=(hE p p).mp hp;obtain⟨g,J0,_⟩:=(hE q q).mp hq;obtain⟨tl,vl,zl⟩:∃tl,bA kl (ba p)=some (.ref tl)∧H tl=some (.tup (jk l)):=by have:=D.lv p;rw[JZ]at this;exact this
  obtain⟨tg,vg,Nf⟩:∃tg,bA kl (ba q)=some (.ref tg)∧H tg=some (.tup (jk g)):=by have:=D.lv q;rw[J0]at this;exact this
  refine⟨fun σ H1=>H1=H∧σ=[sR x,sR t,sR u,sR tl,none,none,none],⟨_,rfl,x,aI,dg,_,_,rfl,hg,Gc.cl,Gc.oX,jz dl dm,_,rfl,dl,_,rfl,by have:=j6.t (k:=ba p) D.hl ht;rw[vl]at this;exact this,rfl,rfl⟩,?_⟩;rintro σ H1 ⟨rfl,rfl⟩;refine⟨fun σ H2=>H2=H1∧σ=[sR x,sR t,sR u,sR tl,sR tg,none,none],⟨_,rfl,x,aI,dg,_,_,rfl,hg,Gc.cl,Gc.oX,jz dl dm,_,rfl,dl,_,rfl,by have:=j6.t (k:=ba q) D.hl Q9;rw[vg]at this;exact this,rfl,rfl⟩,?_⟩;rintro σ H2 ⟨rfl,rfl⟩;refine⟨_,rfl,_,rfl,tl,tg,_,_,rfl,rfl, .of zl, .of Nf,rfl,rfl,_,rfl,?_⟩;rw[xn];by_cases B9:l=g
  ·rw[decide_eq_true B9];refine gc ?_;refine qq _ (.same (.refl _)) (G.iff (fun a b=>?_) (Nat.le_refl _));subst B9;unfold qL;rw[hE,hE,hE,hE,hE,JZ,J0];constructor
   ·rintro(z|⟨z1,z2⟩)
    ·exact z
    ·have y1:ld a=some l:=by rcases z1 with⟨y,h1,h2⟩|⟨y,h1,h2⟩<;>(cases h2;exact h1)
     have y2:ld b=some l:=by rcases z2 with⟨y,h1,h2⟩|⟨y,h1,h2⟩<;>(cases h2;exact h1)
     exact⟨l,y1,y2⟩
   ·exact .inl
  rw[decide_eq_false B9];refine jS ?_;obtain⟨m1,D5⟩:=D.ml p l JZ;obtain⟨m2,IK⟩:=D.ml q g J0;obtain⟨al,lz,PM,B_,P1,_⟩:∃a us,bA km (ba l)=some (.ref a)∧H2 a=some (.lst us)∧fT H2 us m1∧S a:=by have:=D.mv l;rw[D5]at this;exact this
  obtain⟨ag,iA,Rr,IL,P2,_⟩:∃a us,bA km (ba g)=some (.ref a)∧H2 a=some (.lst us)∧fT H2 us m2∧S a:=by have:=D.mv g;rw[IK]at this;exact this
  have gl:∀{tt:Addr}{r:Pr},H2 tt=some (.tup (jk r))→j6 H2 dm (.ref tt) (bA km (ba r)):=fun h=>j6.t (k:=ba _) D.hm h
  have Wb:∀{tt:Addr}{r:Pr},H2 tt=some (.tup (jk r))→j6 H2 dl (.ref tt) (bA kl (ba r)):=fun h=>j6.t (k:=ba _) D.hl h
  refine⟨fun σ H3=>H3=H2∧∃l g tl tg p' q',σ=[sR x,sR t,sR u,sR tl,sR tg,none,none]∧l≠g∧H2 tl=some (.tup (jk l))∧H2 tg=some (.tup (jk g))∧ld p'=some l∧ld q'=some g∧∀a b,qL E1 p q a b↔qL E1 p' q' a b,?_,?_⟩
  ·refine⟨_,rfl,x,aI,dg,_,_,rfl,hg,Gc.cl,Gc.members,iX dl dm,_,rfl,dm,_,rfl,by have:=gl zl;rw[PM]at this;exact this,al,_,rfl, .inl (.of B_),?_⟩;refine⟨_,rfl,x,aI,dg,_,_,rfl,hg,Gc.cl,Gc.members,iX dl dm,_,rfl,dm,_,rfl,by have:=gl Nf;rw[Rr]at this;exact this,ag,_,rfl, .inl (.of IL),?_⟩;refine⟨_,_,rfl,rfl,_,rfl,?_⟩;refine bb (fun _=>?_) (fun _=>?_)
   ·refine⟨fun σ H3=>H3=H2∧σ=[sR x,sR t,sR u,sR tg,sR tg,none,none],⟨_,rfl,x,aI,dg,_,_,rfl,hg,Gc.cl,Gc.oX,jz dl dm,_,rfl,dl,_,rfl,by have:=Wb Q9;rw[vg]at this;exact this,rfl,rfl⟩,?_⟩;rintro σ H3 ⟨rfl,rfl⟩;refine⟨_,rfl,x,aI,dg,_,_,rfl,hg,Gc.cl,Gc.oX,jz dl dm,_,rfl,dl,_,rfl,by have:=Wb ht;rw[vl]at this;exact this,rfl,g,l,tg,tl,q,p,rfl,Ne.symm B9,Nf,zl,J0,JZ,fun a b=>Dq⟩
   ·exact⟨rfl,l,g,tl,tg,p,q,rfl,B9,zl,Nf,JZ,J0,fun a b=>Iff.rfl⟩
  rintro σ H3 ⟨rfl,l,g,tl,tg,p',q',rfl,B9,zl,Nf,JZ,J0,YI⟩;obtain⟨m1,D5⟩:=D.ml p' l JZ;obtain⟨m2,IK⟩:=D.ml q' g J0;obtain⟨al,lz,PM,B_,P1,Wc⟩:∃a us,bA km (ba l)=some (.ref a)∧H3 a=some (.lst us)∧fT H3 us m1∧S a:=by have:=D.mv l;rw[D5]at this;exact this
  obtain⟨ag,iA,Rr,IL,P2,aal⟩:∃a us,bA km (ba g)=some (.ref a)∧H3 a=some (.lst us)∧fT H3 us m2∧S a:=by have:=D.mv g;rw[IK]at this;exact this
  have aaC:al≠ag:=fun z=>B9 (D.inj l g al PM (by rw[Rr,z]))
  have l1:=D.uO (D.ms l m1 D5).1 (fun r hr=>⟨l,((D.ms l m1 D5).2 r).mp hr⟩);have l2:=D.uO (D.ms g m2 IK).1 (fun r hr=>⟨g,((D.ms g m2 IK).2 r).mp hr⟩);have nx:x≠dl:=fun z=>Gr (by rw[z];exact D.sl)
  have Rq:x≠dm:=fun z=>Gr (by rw[z];exact D.sm)
  have PN:al≠dl:=fun z=>by rw[z,D.hl]at B_;cases B_
  have PQ:al≠dm:=fun z=>by rw[z,D.hm]at B_;cases B_
  have PR:ag≠dl:=fun z=>by rw[z,D.hl]at IL;cases IL
  have Ml:ag≠dm:=fun z=>by rw[z,D.hm]at IL;cases IL
  have A6:=P2.1;refine⟨fun σ H4=>H4=upd H3 dm (.dT (i5 km (ba g)))∧σ=[sR x,sR t,sR u,sR tl,sR tg,sR ag,none],?_,?_⟩
  ·exact⟨_,rfl,x,aI,dg,_,_,rfl,hg,Gc.cl,Gc.members,iX dl dm,dm,rfl, .inr ⟨km, .of D.hm⟩,_,rfl,dm,tg,km,ba g,_,rfl,rfl,D.hm,Nf,Rr,rfl,rfl⟩
  rintro σ H4 ⟨rfl,rfl⟩;refine⟨fun σ H5=>(∃w,σ=[sR x,sR t,sR u,sR tl,sR tg,sR ag,w])∧∃uZ,H5 dl=some (.dT uZ)∧uZ.length≤B∧(∀r,bA uZ (ba r)=if r∈m2 then some (.ref tl)else bA kl (ba r))∧SameBut dl (upd H3 dm (.dT (i5 km (ba g)))) H5,?_,?_⟩
  ·refine⟨_,rfl,ag,rfl,⟨_, .of (by rw[ao Ml];exact IL)⟩,?_⟩;refine bM (xs:=iA) (fun i σ H5=>(∃w,σ=[sR x,sR t,sR u,sR tl,sR tg,sR ag,w])∧∃uZ,H5 dl=some (.dT uZ)∧uZ.length≤B∧(∀r,bA uZ (ba r)=if r∈m2.take i then some (.ref tl)else bA kl (ba r))∧SameBut dl (upd H3 dm (.dT (i5 km (ba g)))) H5) ?_ ?_ ?_ ?_
   ·exact⟨⟨_,rfl⟩,kl,by rw[ao D.ne];exact D.hl,Rp,fun r=>XC, .refl⟩
   ·rintro i σ H5 _ ⟨_,uZ,_,_,_,s5⟩;exact .of (s5 _ _ PR (by rw[ao Ml];exact IL))
   ·rintro i v σ H5 hv ⟨⟨w,rfl⟩,uZ,h5,Ng,Mm,s5⟩;have hi:i<m2.length:=by rw[←A6];exact(YG hv).1
    have ei:m2[i]?=some m2[i]:=by simp[hi]
    have ja:m2[i]∈m2:=List.getElem_mem hi;generalize m2[i]=r0 at ei ja;obtain⟨tr,k1,k2⟩:=P2.2 i r0 ei;rw[hv]at k1;cases k1;have V8:tr≠dl:=fun z=>by rw[z,D.hl]at k2;cases k2
    have Us:tr≠dm:=fun z=>by rw[z,D.hm]at k2;cases k2
    have k5:=s5 tr _ V8 (by rw[ao Us];exact k2);have g5:=s5 x _ nx (by rw[ao Rq];exact hg);refine⟨_,rfl,_,rfl,x,aI,dg,_,_,rfl,g5,Gc.cl,Gc.oX,jz dl dm,_,rfl,dl,_,rfl, .t (k:=ba r0) h5 k5 (bf Hy),⟨_,rfl⟩,_,ae,?_,fun r=>?_,s5.upd⟩
    ·have lJ:bA uZ (ba r0)≠none:=by
      rw[Mm];split
      ·simp
      ·have:=D.lv r0;rw[((D.ms g m2 IK).2 r0).mp ja]at this;obtain⟨t0,z,_⟩:=this;rw[z];simp
     have:(putK uZ (ba r0) (.ref tl)).length=uZ.length:=by
      unfold putK;rw[ie,MJ (by cases z:bA uZ (ba r0)<;>simp_all),List.length_map]
     lia
    ·rw[i6,Mm];have et:m2.take (i+1)=m2.take i++[r0]:=by rw[List.take_succ,ei];rfl
     rw[et];by_cases e:r=r0
     ·rw[MJ (by rw[e]),MJ (by simp[e])]
     ·rw[Je (fun z=>e (du z))];by_cases e2:r∈m2.take i
      ·rw[MJ e2,MJ (by simp[e2])]
      ·rw[Je e2,Je (by simp[e,e2])]
   ·rintro σ H5 ⟨⟨w,rfl⟩,uZ,h5,Ng,Mm,s5⟩;rw[A6,List.take_length]at Mm;exact⟨⟨_,rfl⟩,uZ,h5,Ng,Mm,s5⟩
  rintro σ H5 ⟨⟨w,rfl⟩,uZ,h5,Ng,Mm,s5⟩;have Ur:tl≠dl:=fun z=>by rw[z,D.hl]at zl;cases zl
  have Ut:tl≠dm:=fun z=>by rw[z,D.hm]at zl;cases zl
  have g5:=s5 x _ nx (by rw[ao Rq];exact hg);have m5:=s5 dm _ (Ne.symm D.ne) ae;have Wd:=s5 al _ PN (by rw[ao PQ];exact B_);have YJ:=s5 ag _ PR (by rw[ao Ml];exact IL);have YK:=s5 tl _ Ur (by rw[ao Ut];exact zl);have vd:bA (i5 km (ba g)) (ba l)=some (.ref al):=by rw[mz,Je (fun z=>B9 (du z))];exact PM
  refine⟨_,rfl,x,aI,dg,_,_,rfl,g5,Gc.cl,Gc.members,iX dl dm,_,rfl,dm, .ref al,rfl,by have:=j6.t (k:=ba l) m5 YK;rw[vd]at this;exact this, .inl ⟨rfl,_, .of Wd⟩,_,rfl,al,ag,lz,iA,rfl,rfl,Wd,YJ,?_,?_⟩
  ·have:=P1.1;exact aA Hy
  have aaA:x≠al:=fun z=>Gr (by rw[z];exact Wc)
  have J1:∀b o,¬S b→H3 b=some o→upd H5 al (.lst (lz++iA)) b=some o:=fun b o hb eb=>by
   rw[ao (fun z=>hb (by rw[z];exact Wc))];exact s5 b o (fun z=>hb (by rw[z];exact D.sl)) (by rw[ao (fun z=>hb (by rw[z];exact D.sm))];exact eb)
  refine qq _ ⟨fun _ h=> .inl h,J1⟩ ?_;refine⟨dg,dl,dm,uZ,i5 km (ba g),_,_,J1 x _ Gr hg,Gr,D.Pf (tl:=tl) B9 D5 IK PM P1 P2 B_ zl Mm (by rw[ao (Ne.symm PN)];exact h5) (by rw[ao (Ne.symm PQ)];exact m5) ae ?_,fun a b=>(YI a b).trans (L6 B9 JZ J0 (D.ms g m2 IK).2 hE a b),Ng,Nat.le_trans (yM _ _) Nd⟩;intro b o h1 h2 h3 eb;rw[ao h3];exact s5 b o h1 (by rw[ao h2];exact eb)
variable(jg:mg "sorted"=none)
theorem uk:aL ["self"] ["self"] (au g8):=⟨rfl,rfl,rfl,by decide+kernel,rfl,by decide+kernel,by decide+kernel⟩
include T Gc jg in
theorem um{f:Addr}{fd:FuncData}(F:iy K "told" "Groups.told" g8 f fd):a7 P w K mg base (cX P w) true 1 f fd ["self"] (xy aI):=by
 refine F.gL uk ZH (fun bU A outer s H vs Q E hr h hX=>?_)
 ·obtain⟨x,S,E1,B,rfl,_⟩:=h;rfl
 ·obtain⟨x,S,E1,B,rfl,G,hB,q⟩:=h;refine⟨_,(X9 (ZJ (@mq _ _ _ _ _ _ _ _ _ _ _ _ _ _ (by exact rfl) (show bh ["self"] (au g8) _ ["members"] [] []from⟨rfl,by decide+kernel,by decide+kernel,by decide+kernel,rfl,rfl,by decide+kernel,by decide+kernel,by decide+kernel⟩) (@HV _ H _ _ _ _ _ (ZL K) (Z5) (Z5) (Z5)) (fun _ _ _ _ _=>(Z9 (0) (show(["members"]:List Str).Nodup by decide+kernel))) (fun _ _ _ _ _=>gX) (fun _ _ _ _ _=>(ε (AI K) jg PyProof.Rows.Boot.«sorted» (SV Y'))) (by intro _;rfl)))),?_⟩;obtain⟨dg,dl,dm,kl,km,ld,mm,hg,Gr,D,hE,Rp,Nd⟩:=G;refine⟨_,rfl,x,aI,dg,_,_,rfl,hg,Gc.cl,Gc.members,iX dl dm,dm,km,rfl,D.hm,fun o nf R hR=>?_⟩;have nR:R≠dm:=fun z=>by rw[z,ae]at hR;cases hR
  have Uu:H R=none:=by rw[ao nR]at hR;exact hR
  refine Dm (fun k ys bB H'=>(∃u,bB=[u])∧(∃gs,gi H' ys gs∧gs.length=k∧∀(i:Nat) ps,gs[i]?=some ps→∃l ms v,km[i]?=some (ba l,v)∧mm l=some ms∧ps.Perm ms∧ps.Pairwise fun p q=>iW p q=true)∧H' R=some (.lst ys)∧(∀b o,b≠dm→H b=some o→H' b=some o)∧H' dm=some (.sE o (.dT km))∧∀(i:Nat) a,ys[i]?=some (.ref a)→H a=none∧a≠R) ⟨⟨_,rfl⟩,⟨[], .nil,rfl,fun i ps e=>by simp at e⟩,ae,fun b o hb e=>by rw[ao (aF e Uu),ao hb];exact e,by rw[ao (Ne.symm nR),ae],fun i a e=>by simp at e⟩ ?_ ?_ ?_
  ·rintro k ys bB H' _ ⟨_,_,_,_,h4,_⟩;exact h4
  ·rintro k ⟨key,v⟩ ys bB H' hk ⟨⟨u,rfl⟩,⟨gs,W1,hl,Nh⟩,PU,Ni,JX,CI⟩;obtain⟨l,el⟩:=D.key _ (ZI hk);have el:key=ba l:=el;subst el;have vv:=B8 D.B7 hk;have mv:=D.mv l;cases e:mm l with
   |none=>
    rw[e]at mv;have mv:bA km (ba l)=none:=mv;rw[mv]at vv;cases vv
   |some ms=>
    rw[e]at mv;obtain⟨a,us,z1,z2,z3,z4⟩:=mv;rw[vv]at z1;cases z1;obtain⟨nd,DW⟩:=D.ms l ms e;have Uv:a≠dm:=fun z=>by rw[z,D.hm]at z2;cases z2
    have T:c_ H H':=fun b v hb=>Ni b _ (fun z=>by rw[z,D.hm]at hb;cases hb) hb
    refine qw ?_;refine⟨_,rfl,a,us,ms,rfl, .of (Ni _ _ Uv z2),z3.cD T,nd,by have:=D.uO nd (fun p hp=>⟨l,(DW p).mp hp⟩);lia,fun D2 GR qs ku P2 perm pw=>?_⟩;have Rt:D2≠R:=fun z=>by rw[z,PU]at ku;cases ku
    have We:D2≠dm:=fun z=>by rw[z,JX]at ku;cases ku
    have PV:H D2=none:=by
     cases z:H D2 with
     |none=>rfl
     |some o2=>rw[Ni D2 o2 We z]at ku;cases ku
    have Wf:=W1.1;have Q8:k<km.length:=(YG hk).1;refine⟨by rw[ao (Ne.symm Rt)];exact PU,bf Hy,⟨_,rfl⟩,⟨gs++[qs],?_,by simp;lia,fun i ps hi=>?_⟩,ae,fun b o hb eb=>?_,?_,fun i a ha=>?_⟩
    ·have W2:gi (upd H' D2 (.lst GR)) ys gs:=W1.same (Z6 ku);have W3:gi (upd H' D2 (.lst GR)) (ys++[.ref D2]) (gs++[qs]):=W2.append (.one ae (P2.same (Z6 ku)));refine W3.put (fun i e=>?_) (by rw[ao (Ne.symm Rt)];exact PU);by_cases hi:i<ys.length
     ·rw[ZZ hi]at e;exact(CI i R e).2 rfl
     ·have:=(YG e).1;have:i=ys.length:=by simp at this;lia
      subst this;simp at e;exact Rt e
    ·by_cases GI:i<gs.length
     ·rw[ZZ GI]at hi;exact Nh i ps hi
     ·have:=(YG hi).1;have:i=gs.length:=by simp at this;lia
      subst this;simp at hi;subst hi;exact⟨l,ms,_,by rw[hl];exact hk,e,perm,pw⟩
    ·rw[ao (aF eb Uu),ao (aF eb PV)];exact Ni b o hb eb
    ·rw[ao (Ne.symm nR),ao (Ne.symm We)];exact JX
    ·by_cases hi:i<ys.length
     ·rw[ZZ hi]at ha;exact CI i a ha
     ·have:=(YG ha).1;have:i=ys.length:=by simp at this;lia
      subst this;simp at ha;subst ha;exact⟨PV,Rt⟩
  ·rintro ys bB H' ⟨_,⟨gs,W1,hl,Nh⟩,PU,Ni,JX,CI⟩;refine q _ R ys gs ⟨fun a h=> .inl h,fun b o hb eb=>Ni b o (fun z=>hb (by rw[z];exact D.sm)) eb⟩ Uu PU W1 (fun k a h=>(CI k a h).1) ?_;have at_:∀ps∈gs,∃l ms,mm l=some ms∧ps.Perm ms∧ps.Pairwise (fun p q=>iW p q=true):=fun ps DT=>by
    obtain⟨i,hi⟩:=List.getElem?_of_mem DT;obtain⟨l,ms,v,_,h2,h3,h4⟩:=Nh i ps hi;exact⟨l,ms,h2,h3,h4⟩
   refine⟨fun ps DT=>?_,fun ps DT=>?_,fun ps DT a ha b=>?_,fun a ha=>?_,?_⟩
   ·obtain⟨_,_,_,_,h4⟩:=at_ ps DT
    exact h4
   ·obtain⟨l,ms,h2,h3,_⟩:=at_ ps DT
    intro z;subst z;have:l∈ms:=((D.ms l ms h2).2 l).mpr (D.self l ms h2);have:=h3.mem_iff.mpr this;cases this
   ·obtain⟨l,ms,h2,h3,_⟩:=at_ ps DT
    have ha:=((D.ms l ms h2).2 a).mp (h3.mem_iff.mp ha);rw[h3.mem_iff,(D.ms l ms h2).2,hE,ha];exact⟨fun z=>⟨l,rfl,z⟩,fun⟨y,h,z⟩=>by cases h;exact z⟩
   ·obtain⟨l,h1,_⟩:=(hE a a).mp ha;obtain⟨ms,DW⟩:=D.ml a l h1;have mv:=D.mv l;rw[DW]at mv;obtain⟨aa,us,z1,_⟩:=mv;obtain⟨i,hi⟩:=zk z1;have ic:i<gs.length:=by rw[hl];exact(YG hi).1
    obtain⟨l2,YM,v,h5,h6,h7,_⟩:=Nh i gs[i] (by simp[ic]);rw[hi]at h5;have:l=l2:=du (Prod.mk.inj (ZO h5)).1;subst this;refine⟨gs[i],List.getElem_mem ic,h7.mem_iff.mpr ?_⟩;exact((D.ms l YM h6).2 a).mpr h1
   ·rw[List.pairwise_iff_getElem];intro i j hi hj uQ a ha hb;obtain⟨l1,m1,v1,a1,a2,a3,_⟩:=Nh i gs[i] (by simp[hi]);obtain⟨l2,m2,v2,b1,b2,b3,_⟩:=Nh j gs[j] (by simp[hj]);have ha:=((D.ms l1 m1 a2).2 a).mp (a3.mem_iff.mp ha);have hb:=((D.ms l2 m2 b2).2 a).mp (b3.mem_iff.mp hb);rw[ha]at hb;cases hb;have nd:=D.B7;have h1:(km.map (·.1))[i]?=some (ba l1):=by rw[List.getElem?_map,a1];rfl
    have h2:(km.map (·.1))[j]?=some (ba l1):=by rw[List.getElem?_map,b1];rfl
    have:=(List.getElem?_inj (YG h1).1 nd).mp (h1.trans h2.symm)
    lia
variable(mH:mW P w K mg base true 1 "Groups" aI ["self"] [] (tV aI))
variable(Hc:JP K az)
theorem lC:aL ["self","trails","worth"] ["self","trails","worth"] (au fe):=⟨rfl,rfl,rfl,by decide+kernel,rfl,by decide+kernel,by decide+kernel⟩
include T mH Hc in
theorem lD{f:Addr}{fd:FuncData}(F:iy K "__init__" "Gathering.__init__" fe f fd):a7 P w K mg base (cX P w) true 3 f fd ["self","trails","worth"] (qM az aI):=by
 refine F.gL lC ZH (fun bU A outer s H vs Q E hr h hX=>?_)
 ·obtain⟨x,dx,tr,W,rfl,_⟩:=h;rfl
 ·obtain⟨x,dx,tr,W,rfl,hx,q⟩:=h;refine⟨_,(Xm (Λ K Y' (pv 1)) (Xm (Λ K Y' (pv 2)) (Xm (Λ K Y' (@FI _ _ _ _ _ _ _ _ _ _ _ mH (hr.mono (WV)) hX.pass (Z5) (WV))) (X9 (Λ K Y' j7))))),?_⟩;refine⟨_,rfl,_,rfl,x,az,dx,_,rfl,hx,Hc.cl,Hc.tY,WV,?_⟩;refine⟨_,rfl,_,rfl,x,az,dx,_,rfl,ae,Hc.cl,Hc.worth,by have:=aW "trails" (.ref tr) [];simp at this;lia,?_⟩;rw[gf];refine fun g dg hg Ru eQ=>?_
  have PX:x≠g:=fun z=>by rw[←z,ae]at hg;cases hg
  have Uw:x≠dg:=fun z=>by rw[←z,ae]at Ru;cases Ru
  have PY:H g=none:=by rw[ao (Ne.symm PX)]at hg;exact hg
  have PZ:H dg=none:=by rw[ao (Ne.symm Uw)]at Ru;exact Ru
  refine⟨g,dg,rfl,ae,fun H1 S1 yz Ux G1=>⟨rfl,?_⟩⟩;have keep:∀b o,b≠x→H b=some o→H1 b=some o:=fun b o hb e=>yz b o (aF e PY) (by rw[ao (aF e PY),ao (aF e PZ),ao hb];exact e)
  have lu:H1 x=some (.ins az dx (bq "worth" (.int W) (bq "trails" (.ref tr) []))):=yz x _ PX (by rw[ao PX,ao Uw];exact ae);have l2:(bq "worth" (.int W) (bq "trails" (.ref tr) [])).length≤2:=by
   have:=aW "trails" (.ref tr) [];have:=aW "worth" (.int W) (bq "trails" (.ref tr) []);simp at*;lia
  refine⟨_,rfl,x,az,dx,_,rfl,lu,Hc.cl,Hc.groups,by lia,?_⟩;refine fun dk Rv=>?_
  have Nj:x≠dk:=fun z=>by rw[←z,ae]at Rv;cases Rv
  have Gs:H1 dk=none:=by rw[ao (Ne.symm Nj)]at Rv;exact Rv
  have Uy:H dk=none:=by
   cases e:H dk with
   |none=>rfl
   |some o=>rw[keep dk o (Ne.symm Nj) e]at Gs;cases Gs
  refine⟨_,rfl,x,az,dx,_,rfl,by rw[ao Nj];exact ae,Hc.cl,Hc.marks,by have:=aW "groups" (.ref g) (bq "worth" (.int W) (bq "trails" (.ref tr) []));lia,?_⟩;rw[L_];have Rw:¬S1 x:=fun z=>by
   have:=Ux x z;rw[ao PX,ao Uw,ae]at this;cases this
  have YN:¬S1 g:=fun z=>by
   have:=Ux g z;rw[ae]at this;cases this
  have G2:=G1.nt;have fin:∀b o,b≠x→H1 b=some o→upd (upd (upd H1 x (.ins az dx (bq "groups" (.ref g) (bq "worth" (.int W) (bq "trails" (.ref tr) []))))) dk (.dT [])) x (.ins az dx (jV tr W g dk)) b=some o:=fun b o hb e=>by
   rw[ao hb,ao (aF e Gs),ao hb];exact e
  have Uz:¬(S1 dk∧NT H1 dk):=fun z=>by
   obtain⟨o,e,_⟩:=z.2;rw[Gs]at e;cases e
  refine q _ (fun a=>(S1 a∧NT H1 a)∨a=dk) (fun b o hb e=>fin b o hb (keep b o hb e)) (fun a ha=>?_) ⟨dx,g,dk,[],fun a=>S1 a∧NT H1 a,ae,G2.keep (fun a o hs e=>fin a o (fun z=>Rw (by rw[←z];exact hs.1)) e) (fun b v hb=>fin b _ (fun z=>by rw[z,lu]at hb;cases hb) hb) (fun o e=>fin g o (Ne.symm PX) e),by rw[ao (Ne.symm Nj),ae],fun c=>rfl,Nat.le_refl _,fun a=>Iff.rfl,Uz,fun z=>z.elim (fun y=>Rw y.1) Nj,fun z=>z.elim (fun y=>YN y.1) (fun y=>?_),fun a ha=>?_⟩
  ·rcases ha with ha|ha
   ·have:=Ux a ha.1;cases e:H a with
    |none=>rfl
    |some o=>rw[ao (aF e PY),ao (aF e PZ),ao (fun z=>Rw (by rw[←z];exact ha.1)),e]at this;cases this
   ·rw[ha];exact Uy
  ·obtain⟨aao,dl,dm,kl,Il,ld,mm,og,_⟩:=G1;rw[y,Gs]at og;cases og
  ·rcases ha with⟨h1,o,h2,h3⟩|ha
   ·exact⟨o,fin a o (fun z=>Rw (by rw[←z];exact h1)) h2,h3⟩
   ·exact⟨_,by rw[ha,ao (Ne.symm Nj),ae],fun v=>(XC)⟩
variable(cP:eE P w K mg base true 1 aI "unite" ["self","pair","other"] (tW aI))
theorem pj:aL ["self","crossing","pair"] ["self","crossing","pair"] (au fA):=⟨rfl,rfl,rfl,by decide+kernel,rfl,by decide+kernel,by decide+kernel⟩
include T Hc cP in
theorem px{f:Addr}{fd:FuncData}(F:iy K "mark" "Gathering.mark" fA f fd):a7 P w K mg base (cX P w) true 2 f fd ["self","crossing","pair"] (tZ az aI):=by
 refine F.gL pj ZH (fun bU A outer s H vs Q E hr h hX=>?_)
 ·obtain⟨x,tc,tp,tr,W,c,r,S,s1,B,M,rfl,_⟩:=h;rfl
 ·obtain⟨x,tc,tp,tr,W,c,r,S,s1,B,M,rfl,G,hc,hp,L7,h0,hB,hM,q⟩:=h;have hu:=hr.units;have hu:(A.deeper (Ρ "Gathering.mark" (au fA) f bU)).units+1<cLine:=by lia
  refine⟨_,(X9 (ZX (Ψ (@qr _ _ _ _ _ hu Z' (ZL K))) (X9 (ZY (Ο (ZL K) cP aQ (WW (μ hu Z' (fun _ _=>rfl)) (SV Z2))))) (X9 (@ky _ _ _ _ _ _ _ _ _ hu (ZL K) (pv 1) (pv 2) (by exact rfl))))),?_⟩;obtain⟨dx,g,dk,km,S1,D⟩:=id G;refine⟨_,rfl,_,rfl,x,az,dx,_,_,rfl,D.ob,Hc.cl,Hc.marks,lQ tr W g dk,dk,_,rfl, .t (k:=ba c) D.hk hc,_,rfl,?_⟩;have mv:=D.mv c;cases e:s1.2 c with
  |none=>
   rw[e]at mv;have mv:bA km (ba c)=none:=mv;rw[mv];refine gc ?_;have hl:=D.len;refine⟨_,rfl,_,rfl,x,az,dx,_,_,rfl,D.ob,Hc.cl,Hc.marks,lQ tr W g dk,_,rfl,dk,_,rfl, .t (k:=ba c) D.hk hc (bf Hy),?_⟩;obtain⟨u,D'⟩:=D.put (c:=c) hp;refine q _ S u ⟨dx,g,dk,putK km (ba c) (.ref tp),S1,?_⟩;unfold zm;rw[e];exact D'
  |some r0=>
   rw[e]at mv;obtain⟨t0,v0,YO⟩:=mv;rw[v0];refine jS ?_;obtain⟨dg,dl,dm,kl,Il,ld,mm,og,_⟩:=id D.gr;refine⟨_,rfl,x,az,dx,_,_,rfl,D.ob,Hc.cl,Hc.groups,iY tr W g dk,g,dg,_,rfl,og,B6 dl dm,_,rfl,x,az,dx,_,_,rfl,D.ob,Hc.cl,Hc.marks,lQ tr W g dk,_,rfl,dk,_,rfl,by have:=j6.t (k:=ba c) D.hk hc;rw[v0]at this;exact this,_,rfl,g,t0,tp,r0,r,S1,s1.1,B,rfl,D.gr,YO,hp,h0 r0 e,L7,hB,fun H' u G'=>?_⟩;obtain⟨S',S2,u2,D2⟩:=D.Q_ u G';refine q _ S' u2 ⟨dx,g,dk,km,S2,?_⟩;unfold zm;rw[e];exact⟨D2.ob,D2.gr,D2.hk,D2.mv,by have:=D2.len;lia,D2.sS,D2.B7,D2.nx,D2.ng,D2.nt⟩
variable(cj:eE P w K mg base true 1 aI "take_in" ["self","pair"] (xx aI))
variable(ck:eE P w K mg base true 2 az "mark" ["self","crossing","pair"] (tZ az aI))
theorem fj:aL ["self","crossing","pair","later","before"] ["self","crossing","pair"] (au dH):=⟨rfl,rfl,rfl,by decide+kernel,rfl,by decide+kernel,by decide+kernel⟩
include T bg aZ Hc cP cj ck in
theorem l0{f:Addr}{fd:FuncData}(F:iy K "go_over" "Gathering.go_over" dH f fd):a7 P w K mg base (cX P w) true 3 f fd ["self","crossing","pair"] (t5 az aI aC):=by
 refine F.gL fj ZH (fun bU A outer s H vs Q E hr h hX=>?_)
 ·obtain⟨x,tc,tp,tr,dt,e,b,es,bs,f,o,p,n,m,W,i,j,r,S,s1,B,M,H0,rfl,_⟩:=h;rfl
 ·obtain⟨x,tc,tp,tr,dt,e,b,es,bs,f1,o,p,n,m,W,i,j,r,S,s1,B,M,H0,rfl,G,TR,BA,hc,hp,hi,hj,TP,OK,hs,hB,hM,q⟩:=h;have hu:=hr.units;have hu:(A.deeper (Ρ "Gathering.go_over" (au dH) f bU)).units+1<cLine:=by lia
  refine⟨_,(Z0 (YL (3) fj.nd (μ hu Z' (fun _ _=>rfl))) (Z0 (ZX (Β (Ο (ZL K) bg aQ (WW Z' (SV Z2)))) (Z0 (ZY (Ο (ZL K) cj aQ (SV Z2))) (X9 (ZY (Ο (ZL K) cP aQ (ι Z2))))) aP) (X9 (Za hX.own (Γ K (Ο (ZL K) aZ aQ (SV Z'))) (Z9 (4) fj.nd) (X9 (ZY (Ο Y' ck aQ (ι (pv 4))))))))),?_⟩;obtain⟨dx,g,dk,km,S1,D⟩:=id G;obtain⟨tl,vl,zl⟩:∃tl,bA km (ba (aR (i+1,j+1)))=some (.ref tl)∧H tl=some (.tup (jk r)):=by have:=D.mv (aR (i+1,j+1));rw[hs]at this;exact this
  obtain⟨M_,i2,j2,e2,OV⟩:=OK.mr _ _ hs;obtain⟨rfl,rfl⟩:=iJ e2;refine⟨fun σ H1=>H1=H∧σ=[sR x,sR tc,sR tp,sR tl,none],⟨_,rfl,x,az,dx,_,_,rfl,D.ob,Hc.cl,Hc.marks,lQ tr W g dk,_,rfl,dk,_,rfl,by have:=j6.t (k:=ba (aR (i+1,j+1))) D.hk hc;rw[vl]at this;exact this,rfl,rfl⟩,?_⟩;rintro σ H1 ⟨rfl,rfl⟩;have T1:=TR.keep BA.same;refine⟨fun σ H2=>σ=[sR x,sR tc,sR tp,sR tl,none]∧∃S',oW S H1 S' H2∧ip H2 az aI x tr W S' (JN f1 o p i j s1 r) (B+1) M,?_,?_⟩
  ·refine⟨_,rfl,x,az,dx,_,_,rfl,D.ob,Hc.cl,Hc.tY,mD tr W g dk,tr,dt,_,rfl,T1.ob,JK o p e b,_,rfl,_,rfl,tr,dt,e,b,es,bs,f1,o,p,n,m,tc,tp,i+1,j+1,i,j,rfl,T1,hc,hp,by lia,by lia,hi,hj,_,rfl,?_⟩;unfold JN;refine bb (fun hh=>?_) (fun hh=>?_)
   ·have hh:=of_decide_eq_true hh;rw[MJ hh];refine⟨fun σ H2=>σ=[sR x,sR tc,sR tp,sR tl,none]∧∃S',oW S H1 S' H2∧ip H2 az aI x tr W S' (JM s1.1 (aR (i,j)),s1.2) (B+1) M,?_,?_⟩
    ·obtain⟨dg,dl,dm,kl,Il,ld,mm,og,_⟩:=id D.gr;refine⟨_,rfl,x,az,dx,_,_,rfl,D.ob,Hc.cl,Hc.groups,iY tr W g dk,g,dg,_,rfl,og,FN dl dm,_,rfl,g,tp,aR (i,j),S1,s1.1,B,rfl,D.gr,hp,by lia,fun H' Ma u G'=>?_⟩;obtain⟨S',S2,u2,D2⟩:=D.Q_ u G';exact⟨rfl,S',u2,dx,g,dk,km,S2,D2⟩
    rintro σ H2 ⟨rfl,S',u2,G2⟩;obtain⟨Rx,g2,Ry,Il,S2,D2⟩:=id G2;have T:=u2.cD G.nt;obtain⟨dg,dl,dm,kl,aaM,ld,mm,og,_⟩:=id D2.gr;refine⟨_,rfl,x,az,Rx,_,_,rfl,D2.ob,Hc.cl,Hc.groups,iY tr W g2 Ry,g2,dg,_,rfl,og,B6 dl dm,_,rfl,_,rfl,g2,tp,tl,aR (i,j),r,S2,_,B+1,rfl,D2.gr,T _ _ hp,T _ _ zl, .inr ⟨rfl,rfl⟩, .inl M_,by lia,fun H' u G'=>?_⟩;obtain⟨Q5,S3,u3,D3⟩:=D2.Q_ u G';exact⟨rfl,Q5,u2.trans u3,Rx,g2,Ry,Il,S3,D3⟩
   ·have hh:¬dF f1 o p i j=Bq f1 o p (i+1) (j+1):=fun z=>hh (decide_eq_true z)
    rw[Je hh];exact⟨rfl,S, .same (.refl _),G.cast rfl (by lia) (Nat.le_refl _)⟩
  rintro σ H2 ⟨rfl,S2,u2,G2⟩;obtain⟨YQ,Wg,_⟩:=FV TP OK M_ OV;have Ci:=BA.ups u2;have T2:=TR.keep Ci.same;have TT:=u2.cD G.nt;obtain⟨Rx,g2,Ry,Il,S3,D2⟩:=id G2;refine⟨_,rfl,x,az,Rx,_,_,rfl,D2.ob,Hc.cl,Hc.tY,mD tr W g2 Ry,tr,dt,_,rfl,T2.ob,B4 o p e b,_,rfl,tr,dt,e,b,es,bs,f1,o,p,n,m,tc,i,j,rfl,T2,TT _ _ hc,hi,hj,fun H3 rr us s3 rM xK P3=>?_⟩;refine⟨rr,rfl,⟨_, .of xK⟩,?_⟩;have hlen:(bu f1 o p i j).length≤2:=by
   unfold bu;rw[List.length_append];split<;>split<;>simp
  have YR:=rL TP OV;refine bM (xs:=us) (fun k σ H4=>(∃w,σ=[sR x,sR tc,sR tp,sR tl,w])∧∃S4,oW S H1 S4 H4∧ip H4 az aI x tr W S4 (((bu f1 o p i j).take k).foldl (fun s c=>zm s c r) (JN f1 o p i j s1 r)) (B+1) (M+k)∧H4 rr=some (.lst us)∧fT H4 us (bu f1 o p i j)∧¬S4 rr∧H4 tl=some (.tup (jk r))) ?_ ?_ ?_ ?_
  ·have G3:=G2.same s3;refine⟨⟨_,rfl⟩,S2,u2.trans (.same s3),G3.cast Vs (Nat.le_refl _) (Nat.le_refl _),xK,P3,G2.out rM,s3 _ _ (TT _ _ zl)⟩
  ·rintro k σ H4 _ ⟨_,S4,_,_,h4,_⟩;exact .of h4
  ·rintro k v σ H4 hv ⟨⟨w,rfl⟩,S4,u4,G4,h4,P4,n4,t4⟩;have hk:k<(bu f1 o p i j).length:=by rw[←P4.1];exact(YG hv).1
   have ek:(bu f1 o p i j)[k]?=some (bu f1 o p i j)[k]:=by simp[hk]
   have ja:(bu f1 o p i j)[k]∈bu f1 o p i j:=List.getElem_mem hk;generalize (bu f1 o p i j)[k]=c at ek ja;obtain⟨t,k1,k2⟩:=P4.2 k c ek;rw[hv]at k1;cases k1;obtain⟨YS,YT,_⟩:=tX TP ((bu f1 o p i j).take k) _ YQ (Wg.e _ _ M_) (fun c hc=>YR c (List.mem_of_mem_take hc));obtain⟨YU,g4,YV,aaG,S5,D4⟩:=id G4;refine⟨_,rfl,x,YU,_,rfl,D4.ob,Ca tr W g4 YV,_,rfl,_,rfl,x,t,tl,tr,W,c,r,S4,_,B+1,M+k,rfl,G4,k2,t4,YT.e _ _ (Wg.e _ _ M_),fun r0 h=>(YS.mr _ _ h).1,by lia,by lia,fun H5 S6 u5 G5=>?_⟩;have T5:=u5.cD G4.nt;refine⟨⟨_,rfl⟩,S6,u4.trans u5,G5.cast ?_ ZT (by lia),u5.keep rr _ n4 h4,P4.cD T5,u5.out n4 h4,T5 _ _ t4⟩;rw[List.take_succ,ek];simp
  ·rintro σ H4 ⟨⟨w,rfl⟩,S4,u4,G4,h4,P4,n4,t4⟩;refine q _ S4 u4 (G4.cast ?_ ZT (by have:=P4.1;lia));rw[P4.1,List.take_length];rfl
variable(iO:eE P w K mg base true 1 aI "has" ["self","pair"] (AQ aI))
variable(dI:eE P w K mg base true 3 az "go_over" ["self","crossing","pair"] (t5 az aI aC))
theorem fW:aL ["self","i","j","pair","behind"] ["self","i","j"] (au eJ):=⟨rfl,rfl,rfl,by decide+kernel,rfl,by decide+kernel,by decide+kernel⟩
include T Rc cf Hc cj ck iO dI in
theorem nY{f:Addr}{fd:FuncData}(F:iy K "visit" "Gathering.visit" eJ f fd):a7 P w K mg base (cX P w) true 4 f fd ["self","i","j"] (qN az aI aC):=by
 refine F.gL fW ZH (fun bU A outer s H vs Q E hr h hX=>?_)
 ·obtain⟨x,tr,dt,e,b,es,bs,f,o,p,n,m,W,i,j,S,s1,B,M,H0,rfl,_⟩:=h;rfl
 ·obtain⟨x,tr,dt,e,b,es,bs,f1,o,p,n,m,W,i,j,S,s1,B,M,H0,rfl,G,TR,BA,hi,hj,hn,hm,TP,OK,hB,hM,q⟩:=h;have hu:=hr.units;have hu:(A.deeper (Ρ "Gathering.visit" (au eJ) f bU)).units+1<cLine:=by lia
  refine⟨_,(Z0 (YL (3) fW.nd (@eC _ _ _ _ _ (WW Z' (SV Z2)))) (Z0 (YL (4) fW.nd (@eC _ _ _ _ _ (WW (Xb br Z' af) (SV (Xb br Z2 af))))) (Z0 (ZX (ZQ jt (YF (YF (Ξ K (ZL K)) (pv 1)) (pv 2)) (ZL K) (aV _)) (X9 (ZY (Ο (ZL K) cj aQ (SV (pv 3))))) aP) (Z0 (ZX (Ψ (@qr _ _ _ _ _ hu (pv 4) (ZL K))) (X9 (ZY (Ο Y' dI aQ (ι (pv 4))))) aP) (X9 (ZX (@PW.pt _ _ _ (@pw_and _ _ _ _ _ _ _ (Β (Ο (ZL K) iO aQ (SV (pv 3)))) (@pw_and1 _ _ _ _ (Β (Ο (ZL K) cf aQ (SV (pv 3))))))) (X9 (ZY (Ο Y' ck aQ (ι (pv 3))))) aP)))))),?_⟩;refine⟨fun σ H1=>∃t,σ=[sR x,sI i,sI j,sR t,none]∧av H H1∧H1 t=some (.tup (jk (aR (i,j)))),⟨_,rfl,_,rfl,aA Vs,fun t ht=>⟨t,rfl,Z6 ht,ae⟩⟩,?_⟩;rintro σ H1 ⟨t,rfl,s2,ht⟩;refine⟨fun σ H2=>∃u,σ=[sR x,sI i,sI j,sR t,sR u]∧av H1 H2∧H2 u=some (.tup (jk (aR (i+1,j+1)))),⟨_,rfl,_,_,rfl,rfl,_,rfl,_,_,rfl,rfl,aA Vs,fun u hu=>⟨u,rfl,Z6 hu,ae⟩⟩,?_⟩;rintro σ H2 ⟨u,rfl,s3,Q4⟩;have uS:=s3 _ _ ht;have Nk:=s2.trans s3;have G2:=G.same Nk;have Ci:=BA.more Nk;have T2:=TR.keep Ci.same;obtain⟨rb,g1,g2,g3⟩:=T2.te.at hi;refine⟨fun σ H3=>σ=[sR x,sI i,sI j,sR t,sR u]∧∃S',oW S H2 S' H3∧ip H3 az aI x tr W S' (Ij f1 o p W i j s1) (B+1) M,?_,?_⟩
  ·obtain⟨dx,g,dk,km,S1,D⟩:=id G2;refine⟨_,rfl,x,az,dx,_,_,rfl,D.ob,Hc.cl,Hc.tY,mD tr W g dk,tr,aC,dt,_,_,rfl,T2.ob,Rc.cl,Rc.kJ,ij o p e b,_,rfl,e,_,_,_,rfl,rfl, .of T2.he,ar g2,_,rfl,rb,_,_,_,rfl,rfl, .of g3,ar (dq hj),_,rfl,x,az,dx,_,_,rfl,D.ob,Hc.cl,Hc.worth,F2 tr W g dk,?_⟩;have JW:decide (bD (dF f1 o p i j)=V.int W)=decide (dF f1 o p i j=some W):=by cases dF f1 o p i j<;>simp[bD]
   refine⟨by cases dF f1 o p i j<;>rfl,_,rfl,?_⟩;rw[JW];unfold Ij;refine bb (fun hh=>?_) (fun hh=>?_)
   ·have hh:=of_decide_eq_true hh;rw[MJ hh];obtain⟨dg,dl,dm,kl,Il,ld,mm,og,_⟩:=id D.gr;refine⟨_,rfl,x,az,dx,_,_,rfl,D.ob,Hc.cl,Hc.groups,iY tr W g dk,g,dg,_,rfl,og,FN dl dm,_,rfl,g,t,aR (i,j),S1,s1.1,B,rfl,D.gr,uS,by lia,fun H' Ma u G'=>?_⟩;obtain⟨S',S2,u2,D2⟩:=D.Q_ u G';exact⟨rfl,S',u2,dx,g,dk,km,S2,D2⟩
   ·have hh:¬dF f1 o p i j=some W:=fun z=>hh (decide_eq_true z)
    rw[Je hh];exact⟨rfl,S, .same (.refl _),G2.cast rfl (by lia) (Nat.le_refl _)⟩
  rintro σ H3 ⟨rfl,S3,u3,G3⟩;have Rz:=u3.cD G2.nt;have IM:=Ci.ups u3;obtain⟨YW,GW1,_⟩:=FW OK i j;refine⟨fun σ H4=>σ=[sR x,sI i,sI j,sR t,sR u]∧∃S',oW S3 H3 S' H4∧ip H4 az aI x tr W S' (DX f1 o p W i j s1) (B+2) (M+2),?_,?_⟩
  ·obtain⟨dx,g,dk,km,S1,D⟩:=id G3;refine⟨_,rfl,_,rfl,x,az,dx,_,_,rfl,D.ob,Hc.cl,Hc.marks,lQ tr W g dk,dk,_,rfl, .t (k:=ba (aR (i+1,j+1))) D.hk (Rz _ _ Q4),_,rfl,?_⟩;have mv:=D.mv (aR (i+1,j+1));have ee:(Ij f1 o p W i j s1).2=s1.2:=rfl;rw[ee]at mv;unfold DX;cases e9:s1.2 (aR (i+1,j+1))with
   |none=>
    rw[e9]at mv;have mv:bA km (ba (aR (i+1,j+1)))=none:=mv;rw[mv];refine gc ?_;exact⟨rfl,S3, .same (.refl _),G3.cast rfl (by lia) (by lia)⟩
   |some r=>
    rw[e9]at mv;obtain⟨tl,vl,zl⟩:=mv;rw[vl];refine jS ?_;exact⟨_,rfl,x,dx,_,rfl,D.ob,Ik tr W g dk,_,rfl,_,rfl,x,u,t,tr,dt,e,b,es,bs,f1,o,p,n,m,W,i,j,r,S3,_,B+1,M,H0,rfl,G3,TR,IM,Rz _ _ Q4,Rz _ _ uS,hi,hj,TP,YW,e9,by lia,by lia,fun H' S' u G'=>⟨rfl,S',u,G'⟩⟩
  rintro σ H4 ⟨rfl,S4,u4,G4⟩;have YX:=u4.cD G3.nt;have YY:=IM.ups u4;have T4:=TR.keep YY.same;have RA:=YX _ _ (Rz _ _ uS);obtain⟨YZ,GW2,_⟩:=FX TP OK i j;have uu:oW S H S4 H4:=(oW.same Nk).trans (u3.trans u4);obtain⟨dx,g,dk,km,S1,D⟩:=id G4;obtain⟨dg,dl,dm,kl,Il,ld,mm,og,_⟩:=id D.gr;refine⟨_,rfl,x,az,dx,_,_,rfl,D.ob,Hc.cl,Hc.groups,iY tr W g dk,g,dg,_,rfl,og,Pd dl dm,_,rfl,g,t,aR (i,j),S1,_,B+2,rfl,D.gr,RA,fun b1 jY=>?_⟩;refine⟨_,rfl,?_⟩;refine bb (fun hh=>?_) (fun hh=>?_)
  ·refine⟨_,rfl,x,az,dx,_,_,rfl,D.ob,Hc.cl,Hc.tY,mD tr W g dk,tr,dt,_,rfl,T4.ob,FJ o p e b,_,rfl,tr,dt,e,b,es,bs,f1,o,p,n,m,t,i,j,rfl,T4,RA,by lia,by lia,_,rfl,?_⟩;refine bb (fun h2=>?_) (fun h2=>?_)
   ·have lJ:=jY.mp hh;refine⟨_,rfl,x,dx,_,rfl,D.ob,Ca tr W g dk,_,rfl,_,rfl,x,t,t,tr,W,aR (i,j),aR (i,j),S4,_,B+2,M+2,rfl,G4,RA,RA,lJ,fun r0 h=>(YZ.mr _ _ h).1,by lia,by lia,fun H5 S5 u5 G5=>?_⟩;refine q _ S5 (uu.trans u5) ?_;unfold zQ;rw[MJ ⟨lJ,h2⟩];exact G5
   ·refine q _ S4 uu (G4.cast ?_ Hy (by lia));unfold zQ;rw[Je (fun z=>h2 z.2)]
  ·refine gc ?_;refine q _ S4 uu (G4.cast ?_ Hy (by lia));unfold zQ;rw[Je (fun z=>hh (jY.mpr z.1))]
variable(iP:mW P w K mg base true 3 "Gathering" az ["self","trails","worth"] [] (qM az aI))
variable(eM:eE P w K mg base true 4 az "visit" ["self","i","j"] (qN az aI aC))
variable(hJ:eE P w K mg base true 1 aI "told" ["self"] (xy aI))
theorem gw:aL ["trails","worth","gathering","i","j"] ["trails","worth"] (au jX):=⟨rfl,rfl,rfl,by decide+kernel,rfl,by decide+kernel,by decide+kernel⟩
include T Rc Hc iP eM hJ in
theorem uo{f:Addr}{fd:FuncData}(F:ju K "best_groups" "best_groups" jX f fd):a7 P w K mg base (cX P w) true 5 f fd ["trails","worth"] (AU aC):=by
 refine F.gL gw ZH (fun bU A outer s H vs Q E hr h hX=>?_)
 ·obtain⟨tr,dt,e,b,es,bs,f,o,p,n,m,W,rfl,_⟩:=h;rfl
 ·obtain⟨tr,dt,e,b,es,bs,f1,o,p,n,m,W,rfl,TR,IT,Wh,hn,hm,TP,q⟩:=h;refine⟨_,(Z0 (YL (2) gw.nd (@sJ _ _ _ _ _ _ _ _ _ _ _ _ _ _ iP (hr.mono (WV)) hX.pass (WW Y' (SV Z')) (Z5) (WV) (Z5) (Z5))) (Z0 (Za hX.own (@we _ _ _ _ _ _ _ _ (by exact rfl) T.fN (WW (Xb cz (Ε (aK K) T.cY (SV (ZL K))) af) (WW (@rD _ _ _ _ _ _ lI af) (SV (@rD _ _ _ _ _ _ lI af)))) (Z5) (Z5)) (Z9 (3) gw.nd) (X9 (Za hX.own (@we _ _ _ _ _ _ _ _ (by exact rfl) T.fN (WW (Xb cz (Ε (aK K) T.cY (SV (YF (ZL K) (pv 3)))) af) (WW (@rD _ _ _ _ _ _ lI af) (SV (@rD _ _ _ _ _ _ lI af)))) (Z5) (Z5)) (Z9 (4) gw.nd) (X9 (ZY (Ο Z2 eM aQ (WW (pv 3) (SV (pv 4))))))))) (X9 (ZJ (@CP _ _ _ _ _ _ _ _ _ _ _ _ _ (Ξ K Z2) hJ (hr.mono (WV)) aQ (Z5)))))),?_⟩;refine⟨fun σ H1=>∃gx S,σ=[sR tr,sI W,sR gx,none,none]∧Base H H1 S∧ip H1 az aI gx tr W S (fun _ _=>False,fun _=>none) 0 0,?_,?_⟩
  ·refine⟨_,rfl,_,rfl,fun y dy hy Mj eQ=>⟨y,dy,tr,W,rfl,ae,fun H' S sb fr G=>⟨rfl,y,S,rfl,⟨SameBut.As hy Mj sb,fun a ha=>?_⟩,G⟩⟩⟩;have:=fr a ha;cases e9:H a with
   |none=>rfl
   |some o9=>rw[ao (aF e9 hy),ao (aF e9 Mj),e9]at this;cases this
  rintro σ H1 ⟨gx,S,rfl,BA,G⟩;have IG:es.length=n:=TR.te.1;have V0:=Vd.start f1 o p W n m;refine⟨fun σ H2=>(∃u v,σ=[sR tr,sI W,sR gx,u,v])∧∃S s B M,Base H H2 S∧ip H2 az aI gx tr W S s B M∧Vd f1 o p W (Vb n m 0 0) s∧B≤6000,?_,?_⟩
  ·have T1:=TR.keep BA.same;refine⟨_,rfl,tr,aC,dt,_,_,rfl,T1.ob,Rc.cl,Rc.kJ,ij o p e b,e,_,rfl, .inl (.of T1.he),_,_,rfl,rfl,_,rfl,_,rfl,_,_,rfl,⟨by rw[List.length_map,IG];lia,by rw[List.length_map,IG];lia,WV,WV⟩,?_⟩;have en:((((es.map V.ref).length:Nat):Int)-1- -1).toNat=n:=by rw[List.length_map,IG];lia
   rw[en];refine zh (fun k σ H2=>(∃u v,σ=[sR tr,sI W,sR gx,u,v])∧∃S s B M,Base H H2 S∧ip H2 az aI gx tr W S s B M∧Vd f1 o p W (Vb n m (n-k) 0) s∧B≤2*(k*m)∧M≤3*(k*m)) ⟨⟨_,_,rfl⟩,S,_,0,0,BA,G,V0,by lia,by lia⟩ ?_ ?_
   ·rintro k σ H2 hk ⟨⟨u,v,rfl⟩,S2,s2,B,M,Ci,G2,V2,hB,hM⟩;have ei:(((es.map V.ref).length:Nat):Int)-1-(k:Int)=((n-1-k:Nat):Int):=by rw[List.length_map,IG];lia
    rw[ei];have T2:=TR.keep Ci.same;obtain⟨rb,g1,g2,g3⟩:=T2.te.at (show n-1-k<n by lia);have V2:Vd f1 o p W (Vb n m (n-1-k) m) s2:=Vd.turn (by rw[show n-1-k+1=n-k by lia];exact V2);have aaY:(k+1)*m≤n*m:=Nat.mul_le_mul_right m Hy;have Gu:(k+1)*m=k*m+m:=Nat.succ_mul k m;have lm:∀g:Nat→Option Int,(dh m g).length=m:=fun g=>by simp[dh]
    refine⟨_,rfl,tr,aC,dt,_,_,rfl,T2.ob,Rc.cl,Rc.kJ,ij o p e b,_,rfl,e,_,_,_,rfl,rfl, .of T2.he,ar g2,rb,_,rfl, .inl (.of g3),_,_,rfl,rfl,_,rfl,_,rfl,_,_,rfl,⟨by rw[lm];lia,by rw[lm];lia,WV,WV⟩,?_⟩;have Y0:((((dh m (dF f1 o p (n-1-k))).length:Nat):Int)-1- -1).toNat=m:=by rw[lm];lia
    rw[Y0];refine zh (fun l σ H3=>(∃v,σ=[sR tr,sI W,sR gx,sI (((n-1-k:Nat):Int)),v])∧∃S s B M,Base H H3 S∧ip H3 az aI gx tr W S s B M∧Vd f1 o p W (Vb n m (n-1-k) (m-l)) s∧B≤2*(k*m+l)∧M≤3*(k*m+l)) ⟨⟨_,rfl⟩,S2,s2,B,M,Ci,G2,V2,hB,hM⟩ ?_ ?_
    ·rintro l σ H3 hl ⟨⟨v3,rfl⟩,S3,s3,B3,M3,IM,G3,V3,Y1,Y2⟩;have ej:(((dh m (dF f1 o p (n-1-k))).length:Nat):Int)-1-(l:Int)=((m-1-l:Nat):Int):=by rw[lm];lia
     rw[ej];obtain⟨dx,g,dk,km,S1,D⟩:=id G3;have V3:Vd f1 o p W (Vb n m (n-1-k) (m-1-l+1)) s3:=by rw[show m-1-l+1=m-l by lia];exact V3
     refine⟨_,rfl,gx,dx,_,rfl,D.ob,F5 tr W g dk,_,rfl,_,rfl,gx,tr,dt,e,b,es,bs,f1,o,p,n,m,W,n-1-k,m-1-l,S3,s3,B3,M3,H,rfl,G3,TR,IM,by lia,by lia,hn,hm,TP,V3.ok,by lia,by lia,fun H4 S4 u4 G4=>?_⟩;refine⟨⟨_,rfl⟩,S4,_,_,_,IM.ups u4,G4,?_,by lia,by lia⟩;have:=V3.next TP (show n-1-k<n by lia) (show m-1-l<m by lia);rw[show m-(l+1)=m-1-l by lia];exact this
    ·rintro σ H3 ⟨⟨v3,rfl⟩,S3,s3,B3,M3,IM,G3,V3,Y1,Y2⟩;refine⟨⟨_,_,rfl⟩,S3,s3,B3,M3,IM,G3,?_,by lia,by lia⟩;rw[show n-(k+1)=n-1-k by lia,show(0:Nat)=m-m by lia];exact V3
   ·rintro σ H2 ⟨⟨u,v,rfl⟩,S2,s2,B,M,Ci,G2,V2,hB,hM⟩;rw[Nat.sub_self]at V2;exact⟨⟨_,_,rfl⟩,S2,s2,B,M,Ci,G2,V2,by lia⟩
  rintro σ H2 ⟨⟨u,v,rfl⟩,S2,s2,B,M,Ci,G2,V2,hB⟩;obtain⟨dx,g,dk,km,S1,D⟩:=id G2;obtain⟨dg,dl,dm,kl,Il,ld,mm,og,_⟩:=id D.gr;have HG:=fun a b=>V2.F1 TP IT a b
  refine⟨_,rfl,gx,az,dx,_,_,rfl,D.ob,Hc.cl,Hc.groups,iY tr W g dk,g,dg,_,rfl,og,L4 dl dm,g,S1,_,B,rfl,D.gr,by lia,fun H3 r us gs u3 rM xK W3 MR TD=>?_⟩;have IM:Base H H2 S1:=⟨Ci.same,fun a h=>Ci.free a ((D.sS a).mpr (.inl h))⟩
  exact q _ r us gs (IM.ups u3).same (Ci.same.free rM) xK W3 (fun k a h=>Ci.same.free (MR k a h)) (TD.iff HG)
theorem nZ:aL ["taken","shut","pair"] ["taken"] (au mG):=⟨rfl,rfl,rfl,by decide+kernel,rfl,by decide+kernel,by decide+kernel⟩
include T in
theorem A7{f:Addr}{fd:FuncData}(F:ju K "shut_by" "shut_by" mG f fd):a7 P w K mg base (cX P w) true 1 f fd ["taken"] xm:=by
 refine F.gL nZ ZH (fun bU A outer s H vs Q E hr h hX=>?_)
 ·obtain⟨v,shut,rfl,_⟩:=h;rfl
 ·obtain⟨v,shut,rfl,TV,hlen,q⟩:=h;have hu:=hr.units;have hu:(A.deeper (Ρ "shut_by" (au mG) f bU)).units+1<cLine:=by lia
  refine⟨_,(Xm (YL (1) nZ.nd j7) (Z0 (ZX (Ψ (@oz _ _ _ _ _ (pv 0))) (X9 (Za hX.own (Γ K Y') (Z9 (2) nZ.nd) (X9 (@ky _ _ _ _ _ _ _ _ _ hu Z' (pv 2) dR Η)))) aP) (X9 (ZJ Z')))),?_⟩;refine fun d hd=>?_
  refine⟨fun σ H1=>(∃u,σ=[some v,sR d,u])∧av H H1∧∃kvs,H1 d=some (.dT kvs)∧m3 kvs shut,?_,?_⟩
  ·refine⟨_,rfl,_,rfl,?_⟩;rcases TV with⟨rfl,rfl⟩|⟨l,us,rfl,hl,P1⟩
   ·refine bb (fun hh=>absurd hh Vs) (fun _=>?_);exact⟨⟨_,rfl⟩,Z6 hd,[],ae,fun p=>by simp[sZ]⟩
   ·refine bb (fun _=>?_) (fun hh=>absurd Vs hh);have II:=P1.1;refine⟨_,rfl,l,rfl,⟨_, .of (av.upd hd _ _ hl)⟩,?_⟩;refine bM (xs:=us) (fun i σ H'=>(∃u,σ=[sR l,sR d,u])∧av H H'∧∃kvs,H' d=some (.dT kvs)∧kvs.length≤i∧m3 kvs (shut.take i)) ?_ ?_ ?_ ?_
    ·exact⟨⟨_,rfl⟩,Z6 hd,[],ae,Nat.le_refl _,fun p=>by simp[sZ]⟩
    ·rintro i σ H' _ ⟨_,s1,_⟩;exact .of (s1 _ _ hl)
    ·rintro i x σ H' hx ⟨⟨u,rfl⟩,s1,kvs,hD,hk,hS⟩;have hi:i<shut.length:=by rw[←II];exact(YG hx).1
     obtain⟨t,yy,uS⟩:=P1.Li hi;rw[hx]at yy;cases yy;refine⟨_,rfl,_,rfl,d,_,rfl, .t (k:=ba (pr shut i)) hD (s1 _ _ uS) (bf Hy),⟨_,rfl⟩,s1.eP hd,_,ae,Nat.le_trans (eU _ _ _) (by lia),fun p=>?_⟩;have e1:shut.take (i+1)=shut.take i++[pr shut i]:=by rw[List.take_succ,Jy hi];rfl
     rw[i6,e1];by_cases hp:p=pr shut i
     ·rw[MJ (by rw[hp])];simp[hp]
     ·rw[Je (fun z=>hp ?_),hS p]
      ·simp[hp]
      ·simp only[ba,List.cons.injEq,Sum.inl.injEq,and_true]at z;exact Prod.ext z.1 z.2
    ·rintro σ H' ⟨⟨u,rfl⟩,s1,kvs,hD,_,hS⟩;rw[II,List.take_length]at hS;exact⟨⟨_,rfl⟩,s1,kvs,hD,hS⟩
  rintro σ H1 ⟨⟨u,rfl⟩,s1,kvs,hD,hS⟩;exact⟨_,rfl,q H1 d kvs s1 hD hS⟩
variable(mI:bK P w K mg base true 1 "shut_by" ["taken"] xm)
variable(d7:eE P w K mg base true 1 aU "pair_worth" ["self","x","y"] (xh aU))
theorem dN:aL ["first","second","terms","taken","shut","worths","i","x","row"] ["first","second","terms","taken"] (au fI):=⟨rfl,rfl,rfl,by decide+kernel,rfl,by decide+kernel,by decide+kernel⟩
include T Tc mI d7 in
theorem uq{f:Addr}{fd:FuncData}(F:ju K "open_worths" "open_worths" fI f fd):a7 P w K mg base (cX P w) true 2 f fd ["first","second","terms","taken"] (t8 aU):=by
 refine F.gL dN ZH (fun bU A outer s H vs Q E hr h hX=>?_)
 ·obtain⟨f,g,t,v,c,shut,rfl,_⟩:=h;rfl
 ·obtain⟨f1,g,t,v,c,shut,rfl,hf,hg,TF,TV,SE,TU,Wf,q⟩:=h;have hu:=hr.units;have hu:(A.deeper (Ρ "open_worths" (au fI) f bU)).units+1<cLine:=by lia
  have lx:(c.xs.map V.str).length=c.xs.length:=List.length_map ..;have ly:(c.ys.map V.str).length=c.ys.length:=List.length_map ..;refine⟨_,(Z0 (ξ (4) dN.nd (Or.inr rfl) (ZG mI aQ (SV (pv 3)))) (Z0 (YL (5) dN.nd (ZW ai)) (Z0 (Za hX.own (@oP _ K _ _ _ _ _ _ _ (by exact rfl) T.jv (SV Y') (Z5) (Z5)) (ζ K (2) (by exact rfl) (Z_ (@aJ _ _ (6) _ dN.nd Η (Or.inr rfl) (by first|exact .inl rfl|exact .inr rfl|assumption)) (Z_ (@aJ _ _ (7) _ dN.nd Η (Or.inr rfl) (by first|exact .inl rfl|exact .inr rfl|assumption)) fq))) (Z0 (@kC _ _ _ _ _ _ _ _ _ _ _ _ _ _ _ (8) _ _ (by exact rfl) dN.nd Η (by exact rfl) (show bh ["first","second","terms","taken","shut","worths","i","x","row"] (au fI) _ ["j","y"] [6,4,2,7] ["i","shut","terms","x"]from⟨rfl,by decide+kernel,by decide+kernel,by decide+kernel,rfl,rfl,by decide+kernel,by decide+kernel,by decide+kernel⟩) (@oP _ K _ _ _ _ _ _ _ (by exact rfl) T.jv (SV Z') (Z5) (Z5)) (fun _ _ _ _ _=>(ζ K (2) (by exact rfl) (Z_ (Z9 (0) (show(["j","y","i","shut","terms","x"]:List Str).Nodup by decide+kernel)) (Z_ (Z9 (1) (show(["j","y","i","shut","terms","x"]:List Str).Nodup by decide+kernel)) fq)))) (fun _ _ _ _ _=>gX) (fun _ _ _ _ _=>(@oA _ _ _ _ _ _ _ _ (Ψ (@qr _ _ _ _ _ hu (@eC _ _ _ _ _ (WW Z2 (SV Y'))) (pv 3))) jR (Ο (pv 4) d7 aQ (WW (pv 5) (SV Z'))))) (Z5) (by intro _;rfl)) (X9 (ZY (Ω K PySem.F.slot_list_append PySem.F.type_list_append bT (pv 5) (SV (pv 8))))))) (X9 (ZJ (pv 5)))))),?_⟩;refine⟨fun σ H1=>∃d kvs,σ=[sR f1,sR g,sR t,some v,sR d,none,none,none,none]∧av H H1∧H1 d=some (.dT kvs)∧m3 kvs shut,?_,?_⟩
  ·exact⟨_,rfl,v,shut,rfl,TV,SE,fun H1 d kvs s1 hd hS=>⟨d,kvs,rfl,s1,hd,hS⟩⟩
  rintro σ H1 ⟨d,kvs,rfl,s1,Y3,hS⟩;refine⟨fun σ H2=>∃e,σ=[sR f1,sR g,sR t,some v,sR d,sR e,none,none,none]∧av H1 H2∧H1 e=none∧H2 e=some (.lst []),?_,?_⟩
  ·exact⟨aA Vs,fun e he=>⟨e,rfl,Z6 he,he,ae⟩⟩
  rintro σ H2 ⟨e,rfl,s2,JT,Nb⟩;refine⟨fun σ H3=>(∃u1 u2 u3,σ=[sR f1,sR g,sR t,some v,sR d,sR e,u1,u2,u3])∧av H1 H3∧∃as:List Addr,H3 e=some (.lst (as.map V.ref))∧i_ H3 as (iH c shut) c.xs.length c.ys.length∧(∀a∈as,H1 a=none∧a≠e)∧as.Nodup,?_,?_⟩
  ·refine⟨_,rfl,f1,rfl,⟨_, .of (s2 _ _ (s1 _ _ hf))⟩,?_⟩;refine yV (xs:=c.xs.map V.str) (fun i σ H'=>(∃u1 u2 u3,σ=[sR f1,sR g,sR t,some v,sR d,sR e,u1,u2,u3])∧av H1 H'∧∃as:List Addr,H' e=some (.lst (as.map V.ref))∧i_ H' as (iH c shut) i c.ys.length∧(∀a∈as,H1 a=none∧a≠e)∧as.Nodup) ?_ ?_ ?_ ?_
   ·exact⟨⟨_,_,_,rfl⟩,s2,[],Nb,⟨rfl,fun i a h=>by simp at h⟩,(fun a h=>by cases h), .nil⟩
   ·rintro i σ H' _ ⟨_,s3,_⟩;exact .of (s3 _ _ (s1 _ _ hf))
   ·rintro i x T' σ H' hx ⟨⟨u1,u2,u3,rfl⟩,s3,as,GQ,TA,hn,GN⟩ hT;obtain⟨wx,RB,rfl⟩:=kF hx;have hi:i<c.xs.length:=(YG RB).1;have s4:av H1 (upd H' T' (.tup [.int i, .str wx])):=s3.trans (Z6 hT);have RD:=av.upd (o:= .tup [.int i, .str wx]) hT _ _ GQ;have RE:=TA.same (av.upd (o:= .tup [.int i, .str wx]) hT);refine⟨T',_,rfl, .of ae,rfl,_,_,rfl,_,_,rfl,rfl,?_⟩;generalize upd H' T' (.tup [.int i, .str wx])=H4 at s4 RD RE;clear TA GQ s3 hT;refine⟨fun σ H5=>∃r,σ=[sR f1,sR g,sR t,some v,sR d,sR e,sI i,sS wx,sR r]∧av H4 H5∧H4 r=none∧H5 r=some (.lst (dh c.ys.length (iH c shut i))),?_,?_⟩
    ·have Wi:=s4 _ _ (s1 _ _ hg);refine⟨_,rfl,g,rfl,⟨_, .of Wi⟩,fun D hD=>?_⟩;refine v8 (xs:=c.ys.map V.str) (fun j ys bB H5=>(∃w1 w2,bB=[w1,w2,sI i,sR d,sR t,sS wx])∧ys=dh j (iH c shut i)∧H5 D=some (.lst ys)∧av H4 H5) ⟨⟨_,_,rfl⟩,rfl,ae,Z6 hD⟩ ?_ ?_ ?_
     ·rintro j ys bB H5 _ ⟨_,_,_,s5⟩;exact .of (s5 _ _ Wi)
     ·rintro j y T2 ys bB H5 hy ⟨⟨w1,w2,rfl⟩,rfl,GU,s5⟩ PF;obtain⟨wy,D1,rfl⟩:=kF hy;have hj:j<c.ys.length:=(YG D1).1;have s6:av H4 (upd H5 T2 (.tup [.int j, .str wy])):=s5.trans (Z6 PF);have P0:=av.upd (o:= .tup [.int j, .str wy]) PF _ _ GU;refine⟨T2,_,rfl, .of ae,rfl,_,_,rfl,_,_,rfl,rfl,?_⟩;generalize upd H5 T2 (.tup [.int j, .str wy])=H6 at s6 P0;refine sG ?_;refine⟨_,rfl,_,rfl,aA Vs,fun p hp=>?_⟩;have s7:=s6.trans (av.upd (o:= .tup [.int (i:Int), .int (j:Int)]) hp);have sA:=s4.trans s7;have Nl:=av.upd (o:= .tup [.int (i:Int), .int (j:Int)]) hp _ _ P0;have len:(dh j (iH c shut i)).length<sizeLine:=bf (by rw[dj];lia);have sn:∀u,u=iH c shut i j→dh j (iH c shut i)++[bD u]=dh (j+1) (iH c shut i):=fun u e=>by rw[qC,e]
      have Nm:c.pw ((i:Int),(j:Int))=cI c.same c.fs wx wy:=Case.pw_of (by rw[tL];exact RB) (by rw[tL];exact D1);refine⟨_,rfl,d,_,rfl, .t (k:=ba ((i:Int),(j:Int))) (sA _ _ Y3) ae,_,rfl,?_⟩;rw[hS];refine bb (fun h1=>?_) (fun h1=>?_)
      ·have h1:((i:Int),(j:Int))∈shut:=by simpa using h1
       refine⟨Nl,len,⟨_,_,rfl⟩,?_,ae,s7.eP hD⟩;exact sn none (by simp[iH,om,h1])
      ·have h1:((i:Int),(j:Int))∉shut:=by simpa using h1
       obtain⟨n,dx,l,dd,vs,T1,e1,e2,e3,e4⟩:=(TF.keep s1).keep sA;refine⟨_,rfl,t,dx,_,rfl,T1.ob,xf n l dd,_,rfl,_,rfl,t,wx,wy,n,c.fs,dx,l,dd,vs,rfl,T1,fun H8 s8=>?_⟩;refine⟨s8 _ _ Nl,len,⟨_,_,rfl⟩,?_,ae,(s7.trans s8).eP hD⟩;exact sn _ (by simp[iH,om,h1,Nm,e1])
     ·rintro ys bB H5 ⟨_,rfl,GU,s5⟩;rw[ly]at GU;exact⟨D,rfl,s5,hD,GU⟩
    rintro σ H5 ⟨r,rfl,s5,rM,UA⟩;have Wj:r≠e:=Ne.symm (aF RD rM);have hlen:=RE.len;refine⟨_,rfl, .inl ⟨rfl,_, .of (s5 _ _ RD)⟩,_,rfl,e,_,_,rfl,rfl,s5 _ _ RD,bf (by rw[List.length_map];lia),⟨_,_,_,rfl⟩,(s4.trans s5).eP JT,as++[r],by rw[ae];simp,⟨by simp[hlen],fun k a hk=>?_⟩,fun a ha=>?_,List.nodup_append.mpr ⟨GN,XC,fun x hx y hy e9=>?_⟩⟩
    ·by_cases h:k<i
     ·rw[ZZ Hy]at hk;rw[ao (hn a (ZI hk)).2];exact s5 _ _ (RE.row k a hk)
     ·rw[Α Hy]at hk;have xt:k-as.length=0:=by
       have:=(YG hk).1;simp at this
       lia
      rw[xt]at hk;have:r=a:=by simpa using hk
      subst this;rw[ao Wj];have:k=i:=by lia
      rw[this];exact UA
    ·rcases List.mem_append.mp ha with ha|ha
     ·exact hn a ha
     ·have:a=r:=by simpa using ha
      rw[this];exact⟨s4.free rM,Wj⟩
    ·have hy:y=r:=by simpa using hy
     obtain⟨k,hk,ek⟩:=List.mem_iff_getElem.mp hx;have:=RE.row k x (by rw[Χ hk,ek]);rw[e9,hy,rM]at this;cases this
   ·rintro σ H' ⟨⟨u1,u2,u3,rfl⟩,s3,as,GQ,TA,hn,GN⟩;rw[lx]at TA;exact⟨⟨_,_,_,rfl⟩,s3,as,GQ,TA,hn,GN⟩
  rintro σ H3 ⟨⟨u1,u2,u3,rfl⟩,s3,as,GQ,TA,hn,GN⟩;exact⟨_,rfl,q H3 e as (s1.trans s3) GQ (s1.free JT) TA GN (fun z=>(hn e z).2 rfl) fun a ha=>s1.free (hn a ha).1⟩
variable(mJ:mW P w K mg base true 4 "Trails" aC ["self","worths","terms"] [] (qJ aC aU))
variable(hU:bK P w K mg base true 5 "best_groups" ["trails","worth"] (AU aC))
variable(gy:bK P w K mg base true 6 "make_finding" ["trails","worth","pairs"] (AO aC ay))
theorem j1:aL ["worths","terms","trails","worth"] ["worths","terms"] (au gq):=⟨rfl,rfl,rfl,by decide+kernel,rfl,by decide+kernel,by decide+kernel⟩
include T Tc fh Rc mJ hU gy in
theorem ve{f:Addr}{fd:FuncData}(F:ju K "make_round" "make_round" gq f fd):a7 P w K mg base (cX P w) true 7 f fd ["worths","terms"] (o6 aU ay):=by
 refine F.gL j1 ZH (fun bU A outer s H vs Q E hr h hX=>?_)
 ·obtain⟨w,t,as,c,f,n,m,rfl,_⟩:=h;rfl
 ·obtain⟨w,t,as,c,f1,n,m,rfl,hw,TA,TF,IT,Wh,hn,hm,q0,q1⟩:=h;refine⟨_,(Z0 (ξ (2) j1.nd (Or.inr rfl) (@sJ _ _ _ _ _ _ _ _ _ _ _ _ _ _ mJ (hr.mono (WV)) hX.pass (WW Y' (SV Z')) (Z5) (WV) (Z5) (Z5))) (Z0 (ξ (3) j1.nd (Or.inr rfl) (ZG fh aQ (SV (@mq _ _ _ _ _ _ _ _ _ _ _ _ _ _ (by exact rfl) (show bh ["worths","terms","trails","worth"] (au gq) _ ["row"] [] []from⟨rfl,by decide+kernel,by decide+kernel,by decide+kernel,rfl,rfl,by decide+kernel,by decide+kernel,by decide+kernel⟩) (Γ K (Ξ K Z2)) (fun _ _ _ _ _=>(Z9 (0) (show(["row"]:List Str).Nodup by decide+kernel))) (fun _ _ _ _ _=>gX) (fun _ _ _ _ _=>(ZG fh aQ (SV Y'))) (by intro _;rfl))))) (Z0 (ZX (@PW.pt _ _ _ (Κ (Ψ (@lG _ _ _ _ _ (pv 3))) (@pw_or1 _ _ _ _ (ZQ mV (pv 3) (Ξ K Z') (aV _))))) (X9 (ZJ (ZW ai))) aP) (X9 (ZJ (@mq _ _ _ _ _ _ _ _ _ _ _ _ _ _ (by exact rfl) (show bh ["worths","terms","trails","worth"] (au gq) _ ["pairs"] [2,3] ["trails","worth"]from⟨rfl,by decide+kernel,by decide+kernel,by decide+kernel,rfl,rfl,by decide+kernel,by decide+kernel,by decide+kernel⟩) (Γ K (ZG hU aQ (ι Z2))) (fun _ _ _ _ _=>(Z9 (0) (show(["pairs","trails","worth"]:List Str).Nodup by decide+kernel))) (fun _ _ _ _ _=>gX) (fun _ _ _ _ _=>(ZG gy aQ (WW Z' (WW Z2 (SV Y'))))) (by intro _;rfl))))))),?_⟩;refine⟨fun σ H1=>∃x dx e b es,σ=[sR w,sR t,sR x,none]∧av H H1∧H1 x=some (.ins aC dx (gM c.out c.into e b))∧H1 e=some (.lst (es.map V.ref))∧i_ H1 es (dF f1 c.out c.into) n m∧(0<n→∃bs,qI H1 aC x dx e b es bs f1 c.out c.into n m),?_,?_⟩
  ·refine⟨_,rfl,_,rfl,fun x dx hx E4 eQ=>?_⟩;have s5:av H (upd (upd H dx (.own x)) x (.ins aC dx [])):=(Z6 E4).eP hx;refine⟨x,dx,w,t,c,as,f1,n,m,rfl,ae,by rw[ao eQ];exact ae,s5 _ _ hw,TA.same s5,TF.keep s5,hn,hm,fun H6 e b sb Wl Te Tb=>?_⟩;obtain⟨es,he,_,TE,_⟩:=Te;refine⟨rfl,x,dx,e,b,es,rfl,SameBut.As hx E4 sb,Wl,he,TE,fun h=>?_⟩;obtain⟨bs,hb,_,Y4,_⟩:=Tb h;exact⟨bs,Wl,he,TE,hb,Y4⟩
  rintro σ H1 ⟨x,dx,e,b,es,rfl,s1,lu,A5,TE,Y5⟩;have IG:es.length=n:=TE.len;refine⟨fun σ H2=>σ=[sR w,sR t,sR x,some (bD (Io f1 c.out c.into n m))]∧av H1 H2,?_,?_⟩
  ·refine⟨_,rfl,x,aC,dx,_,_,rfl,lu,Rc.cl,Rc.kJ,ij c.out c.into e b,e,rfl,⟨_, .of A5⟩,fun D hD=>?_⟩;refine f6 (xs:=es.map V.ref) (fun k ys bB H'=>(∃u,bB=[u])∧ys=((ZR k).map fun i=>bD (oQ ((ZR m).map (dF f1 c.out c.into i))))∧H' D=some (.lst ys)∧av H1 H') ⟨⟨_,rfl⟩,rfl,ae,Z6 hD⟩ ?_ ?_ ?_
   ·rintro k ys bB H' _ ⟨_,_,_,s2⟩;exact .of (s2 _ _ A5)
   ·rintro k v ys bB H' hv ⟨⟨u,rfl⟩,rfl,r_,s2⟩;have hk:k<n:=by rw[←IG];have:=(YG hv).1;simpa using this
    obtain⟨rb,g1,g2,g3⟩:=TE.at hk;rw[hv]at g2;cases g2;refine qw ?_;refine⟨_,rfl,rb,(ZR m).map (dF f1 c.out c.into k),rfl,?_,by simpa using hm,fun Q6 s3=>?_⟩
    ·rw[s2 _ _ g3,List.map_map];rfl
    ·refine⟨s3 _ _ r_,bf (by simp;lia),⟨_,rfl⟩,?_,ae,(s2.trans s3).eP hD⟩;rw[List.range_succ,List.map_append];rfl
   ·rintro ys bB H' ⟨_,rfl,r_,s2⟩;rw[List.length_map,IG]at r_;refine⟨D,(ZR n).map fun i=>oQ ((ZR m).map (dF f1 c.out c.into i)),rfl,by rw[r_,List.map_map];rfl,by simpa using hn,fun Q6 s3=>⟨rfl,s2.trans s3⟩⟩
  rintro σ H2 ⟨rfl,s2⟩;have ur:=s1.trans s2;obtain⟨nu,dt,l,d,vs,TM,z1,z2,z3,z4⟩:=TF.keep ur;have MX:=F' IT c.out c.into;refine⟨fun σ H3=>∃W,Io f1 c.out c.into n m=some W∧c.least≤W∧σ=[sR w,sR t,sR x,sI W]∧H3=H2,?_,?_⟩
  ·refine⟨_,rfl,_,rfl,?_⟩;cases eT:Io f1 c.out c.into n m with
   |none=>
    rw[eT]at MX;refine jS ?_;refine jS ?_;exact⟨aA Vs,fun r rM=>q0 (fun ps hp=>Z1 ⟨ps,hp,rfl⟩ (MX _)) _ r (ur.trans (Z6 rM)) (ur.free rM) ae⟩
   |some W=>
    rw[eT]at MX;refine bb (fun hh=>Z1 hh (by simp[bD])) (fun _=>?_);refine⟨_,rfl,_,rfl,t,aU,dt,_,_,rfl,TM.ob,Tc.cl,Tc.least,HA nu l d,_,_,rfl,rfl,_,rfl,?_⟩;refine bb (fun hh=>?_) (fun hh=>?_)
    ·have hh:W<nu.least:=by simpa using hh
     rw[z4]at hh;exact⟨aA Vs,fun r rM=>q0 (fun ps hp=>by have:=MX.2 _ ⟨ps,hp,rfl⟩;lia) _ r (ur.trans (Z6 rM)) (ur.free rM) ae⟩
    ·have hh:¬W<nu.least:=by simpa using hh
     rw[z4]at hh;exact⟨W,rfl,by lia,rfl,rfl⟩
  rintro σ H2 ⟨W,eT,hle,rfl,rfl⟩;rw[eT]at MX;obtain⟨Wm,w0,Wn⟩:=MX.1;have TP:eZ f1 c.out c.into W:=fun ps hp=>MX.2 _ ⟨ps,hp,rfl⟩
  have Uo:0<n:=by
   obtain⟨i,j,_,hi,_⟩:=jU IT w0 (cQ w0.ne)
   lia
  obtain⟨bs,TR⟩:=Y5 Uo;have Wo:=TR.keep s2;refine⟨_,rfl,_,rfl,x,dx,e,b,es,bs,f1,c.out,c.into,n,m,W,rfl,Wo,IT,Wh,hn,hm,TP,fun H3 r us gs s3 rM xK W3 MR TD=>?_⟩;have IP:∀g∈gs,∀a∈g,∃i j:Nat,a=aR (i,j)∧i<n∧j<m:=fun g hg a ha=>by
   obtain⟨ps,wp,hm⟩:=(TD.mem hg ha).on;exact jU IT wp.1 hm
  have rG:∀g∈gs,g.length≤n*m:=fun g hg=>by
   have:=len_sub g (u7 n m) ((TD.qH g hg).imp fun{a b} h e=>by
    rw[e]at h;unfold iW at h;simp at h) fun a ha=>by
    obtain⟨i,j,rfl,hi,hj⟩:=IP g hg a ha;exact oZ hi hj
   rw[oY]at this;exact this
  have Ey:=TD.uO IP;have UB:gs≠[]:=fun z=>by
   obtain⟨i,j,h1,_⟩:=jU IT w0 (cQ w0.ne);obtain⟨g,hg,_⟩:=TD.all _ (fH.way Wm ⟨w0,Wn.symm⟩ (cQ w0.ne) (cQ w0.ne));rw[z]at hg;cases hg
  have hW:=W3.1;refine⟨r,rfl,⟨_, .of xK⟩,fun D hD=>?_⟩;refine f6 (xs:=us) (fun k ys bB H'=>(∃u,bB=[u,sR x,sI W])∧H' D=some (.lst ys)∧av H3 H'∧∃ds,cb (fun b=>H2 b=none∧b≠D) H' ay ys ds∧ds.map Fd.pairs=gs.take k∧∀d∈ds,Pk f1 c.out c.into W d) ⟨⟨_,rfl⟩,ae,Z6 hD,[], .nil,rfl,fun d h=>(by cases h)⟩ ?_ ?_ ?_
  ·rintro k ys bB H' _ ⟨_,_,s4,_⟩;exact .of (s4 _ _ xK)
  ·rintro k v ys bB H' hv ⟨⟨u,rfl⟩,Cj,s4,ds,F4,P6,bX⟩;have hk:k<gs.length:=by rw[←hW];exact(YG hv).1
   have ek:gs[k]?=some gs[k]:=by simp[hk]
   have ja:gs[k]∈gs:=List.getElem_mem hk;generalize gs[k]=g at ek ja;obtain⟨pa,Wq,k1,k2,k3⟩:=W3.2 k g ek;rw[hv]at k1;cases k1;have UC:=MR k pa hv;have P7:pa≠D:=fun z=>by rw[z,hD]at k2;cases k2
   obtain⟨gn,P8⟩:∃gn:List (Nat×Nat),g=gn.map aR:=by
    refine⟨g.map fun a=>(a.1.toNat,a.2.toNat),?_⟩;rw[List.map_map]
    conv=>lhs;rw[←List.map_id g]
    apply List.map_congr_left;intro a ha;obtain⟨i,j,rfl,_⟩:=IP g ja a ha;simp[aR]
   obtain⟨i0,j0,z5,z6,z7,z8⟩:∃i j:Nat,dF f1 c.out c.into i j=some W∧i<n∧j<m∧aR (i,j)∈g:=by
    obtain⟨a,ha⟩:=List.exists_mem_of_ne_nil _ (TD.ne g ja);obtain⟨i,j,h1,h2,h3,h4⟩:=Ds TP IT (TD.mem ja ha);exact⟨i,j,h1,h2,h3,(TD.cls g ja a ha _).mpr h4⟩
   have UD:gn.filter (fun q=>decide (dF f1 c.out c.into q.1 q.2=some W))≠[]:=fun z=>by
    rw[P8]at z8;obtain⟨q9,Y6,e9⟩:=List.mem_map.mp z8;obtain⟨Y7,Y8⟩:=iJ (a:=q9.1) (b:=q9.2) e9;have:q9∈gn.filter (fun q=>decide (dF f1 c.out c.into q.1 q.2=some W)):=List.mem_filter.mpr ⟨Y6,by rw[Y7,Y8];simpa using z5⟩;rw[z]at this;cases this
   obtain⟨uv,Gp⟩:∃q0,(gn.filter fun q=>decide (dF f1 c.out c.into q.1 q.2=some W))[0]?=some q0:=by
    cases e9:gn.filter (fun q=>decide (dF f1 c.out c.into q.1 q.2=some W))with
    |nil=>exact Z1 e9 UD
    |cons a r=>exact⟨a,rfl⟩
   have P_:=List.mem_filter.mp (ZI Gp);have UE:dF f1 c.out c.into uv.1 uv.2=some W:=by simpa using P_.2
   have Y9:=Wo.keep (s3.trans s4);refine qw ?_;refine⟨_,rfl,_,rfl,_,rfl,x,dx,e,b,es,bs,f1,c.out,c.into,n,m,W,pa,Wq,gn,uv,rfl,Y9,s4 _ _ k2,by rw[←P8];exact k3.same s4,fun q hq=>?_,Gp,hn,?_,fun H5 y dy wy rw iA s5 hy Mj D1 UG Y_ aai UH P5 UA=>?_⟩
   ·have:aR q∈g:=by rw[P8];exact List.mem_map.mpr ⟨q,hq,rfl⟩
    obtain⟨i,j,h1,h2,h3⟩:=IP g ja _ this;obtain⟨h4,h5⟩:=iJ (a:=q.1) (b:=q.2) h1
    lia
   ·have:=rG g ja;rw[P8,List.length_map]at this
    lia
   ·obtain⟨v1,v2,v3,v4⟩:=Im f1 c.out c.into uv.1 uv.1 uv.2 W ZT UE;have aaJ:=F4.1;have aaK:ds.length=k:=by
     have:=congrArg List.length P6;rw[List.length_map,List.length_take]at this
     lia
    have nD:∀{z},H' z=none→z≠D:=fun h z=>by rw[z,Cj]at h;cases h
    have UI:av H2 H':=s3.trans s4;refine⟨s5 _ _ Cj,bf Hy,⟨_,rfl⟩,ae,(s4.trans s5).eP hD,ds++[⟨W,(eF f1 c.out c.into uv.1 uv.1 uv.2).map aR,zS (lf f1) c.out c.into ((eF f1 c.out c.into uv.1 uv.1 uv.2).map aR),g⟩],?_,?_,fun d hd=>?_⟩
    ·refine cb.append (F4.keep (fun b o hb e=>by rw[ao hb.2];exact s5 _ _ e) (fun a v e=>by rw[ao (fun z=>by rw[z,Cj]at e;cases e)];exact s5 _ _ e) fun _ h=>h) ⟨rfl,fun k9 d9 e9=>?_⟩;have Zb:k9=0:=by
      have:=(YG e9).1;simp at this
      lia
     subst Zb;have e9:=(ZO e9).symm;subst e9;have T5:c_ H5 (upd H5 D (.lst (ys++[.ref y]))):=c_.lst (s5 _ _ Cj);refine⟨y,dy,wy,rw,pa,iA,Wq,rfl,⟨by rw[ao (nD hy)];exact Y_,by rw[ao (nD D1)];exact UH,P5.cD T5,?_,by rw[ao P7];exact s5 _ _ (s4 _ _ k2),((k3.same s4).same s5).cD T5,⟨UI.free hy,nD hy⟩,⟨UI.free D1,nD D1⟩,⟨UI.free UG,nD UG⟩,⟨UC,P7⟩⟩⟩;rw[ao (nD UG),UA]
     congr 2
     have:=congrArg (List.map bD) v4;rw[List.map_map,List.map_map]at this;exact this
    ·rw[List.map_append,P6,List.take_succ,ek];rfl
    ·rcases List.mem_append.mp hd with hd|hd
     ·exact bX d hd
     ·have:d=⟨W,(eF f1 c.out c.into uv.1 uv.1 uv.2).map aR,zS (lf f1) c.out c.into ((eF f1 c.out c.into uv.1 uv.1 uv.2).map aR),g⟩:=by simpa using hd
      subst this;refine⟨rfl,⟨v1,v3⟩,rfl,fun q hq=>?_⟩;have PY:aR uv∈g:=by rw[P8];exact List.mem_map.mpr ⟨_,P_.1,rfl⟩
      have v2:lstP ((eF f1 c.out c.into uv.1 uv.1 uv.2).map aR)=aR uv:=v2;exact(TD.cls g ja _ PY q).mpr (.way _ ⟨v1,v3⟩ (by rw[←v2];exact cQ v1.ne) hq)
  ·rintro ys bB H' ⟨_,Cj,s4,ds,F4,P6,bX⟩;rw[hW,List.take_length]at P6;have sA:=ur.trans (s3.trans s4);exact q1 W gs ds ⟨TP,⟨Wm,w0,Wn.symm⟩,hle,TD,P6,bX⟩ UB _ D ys sA ((ur.trans s3).free hD) Cj (F4.keep (fun _ _ _ h=>h) (fun _ _ h=>h) fun b hb=>ur.free hb.1)
theorem hV:aL ["worths","findings","finding","i","j"] ["worths","findings"] (au kN):=⟨rfl,rfl,rfl,by decide+kernel,rfl,by decide+kernel,by decide+kernel⟩
include T Fc in
theorem vf{f:Addr}{fd:FuncData}(F:ju K "shut_pairs" "shut_pairs" kN f fd):a7 P w K mg base (cX P w) true 1 f fd ["worths","findings"] (t9 ay):=by
 refine F.gL hV ZH (fun bU A outer s H vs Q E hr h hX=>?_)
 ·obtain⟨w,md,as,us,ds,f,n,m,rfl,_⟩:=h;rfl
 ·obtain⟨w,md,as,us,ds,f1,n,m,rfl,hw,O7,nw,TA,Wr,Zc,FL,lJ,q⟩:=h;refine⟨_,(X9 (Za hX.own (Γ K Z') (Z9 (2) hV.nd) (X9 (Za hX.own (Γ K (Ξ K Z2)) (ζ K (2) (by exact rfl) (Z_ (Z9 (3) hV.nd) (Z_ (Z9 (4) hV.nd) fq))) (X9 (@zX _ _ _ _ _ _ jR (@Kv _ _ _ _ _ _ _ (YF Y' (pv 3)) (pv 4) set_list (by intro _;rfl)) (Z5) (Z5) (Z5))))))),?_⟩;have rows:∀a∈as,∃xs,H a=some (.lst xs):=fun a ha=>by
   obtain⟨k,hk,ek⟩:=List.mem_iff_getElem.mp ha;exact⟨_,TA.row k a (by rw[Χ hk,ek])⟩
  have cD:∀H',(∀b o,b∉as→H b=some o→H' b=some o)→c_ H H':=fun H' k t v e=>k t _ (fun z=>by
   obtain⟨xs,h⟩:=rows t z;rw[e]at h;cases h) e
  have hlen:=FL.1;refine⟨_,rfl,md,rfl,⟨_, .of Wr⟩,?_⟩;refine bM (xs:=us) (fun k σ H1=>(∃u1 u2 u3,σ=[sR w,sR md,u1,u2,u3])∧(∀b o,b∉as→H b=some o→H1 b=some o)∧i_ H1 as (ka f1 ((ds.take k).map Fd.pairs).flatten) n m) ⟨⟨_,_,_,rfl⟩,fun _ _ _ h=>h,TA⟩ ?_ ?_ ?_
  ·rintro k σ H1 _ ⟨_,k1,_⟩;exact .of (k1 _ _ Zc Wr)
  ·rintro k v σ H1 hv ⟨⟨u1,u2,u3,rfl⟩,k1,T1⟩;have hk:k<ds.length:=by rw[←hlen];exact(YG hv).1
   have ek:ds[k]?=some ds[k]:=by simp[hk]
   have ja:ds[k]∈ds:=List.getElem_mem hk;generalize ds[k]=d at ek ja;obtain⟨a,dy,wy,iD,pr,lz,iA,e1,F⟩:=FL.2 k d ek;rw[hv]at e1;cases e1;have uW:=F.pp.1;have et:((ds.take (k+1)).map Fd.pairs).flatten=((ds.take k).map Fd.pairs).flatten++d.pairs:=by
    rw[List.take_succ,ek,List.map_append,List.flatten_append];simp
   refine⟨_,rfl,a,ay,dy,_,_,rfl,k1 _ _ F.fa F.ob,Fc.cl,Fc.pairs,ik d.worth wy iD pr,pr,rfl,⟨_, .of (k1 _ _ F.fp F.hp)⟩,?_⟩;refine bM (xs:=iA) (fun l σ H2=>(∃u2 u3,σ=[sR w,sR md,sR a,u2,u3])∧(∀b o,b∉as→H b=some o→H2 b=some o)∧i_ H2 as (ka f1 (((ds.take k).map Fd.pairs).flatten++d.pairs.take l)) n m) ⟨⟨_,_,rfl⟩,k1,by simpa using T1⟩ ?_ ?_ ?_
   ·rintro l σ H2 _ ⟨_,k2,_⟩;exact .of (k2 _ _ F.fp F.hp)
   ·rintro l v σ H2 Mn ⟨⟨v2,v3,rfl⟩,k2,T2⟩;have hl:l<d.pairs.length:=by rw[←uW];exact(YG Mn).1
    have el:d.pairs[l]?=some d.pairs[l]:=by simp[hl]
    have hq:=lJ d ja d.pairs[l] (List.getElem_mem hl);generalize d.pairs[l]=g at el hq;obtain⟨i,j,rfl,hi,hj⟩:=hq;obtain⟨t,g1,g2⟩:=F.pp.2 l _ el;rw[Mn]at g1;cases g1;have kt:=cD H2 k2 _ _ g2;refine⟨t,_,rfl, .of kt,rfl,_,_,rfl,_,_,rfl,rfl,?_⟩;obtain⟨ra,r1,r2,r3⟩:=T2.at hi;have Rj:ra∈as:=ZI r1;refine⟨_,rfl,_,rfl,w,_,_,_,rfl,rfl, .of (k2 _ _ nw hw),ar r2,_,rfl,ra,_,_,j,rfl,rfl,r3,HE (by rw[dj];exact hj),⟨_,_,rfl⟩,fun b o hb e=>?_,⟨T2.len,fun x b hb=>?_⟩⟩
    ·rw[ao (fun z=>hb (by rw[z];exact Rj))];exact k2 b o hb e
    ·have Ws:d.pairs.take (l+1)=d.pairs.take l++[aR (i,j)]:=by rw[List.take_succ,el];rfl
     by_cases e:b=ra
     ·have ex:x=i:=by
       obtain⟨h1,e1⟩:=YG hb;obtain⟨h2,e2⟩:=YG r1;exact(List.getElem_inj O7).mp (by rw[e1,e2,e])
      subst ex e;rw[ae];show some (HO.lst ((dh m _).set j (bD none)))=_;rw[E_]
      congr 2
      unfold dh;apply List.map_congr_left;intro y _;unfold ka;rw[Ws,←List.append_assoc]
      congr 1
      dsimp only;by_cases ey:y=j
      ·subst ey;rw[if_pos rfl,if_pos Vs]
      ·rw[Je ey];have:¬aR (x,y)=aR (x,j):=fun z=>ey (iJ z).2
       simp[this]
     ·rw[ao e,T2.row x b hb]
      congr 2
      unfold dh;apply List.map_congr_left;intro y _;unfold ka;rw[Ws,←List.append_assoc];have:¬aR (x,y)=aR (i,j):=fun z=>by
       have hk:=(iJ z).1;subst hk;rw[r1]at hb;exact e (ZO hb).symm
      simp[this]
   ·rintro σ H2 ⟨⟨v2,v3,rfl⟩,k2,T2⟩;rw[uW,List.take_length]at T2;exact⟨⟨_,_,_,rfl⟩,k2,by rw[et];exact T2⟩
  ·rintro σ H1 ⟨_,k1,T1⟩;rw[hlen,List.take_length]at T1;exact q H1 k1 (cD H1 k1) T1
variable(d_:Ef mg "FINDINGS_MOST" (.int 20))
variable(hZ:bK P w K mg base true 2 "open_worths" ["first","second","terms","taken"] (t8 aU))
variable(gz:bK P w K mg base true 7 "make_round" ["worths","terms"] (o6 aU ay))
variable(iQ:bK P w K mg base true 1 "shut_pairs" ["worths","findings"] (t9 ay))
variable(kX:bK P w K mg base true 1 "order_of" ["finding"] (tU ay))
variable(ki:Er K mg "TooMany" kc)
theorem jh:aL ["first","second","terms","worths","findings","made"] ["first","second","terms"] (au qS):=⟨rfl,rfl,rfl,by decide+kernel,rfl,by decide+kernel,by decide+kernel⟩
include T jg d_ hZ gz iQ kX ki in
theorem A8{f:Addr}{fd:FuncData}(F:ju K "compare" "compare" qS f fd):a7 P w K mg base (cX P w) true 8 f fd ["first","second","terms"] (xE aU ay kc):=by
 refine F.gL jh ZH (fun bU A outer s H vs Q E hr h hX=>?_)
 ·obtain⟨a,b,t,c,rfl,_⟩:=h;rfl
 ·obtain⟨a,b,t,c,rfl,ha,hb,TF,hx,hy,q1,q2⟩:=h;refine⟨_,(Z0 (YL (3) jh.nd (ZG hZ aQ (WW Y' (WW Z' (WW Z2 (SV jR)))))) (Z0 (YL (4) jh.nd (ZW ai)) (Z0 (YL (5) jh.nd (ZG gz aQ (WW (pv 3) (SV Z2)))) (Z0 (@sX _ _ _ _ _ _ hX.own (ZQ rE (Ε (aK K) T.cY (SV (pv 5))) af (aV _)) (Z0 (ZY (Ω K PySem.F.slot_list_extend PySem.F.type_list_extend vU (pv 4) (SV (pv 5)))) (Z0 (ZX (ZQ rE (Ε (aK K) T.cY (SV (pv 4))) (θ d_) (aV _)) (X9 (@i8 _ _ _ _ _ _ _ _ _ _ hX Η (by exact rfl) ki.m ki.e (SV (@mn _ _ _ _ _ _ (@fu _ _ _ _ _ bY (@fu _ _ _ _ _ (@qv _ _ _ _ (θ d_)) (@fu _ _ _ _ _ bY w6))))) (WV) (Z5) (Z5))) aP) (Z0 (ZY (ZG iQ aQ (WW (pv 3) (SV (pv 5))))) (X9 (YL (5) jh.nd (ZG gz aQ (WW (pv 3) (SV Z2))))))))) (X9 (ZJ (@FH _ K _ _ _ _ _ _ _ _ _ _ _ kX (hr.mono (WV)) (pv 4) (by exact rfl) jg (Z5) (WV) (Z5) (Z5)))))))),?_⟩;have AB:c.xs.length*c.ys.length≤3000:=Nat.le_trans (Nat.mul_le_mul hx hy) (WV);have UJ:=Ln c [];refine⟨fun σ H1=>∃w as,σ=[sR a,sR b,sR t,sR w,none,none]∧av H H1∧H1 w=some (.lst (as.map V.ref))∧i_ H1 as (iH c []) c.xs.length c.ys.length∧as.Nodup∧w∉as∧∀a∈as,H a=none,?_,?_⟩
  ·exact⟨_,rfl,_,rfl,_,rfl,a,b,t, .cL,c,[],rfl,ha,hb,TF, .inl ⟨rfl,rfl⟩,XC,by lia,by lia,fun H1 w as s1 h1 _ h3 h4 h5 h6=>⟨w,as,rfl,s1,h1,h3,h4,h5,h6⟩⟩
  rintro σ H1 ⟨w,as,rfl,s1,sf,UK,O7,nw,has⟩;refine⟨fun σ H2=>∃fl,σ=[sR a,sR b,sR t,sR w,sR fl,none]∧av H1 H2∧H1 fl=none∧H2 fl=some (.lst []),⟨aA Vs,fun fl h=>⟨fl,rfl,Z6 h,h,ae⟩⟩,?_⟩;rintro σ H2 ⟨fl,rfl,s2,Mo,Qa⟩;have alloc:∀x∈as,∃xs,H1 x=some (.lst xs):=fun x hx=>by
   obtain⟨k,hk,ek⟩:=List.mem_iff_getElem.mp hx;exact⟨_,UK.row k x (by rw[Χ hk,ek])⟩
  have Wt:fl∉as:=fun z=>by
   obtain⟨xs,h⟩:=alloc fl z;rw[Mo]at h;cases h
  have IQ:w≠fl:=aF sf Mo;have rd:∀f H3,(∀x∈as,∃xs,H3 x=some (.lst xs))→H3 w=some (.lst (as.map V.ref))→i_ H3 as f c.xs.length c.ys.length→av H H3→∀done,Reach (iH c []) c.out c.into c.least done f→∀(Q':VK)(E':XK),(∀H4 r,av H3 H4→H3 r=none→∀us ds,H4 r=some (.lst us)→cb (fun b=>H3 b=none) H4 ay us ds→((us=[]∧ds=[]∧Stop f c.out c.into c.least)∨(us≠[]∧∃W gs,jA f c.out c.into c.least W gs ds))→Q' (.ref r) H4)→o6 aU ay [.ref w, .ref t] H3 Q' E':=fun f H3 al h3 T3 s3 done RC Q' E' k=>by
   refine⟨w,t,as,c,f,_,_,rfl,h3,T3,TF.keep s3,RC.Ua UJ,AB,by lia,by lia,fun st H4 r s4 h4 h5=>k H4 r s4 h4 [] [] h5 .nil (.inl ⟨rfl,rfl,st⟩),fun W gs ds R UB H4 r us s4 h4 h5 FL=>k H4 r s4 h4 us ds h5 FL (.inr ⟨fun z=>UB ?_,W,gs,R⟩)⟩;have:=FL.1;rw[z]at this;have:ds=[]:=List.length_eq_zero_iff.mp (by simpa using this.symm);rw[←R.F9,this];rfl
  have aaI:∀b o,b∉as→b≠fl→H1 b=some o→H2 b=some o:=fun b o _ _ e=>s2 b o e
  have Nn:=s1.trans s2;refine⟨fun σ H3=>∃md us ds,σ=[sR a,sR b,sR t,sR w,sR fl,sR md]∧av H2 H3∧H2 md=none∧H3 md=some (.lst us)∧cb (fun b=>H2 b=none) H3 ay us ds∧((us=[]∧ds=[]∧Stop (iH c []) c.out c.into c.least)∨(us≠[]∧∃W gs,jA (iH c []) c.out c.into c.least W gs ds)),?_,?_⟩
  ·exact⟨_,rfl,_,rfl,rd _ H2 (fun x hx=>let ⟨xs,h⟩:=alloc x hx;⟨xs,s2 _ _ h⟩) (s2 _ _ sf) (UK.same s2) Nn [] .start _ _ fun H4 r s4 h4 us ds h5 FL z=>⟨r,us,ds,rfl,s4,h4,h5,FL,z⟩⟩
  rintro σ H3 ⟨md,us,ds,rfl,s3,IS,UL,Zd,Z3⟩;refine⟨fun σ H5=>∃md ul es f,σ=[sR a,sR b,sR t,sR w,sR fl,sR md]∧av H H5∧H5 fl=some (.lst ul)∧cb (fun b=>H2 b=none) H5 ay ul es∧Reach (iH c []) c.out c.into c.least es f∧Stop f c.out c.into c.least∧es.length≤20,?_,?_⟩
  ·refine⟨fun mm σ H4=>∃md us ds ul es f,mm+es.length=20∧σ=[sR a,sR b,sR t,sR w,sR fl,sR md]∧av H H4∧(∀b o,b∉as→b≠fl→H2 b=some o→H4 b=some o)∧i_ H4 as f c.xs.length c.ys.length∧H4 fl=some (.lst ul)∧cb (fun b=>H2 b=none) H4 ay ul es∧Reach (iH c []) c.out c.into c.least es f∧H2 md=none∧H4 md=some (.lst us)∧cb (fun b=>H2 b=none) H4 ay us ds∧((us=[]∧ds=[]∧Stop f c.out c.into c.least)∨(us≠[]∧∃W gs,jA f c.out c.into c.least W gs ds)),⟨20,md,us,ds,[],[],iH c [],rfl,rfl,Nn.trans s3,fun b o _ _ e=>s3 b o e,(UK.same s2).same s3,s3 _ _ Qa, .nil, .start,IS,UL,Zd,Z3⟩,?_⟩;rintro mm σ H4 ⟨md,us,ds,ul,es,f1,aap,rfl,sH,k4,T4,IU,FE,RC,IS,Mp,FD,Z4⟩;have Ze:∀x∈as,∃xs,H2 x=some (.lst xs):=fun x hx=>let ⟨xs,h⟩:=alloc x hx;⟨xs,s2 _ _ h⟩
   have P2:∀{b},H2 b=none→b∉as:=fun{b} h z=>by
    obtain⟨xs,h'⟩:=Ze b z;rw[h]at h';cases h'
   have UM:∀{b},H2 b=none→b≠fl:=fun{b} h z=>by rw[z,Qa]at h;cases h
   have RF:=FE.1;have hlD:=FD.1;refine⟨_,rfl,md,_,rfl, .inl (.of Mp),_,_,rfl,rfl,_,rfl,?_⟩;refine bb (fun hh=>?_) (fun hh=>?_)
   ·have hh:0<us.length:=by simpa using hh
    rcases Z4 with⟨z1,_,_⟩|⟨Wv,W,gs,R⟩
    ·rw[z1]at hh;simp at hh
    have Ro:ds.length≤c.xs.length*c.ys.length:=by
     have:=R.told.uO (n:=c.xs.length) (m:=c.ys.length) fun g hg q hq=>by
      obtain⟨ps,wp,hm⟩:=(R.told.mem hg hq).on;exact jU (RC.Ua UJ) wp.1 hm
     rw[←R.F9,List.length_map]at this;exact this
    refine⟨_,fun bB H' z=>z,?_⟩;have Zf:md≠fl:=UM IS;refine⟨fun σ H5=>σ=[sR a,sR b,sR t,sR w,sR fl,sR md]∧H5=upd H4 fl (.lst (ul++us)),⟨_,rfl, .inl ⟨rfl,_, .of IU⟩,_,rfl,fl,md,ul,us,rfl,rfl,IU,Mp,aA Hy,rfl,rfl⟩,?_⟩;rintro σ H5 ⟨rfl,rfl⟩;have Ww:av H (upd H4 fl (.lst (ul++us))):=sH.eP (s1.free Mo);have Wx:c_ H4 (upd H4 fl (.lst (ul++us))):=c_.lst IU;have Zg:cb (fun b=>H2 b=none) (upd H4 fl (.lst (ul++us))) ay ul es:=FE.keep (fun b o hb e=>by rw[ao (UM hb)];exact e) Wx fun _ h=>h
    have Wz:cb (fun b=>H2 b=none) (upd H4 fl (.lst (ul++us))) ay us ds:=FD.keep (fun b o hb e=>by rw[ao (UM hb)];exact e) Wx fun _ h=>h
    have UN:=RC.round R;refine⟨fun σ H6=>σ=[sR a,sR b,sR t,sR w,sR fl,sR md]∧H6=upd H4 fl (.lst (ul++us))∧(es++ds).length≤20,?_,?_⟩
    ·refine⟨_,rfl,fl,_,rfl, .inl (.of ae),_,_,rfl,rfl,_,rfl,?_⟩;refine bb (fun h9=>?_) (fun h9=>?_)
     ·have h9:20<(ul++us).length:=by
       have:(20:Int)<((ul++us).length:Nat):=by simpa using h9
       lia
      have:=q2 _ _ UN (by rw[List.length_append]at h9⊢;lia) _ Ww;have z:(20:Int).natAbs.log2<1920∧(Str.ofString (toString (20:Int))).length≤6:=⟨WV,by decide+kernel⟩
      have w1:(Str.ofString "there are at most ").length=18:=by decide+kernel
      have w2:(Str.ofString " findings between two books").length=27:=by decide+kernel
      have w3:=mw;refine⟨_,rfl,aA ?_, .inr ⟨20,rfl,z.1,_,rfl,aA ?_,_,rfl,aA ?_,aA ?_,ig,this⟩⟩;all_goals (simp only[len_app];lia)
     ·have h9:¬20<(ul++us).length:=by
       have:¬(20:Int)<((ul++us).length:Nat):=by simpa using h9
       lia
      exact⟨rfl,rfl,by rw[List.length_append]at h9⊢;lia⟩
    rintro σ H6 ⟨rfl,rfl,hle⟩;refine⟨fun σ H7=>σ=[sR a,sR b,sR t,sR w,sR fl,sR md]∧(∀b o,b∉as→upd H4 fl (.lst (ul++us)) b=some o→H7 b=some o)∧c_ (upd H4 fl (.lst (ul++us))) H7∧i_ H7 as (ka f1 gs.flatten) c.xs.length c.ys.length,?_,?_⟩
    ·refine⟨_,rfl,_,rfl,w,md,as,us,ds,f1,_,_,rfl,by rw[ao IQ];exact k4 _ _ nw IQ (s2 _ _ sf),O7,nw,⟨T4.len,fun i x hx=>by rw[ao (fun z=>Wt (by rw[←z];exact ZI hx))];exact T4.row i x hx⟩,by rw[ao Zf];exact Mp,P2 IS,Wz.keep (fun _ _ _ h=>h) (fun _ _ h=>h) (fun _ h=>P2 h),fun d hd q hq=>?_,fun H7 k7 t7 T7=>⟨rfl,k7,t7,by rw[←R.F9];exact T7⟩⟩;have hg:d.pairs∈gs:=by rw[←R.F9];exact List.mem_map.mpr ⟨d,hd,rfl⟩
     obtain⟨ps,wp,hm⟩:=(R.told.mem hg hq).on;exact jU (RC.Ua UJ) wp.1 hm
    rintro σ H7 ⟨rfl,k7,t7,T7⟩;have WA:av H H7:=fun b o e=>k7 b o (fun z=>by rw[has b z]at e;cases e) (Ww b o e)
    have WB:∀x∈as,∃xs,H7 x=some (.lst xs):=fun x hx=>by
     obtain⟨k,hk,ek⟩:=List.mem_iff_getElem.mp hx;exact⟨_,T7.row k x (by rw[Χ hk,ek])⟩
    have w7:H7 w=some (.lst (as.map V.ref)):=k7 w _ nw (by rw[ao IQ];exact k4 _ _ nw IQ (s2 _ _ sf));have F7:cb (fun b=>H2 b=none) H7 ay (ul++us) (es++ds):=(Zg.append Wz).keep (fun b o hb e=>k7 b o (P2 hb) e) t7 fun _ h=>h
    have WC:H7 fl=some (.lst (ul++us)):=k7 fl _ Wt ae;refine⟨_,rfl,_,rfl,rd _ H7 WB w7 T7 WA _ UN _ _ fun H8 r s8 h8 Zh Zi Zj Zk Z8=>?_⟩;have WD:∀b,H7 b=none→H2 b=none:=fun b h=>by
     cases e:H2 b with
     |none=>rfl
     |some o=>
      by_cases UO:b∈as
      ·obtain⟨xs,h'⟩:=WB b UO;rw[h]at h';cases h'
      ·by_cases Qb:b=fl
       ·rw[Qb,WC]at h;cases h
       ·rw[k7 b o UO (by rw[ao Qb];exact k4 b o UO Qb e)]at h;cases h
    refine⟨20-(es++ds).length,?_,r,Zh,Zi,ul++us,es++ds,_,by lia,rfl,WA.trans s8,fun b o h1 h2 e=>s8 b o (k7 b o h1 (by rw[ao h2];exact k4 b o h1 h2 e)),T7.same s8,s8 _ _ WC,F7.keep (fun b o _ e=>s8 b o e) (c_.same s8) fun _ h=>h,UN,WD r h8,Zj,Zk.keep (fun _ _ _ h=>h) (fun _ _ h=>h) fun b h=>WD b h,Z8⟩;rw[List.length_append]at hle⊢
    lia
   ·have hh:us.length=0:=by
     have:¬(0:Int)<(us.length:Nat):=by simpa using hh
     lia
    rcases Z4 with⟨_,_,z3⟩|⟨Wv,_⟩
    ·exact⟨md,ul,es,f1,rfl,sH,IU,FE,RC,z3,by lia⟩
    ·exact Z1 (List.length_eq_zero_iff.mp hh) Wv
  rintro σ H5 ⟨md,ul,es,f1,rfl,sH,UP,FE,RC,ST,hle⟩;have RF:=FE.1;have AP:=RC.apart;have Qc:∀d∈es,jm d.pairs∈d.pairs:=fun d hd=>by
   cases e:d.pairs with
   |nil=>exact Z1 e (AP.qH d hd).2
   |cons a r=>simp[jm]
  refine⟨_,rfl,fl,ul,es.map (fun d=>(-d.worth,jm d.pairs)),rfl, .of UP,by rw[List.length_map];lia,?_,by lia,fun i v H6 hv s6=>?_,fun p H6 D hp hs s6 hD P0=>?_⟩
  ·refine List.pairwise_map.mpr (List.Pairwise.imp_of_mem (fun{x y} hx hy AB e=>?_) AP.ap);have:=(Prod.mk.inj e).2;exact AB _ (Qc x hx) (by rw[this];exact Qc y hy)
  ·have hi:i<es.length:=by rw[←RF];exact(YG hv).1
   have ei:es[i]?=some es[i]:=by simp[hi]
   have ja:es[i]∈es:=List.getElem_mem hi;have eg:(es.map fun d=>(-d.worth,jm d.pairs)).getD i (0,(0,0))=(-es[i].worth,jm es[i].pairs):=by simp[hi]
   rw[eg];generalize es[i]=d at ei ja;obtain⟨x,dy,wy,iD,pr,lz,iA,e1,F⟩:=FE.2 i d ei;rw[hv]at e1;cases e1;exact⟨x,dy,wy,iD,pr,d.worth,iA,d.pairs,rfl,s6 _ _ F.ob,s6 _ _ F.hp,F.pp.same s6,(AP.qH d ja).2,fun H7 k t s7 hk ht=>⟨s7,k,t,rfl,hk,ht⟩⟩
  ·have rG:p.toList.Perm (ZR es.length):=by rw[←RF];exact hp
   have Mq:∀i∈p.toList,i<es.length:=fun i hi=>by simpa using rG.mem_iff.mp hi
   have dflt:Fd:=⟨0,[],[],[]⟩
   refine q1 (p.toList.map fun i=>es.getD i dflt) ⟨⟨es,f1,RC,ST,?_⟩,?_,?_⟩ _ D _ ((sH.trans s6).eP (sH.free hD)) (sH.free hD) ae ?_
   ·have e1:(ZR es.length).map (fun i=>es.getD i dflt)=es:=by
     apply List.ext_getElem
     ·simp
     ·intro i h1 h2;simp[h2]
    have:=rG.map fun i=>es.getD i dflt
    rw[e1]at this;exact this
   ·rw[List.length_map,rG.length_eq,List.length_range];exact hle
   ·rw[List.pairwise_map,List.pairwise_iff_getElem];intro i j hi hj uQ;have hsz:p.size=es.length:=by have:=rG.length_eq;simpa using this
    have:=hs i j uQ (by rw[RF,←hsz];simpa using hj);have g1:gd p i=p.toList[i]:=by rw[Ff];simp at hi;simp[hi]
    have g2:gd p j=p.toList[j]:=by rw[Ff];simp at hj;simp[hj]
    rw[g1,g2]at this;have l1:=Mq _ (List.getElem_mem hi);have l2:=Mq _ (List.getElem_mem hj);generalize p.toList[i]=x at this l1;generalize p.toList[j]=y at this l2;unfold kl zP at this;unfold Mb;simp only[List.getD_eq_getElem?_getD,List.getElem?_map,Χ l1,Χ l2,Option.map_some,Option.getD_some]at this⊢;by_cases ew:es[x].worth=es[y].worth
    ·rw[MJ ew];rw[MJ (by rw[ew])]at this;exact this
    ·rw[Je ew];rw[Je (fun z=>ew Hy)]at this;simp at this⊢
     lia
   ·refine⟨XC,fun k d hk=>?_⟩;rw[List.getElem?_map]at hk;cases e:p.toList[k]? with
    |none=>rw[e]at hk;cases hk
    |some i=>
     rw[e]at hk;have hi:=Mq i (ZI e);have hd:es.getD i dflt=d:=by simpa using hk
     have ei:es[i]?=some d:=by rw[←hd];simp[hi]
     obtain⟨x,dy,wy,iD,pr,lz,iA,e1,F⟩:=FE.2 i d ei;have nD:∀{b o},H5 b=some o→b≠D:=fun h z=>by rw[z,hD]at h;cases h
     refine⟨x,dy,wy,iD,pr,lz,iA,?_,F.ob|>fun h=>⟨by rw[ao (nD h)];exact s6 _ _ h,by rw[ao (nD F.hw)];exact s6 _ _ F.hw,(F.pw.same s6).same (Z6 P0),by rw[ao (nD F.hr)];exact s6 _ _ F.hr,by rw[ao (nD F.hp)];exact s6 _ _ F.hp,(F.pp.same s6).same (Z6 P0),Nn.free F.fa,Nn.free F.fw,Nn.free F.fr,Nn.free F.fp⟩⟩;rw[List.getElem?_map,e];show some (ul.getD i .cL)=_;simp[e1]
theorem A9:aL ["_law_script","_law_k"] ["_law_script","_law_k"] (au qT):=⟨rfl,rfl,rfl,by decide+kernel,rfl,by decide+kernel,by decide+kernel⟩
include T in
theorem A_{f:Addr}{fd:FuncData}(F:ju K "_law_at" "_law_at" qT f fd):a7 P w K mg base (cX P w) true 1 f fd ["_law_script","_law_k"] (EM K):=by
 refine F.gL A9 ZH (fun bU A outer s H vs Q E hr h hX=>?_)
 ·obtain⟨a,ns,k,rfl,_⟩:=h;rfl
 ·obtain⟨a,ns,k,rfl,hS,h0,q⟩:=h;refine⟨_,(Xm (ZX (ZQ mV Z' (Ε (aK K) T.cY (SV Y')) (aV _)) (X9 (ZJ (YF Y' (pv 1)))) aP) (X9 (ZJ af))),?_⟩;refine⟨_,rfl,_,rfl,a,_,rfl, .inl hS,_,_,rfl,rfl,_,rfl,?_⟩;refine bb (fun h=>?_) (fun h=>?_)
  ·have h:k<((ns.map V.int).length:Int):=by simpa using h
   rw[List.length_map]at h;exact⟨_,rfl,_,rfl,a,_,k,_,rfl,rfl,hS,Hz h0 h,q⟩
  ·have h:¬k<((ns.map V.int).length:Int):=by simpa using h
   rw[List.length_map]at h;rw[cell_out h0 h]at q;exact q
theorem vh:aL ["_law_found"] ["_law_found"] (au kO):=⟨rfl,rfl,rfl,by decide+kernel,rfl,by decide+kernel,by decide+kernel⟩
include T in
theorem vi{f:Addr}{fd:FuncData}(F:ju K "_law_whole" "_law_whole" kO f fd):a7 P w K mg base (cX P w) true 1 f fd ["_law_found"] tH:=by
 refine F.gL vh ZH (fun bU A outer s H vs Q E hr h hX=>?_)
 ·obtain⟨i,rfl,_⟩:=h;rfl
 ·obtain⟨i,rfl,q⟩:=h;refine⟨_,(X9 (ZJ (@wJ _ _ _ _ _ _ _ (ε (f7 K) T.cZ PyProof.Rows.Boot.«isinstance» (WW Y' (SV (@jr _ _ (.ty "int") _ _ (by exact rfl) T.BF PyProof.Rows.Boot.«int» Η (WV) (WV))))) (@wI _ _ _ _ _ (@Kq _ _ _ _ (ε (f7 K) T.cZ PyProof.Rows.Boot.«isinstance» (WW Y' (SV (@jr _ _ (.ty "bool") _ _ (by exact rfl) T.Lc PyProof.Rows.Boot.«bool» Η (WV) (WV)))))))))),?_⟩;refine⟨_,rfl,_,_,_,true,_,rfl,rfl, .int i,rfl,_,rfl,?_⟩;refine jS ?_;exact⟨_,rfl,_,_,_,false,_,rfl,rfl, .int i,by kernel_rfl,_,rfl,q⟩
theorem bF:aL ["_law_cell","_law_other","_law_many","_law_letters","_law_stem","_law_rest","_law_k","_law_size","_law_found","_law_spot","_law_sign"] ["_law_cell","_law_other","_law_many"] (au lU):=⟨rfl,rfl,rfl,by decide+kernel,rfl,by decide+kernel,by decide+kernel⟩
include T in
theorem xM{f:Addr}{fd:FuncData}(F:ju K "_law_bank" "_law_bank" lU f fd):a7 P w K mg base (cX P w) true 1 f fd ["_law_cell","_law_other","_law_many"] ug:=by
 refine F.gL bF ZH (fun bU A outer s H vs Q E hr h hX=>?_)
 ·obtain⟨cell,other,many,rfl,_⟩:=h;rfl
 ·obtain⟨cell,other,many,rfl,UQ,hm,q⟩:=h;have l26:=HC;have WE:(0:Int)<26:=WV;have WG:(0:Int)<12:=WV;refine⟨_,(Xm (YL (3) bF.nd bY) (Xm (YL (4) bF.nd bY) (Xm (YL (5) bF.nd (Xb dU Y' af)) (Xm (Za hX.own (@eh _ _ _ _ _ _ (by exact rfl) T.fN (SV af) (Z5)) (Z9 (6) bF.nd) (Xm (YL (4) bF.nd (Xb ny (pv 4) (Ζ Eu (pv 3) (Xb bH (pv 5) af)))) (X9 (YL (5) bF.nd (Xb dU (pv 5) af))))) (Xm (YL (7) bF.nd (Xb br af (Xb bH (Xb dU Y' af) af))) (Xm (YL (8) bF.nd (ZW ai)) (Xm (Za hX.own (@eh _ _ _ _ _ _ (by exact rfl) T.fN (SV Z2) (Z5)) (Z9 (6) bF.nd) (X9 (ZX (ZQ jt (Xb bH Y' af) af (aV _)) (X9 (ZY (Ω K PySem.F.slot_list_append PySem.F.type_list_append bT (pv 8) (SV (@oE _ _ _ _ _ _ _ _ _ _ An (pv 4) wQ (@oC _ _ _ (Xb br af (Xb bH (Xb br (pv 7) (pv 6)) af)))))))) (Xm (YL (9) bF.nd (Xb bH Z' (pv 7))) (Xm (YL (10) bF.nd (Ζ Eu (pv 3) (Xb bH (Xb br (Xb dU Z' af) (pv 6)) af))) (X9 (ZY (Ω K PySem.F.slot_list_append PySem.F.type_list_append bT (pv 8) (SV (Xb ny (Xb ny (@oE _ _ _ _ _ _ _ _ _ _ An (pv 4) wQ (@oC _ _ _ (pv 9))) (pv 10)) (@oE _ _ _ _ _ _ _ _ _ _ An (pv 4) (@oC _ _ _ (Xb br (pv 9) af)) (@oC _ _ _ (pv 7))))))))))))) (X9 (ZJ (pv 8)))))))))),?_⟩;refine⟨_,rfl,_,_,rfl,rfl,⟨WV,WV⟩,?_⟩;refine⟨12,rfl,WV,WV,?_⟩;refine ft (fun i σ H'=>H'=H∧∃(bQ:Str)(rest:Int)(kv:Option V),uf i (cell/24)=(bQ,rest)∧bQ.length=i∧lows bQ∧σ=[sI cell,sI other,sI many,sS OM,sS bQ,sI rest,kv,none,none,none,none]) ⟨rfl,_,_,_,rfl,(by decide+kernel),(show(Str.ofString "").cps.toList.all low=true by decide+kernel),rfl⟩ ?_ ?_
  ·rintro i σ H' hi ⟨rfl,bQ,rest,kv,he,hl,Mr,rfl⟩;have hi:i<12:=hi;refine⟨_,rfl,_,rfl,_,rfl,_,_,rfl,rfl,WE,_,_,_,rfl,rfl,aA Hy,EV,_,_,rfl,rfl,aA (show bQ.length+1≤100000 by lia),?_⟩;refine⟨_,rfl,_,_,rfl,rfl,⟨WV,WV⟩,rfl,_,_,_,by simp[uf,he],?_,?_,rfl⟩
   ·rw[len_app,hl];rfl
   ·have h1:bQ.cps.toList.all low=true:=Mr;have h2:=BI rest;unfold lows;rw[oO,List.all_append,h1];simp[h2]
  ·rintro σ H' ⟨rfl,bQ,rest,kv,he,hl,Mr,rfl⟩;have he:uf 12 (cell/24)=(bQ,rest):=he;have hl:bQ.length=12:=hl;refine⟨_,rfl,_,_,rfl,rfl,⟨WV,WV⟩,_,_,rfl,rfl,WG,_,_,rfl,rfl,?_⟩;have z0:1≤1+cell/2%12∧1+cell/2%12≤12:=by lia
   refine⟨aA Vs,fun D hD=>?_⟩;refine⟨_,rfl,many,rfl,by lia,by lia,?_⟩;refine ft (fun i σ H2=>(∃u v w,σ=[sI cell,sI other,sI many,sS OM,sS bQ,sI rest,u,sI (1+cell/2%12),sR D,v,w])∧H2 D=some (.lst (((ZR i).map (jw bQ cell other)).map V.str))∧av H' H2) ⟨⟨_,_,_,rfl⟩,ae,Z6 hD⟩ ?_ ?_
   ·rintro i σ H2 hi ⟨⟨u,v,w,rfl⟩,ku,s2⟩;have hi:i<12:=by lia
    have nx:∀z,z=jw bQ cell other i→(ZR i).map (fun k=>V.str (jw bQ cell other k))++[V.str z]=((ZR (i+1)).map (jw bQ cell other)).map V.str:=fun z e=>by
     rw[List.range_succ,e];simp
    have ic:(((ZR i).map (jw bQ cell other)).map V.str).length<sizeLine:=bf (by simp;lia);refine⟨_,rfl,_,_,rfl,rfl,(show(0:Int)<2 by decide),rfl,_,rfl,?_⟩;refine bb (fun h=>?_) (fun h=>?_)
    ·have h:cell%2=1:=by simpa using h
     refine⟨_,rfl, .inl ⟨rfl,_, .of ku⟩,_,rfl,_,rfl,_,rfl,_,_,rfl,rfl,_,_,rfl,rfl,WG,_,_,rfl,rfl,_,rfl,bQ,rfl,aA Hy,D,_,_,rfl,rfl,ku,ic,⟨_,_,_,rfl⟩,?_,s2.eP hD⟩;rw[ae];have:=nx (Txt.slice bQ none (some (1+(1+cell/2%12+(0+(i:Int)))%12))) (by simp[jw,h]);rw[←this];simp
    ·have h:¬cell%2=1:=by simpa using h
     have z1:0≤other%(1+cell/2%12)∧other%(1+cell/2%12)<1+cell/2%12:=⟨Int.emod_nonneg _ (by lia),Int.emod_lt_of_pos _ (by lia)⟩
     have b1:=vY bQ none (some (other%(1+cell/2%12)));have b2:=vY bQ (some (other%(1+cell/2%12)+1)) (some (1+cell/2%12));refine⟨_,rfl,_,rfl,_,_,rfl,rfl,(show(0:Int)<1+cell/2%12 by lia),?_⟩;refine⟨_,rfl,_,rfl,_,_,rfl,rfl,⟨WV,WV⟩,_,rfl,_,_,rfl,rfl,_,_,rfl,rfl,WE,_,_,_,rfl,rfl,aA Hy,EV,?_⟩;refine⟨_,rfl, .inl ⟨rfl,_, .of ku⟩,_,rfl,_,rfl,_,rfl,bQ,rfl,aA Hy,_,rfl,_,_,rfl,rfl,aA (show(Txt.slice bQ none (some (other%(1+cell/2%12)))).length+1≤100000 by lia),_,rfl,_,rfl,_,_,rfl,rfl,_,rfl,_,rfl,_,rfl,bQ,rfl,aA Hy,_,_,rfl,rfl,?_,D,_,_,rfl,rfl,ku,ic,⟨_,_,_,rfl⟩,?_,s2.eP hD⟩
     ·rw[len_app];exact aA (show(Txt.slice bQ none (some (other%(1+cell/2%12)))).length+1+_≤100000 by lia)
     rw[ae];have:=nx (Txt.slice bQ none (some (other%(1+cell/2%12)))++⟨#[97+((other/12+(0+(i:Int)))%26).toNat]⟩++Txt.slice bQ (some (other%(1+cell/2%12)+1)) (some (1+cell/2%12))) (by simp[jw,h]);rw[←this];simp
   ·rintro σ H2 ⟨⟨u,v,w,rfl⟩,ku,s2⟩;refine⟨_,rfl,q H2 D _ s2 hD ku Vs ?_ (Aq hl cell other (by lia)) (by unfold Ce;rw[he])⟩;intro z hz;obtain⟨k,_,rfl⟩:=List.mem_map.mp hz;exact EY hl Mr cell other k
variable(aX:bK P w K mg base true 1 "_law_at" ["_law_script","_law_k"] (EM K))
theorem gA:aL ["_law_script","_law_cell","_law_spot","_law_many","_law_bank_here","_law_book_here","_law_rest","_law_k"] ["_law_script","_law_cell","_law_spot","_law_many","_law_bank_here"] (au lV):=⟨rfl,rfl,rfl,by decide+kernel,rfl,by decide+kernel,by decide+kernel⟩
include T aX in
theorem xN{f:Addr}{fd:FuncData}(F:ju K "_law_book" "_law_book" lV f fd):a7 P w K mg base (cX P w) true 2 f fd ["_law_script","_law_cell","_law_spot","_law_many","_law_bank_here"] (xj K):=by
 refine F.gL gA ZH (fun bU A outer s H vs Q E hr h hX=>?_)
 ·obtain⟨a,b,ns,zs,c,p,m,rfl,_⟩:=h;rfl
 ·obtain⟨a,b,ns,zs,c,p,m,rfl,hS,hb,⟨Zl,MV⟩,Zm,UQ,D5,q⟩:=h;refine⟨_,(Xm (YL (5) gA.nd (ZW ai)) (Xm (YL (6) gA.nd Z') (Xm (Za hX.own (@eh _ _ _ _ _ _ (by exact rfl) T.fN (SV (pv 3)) (Z5)) (Z9 (7) gA.nd) (Xm (ZY (Ω K PySem.F.slot_list_append PySem.F.type_list_append bT (pv 5) (SV (YF (pv 4) (Xb bH (Xb br (Xb br (pv 6) (pv 7)) (ZG aX aQ (WW Y' (SV (Xb br Z2 (pv 7)))))) (Ε (aK K) T.cY (SV (pv 4)))))))) (X9 (YL (6) gA.nd (Xb dU (pv 6) (Ε (aK K) T.cY (SV (pv 4)))))))) (X9 (ZJ (pv 5)))))),?_⟩;refine⟨aA Vs,fun l hl=>?_⟩;refine⟨_,rfl,?_⟩;refine⟨_,rfl,m,rfl,by lia,by lia,?_⟩;refine ft (fun i σ H'=>(∃r u,σ=[sR a,sI c,sI p,sI m,sR b,sR l,sI r,u])∧av H H'∧∃ws:List Str,H' l=some (.lst (ws.map V.str))∧ws.length=i∧∀w∈ws,w∈zs) ⟨⟨_,_,rfl⟩,Z6 hl,[],ae,rfl,fun w hw=>by cases hw⟩ ?_ ?_
  ·rintro i σ H' hi ⟨⟨r,u,rfl⟩,s1,ws,lg,sf,Ms⟩;have hi:i<m.toNat:=hi;have jY:=s1 _ _ hb;have z0:0≤(r+(0+(i:Int))+cell ns (p+(0+(i:Int))))%(zs.length:Int):=Int.emod_nonneg _ (by lia);have z1:(r+(0+(i:Int))+cell ns (p+(0+(i:Int))))%(zs.length:Int)<(zs.length:Int):=Int.emod_lt_of_pos _ (by lia);obtain⟨w,hw,wz⟩:=Ap zs z0 z1;have el:(zs.map V.str).length=zs.length:=List.length_map ..;refine⟨_,rfl, .inl ⟨rfl,_, .of lg⟩,_,rfl,_,rfl,_,rfl,_,_,rfl,rfl,_,rfl,_,rfl,_,rfl,_,_,rfl,rfl,a,ns,_,rfl,s1.seq hS,by lia,_,_,rfl,rfl,_,rfl,b,_,rfl, .inl (.of jY),_,_,rfl,rfl,(by rw[el];show(0:Int)<_;lia),b,_,_,_,rfl,rfl, .of jY,(by rw[el];exact wz),l,_,_,rfl,rfl,lg,bf (by rw[List.length_map];lia),?_⟩;have IF:b≠l:=aF hb hl;have xD:upd H' l (.lst (ws.map V.str++[.str w])) b=some (.lst (zs.map V.str)):=by rw[ao IF];exact jY
   refine⟨_,rfl,_,rfl,b,_,rfl, .inl (.of xD),_,_,rfl,rfl,⟨by rw[el];lia,by rw[el];lia⟩,⟨_,_,rfl⟩,s1.eP hl,ws++[w],?_,by simp[sf],?_⟩
   ·rw[ae];simp
   ·intro x hx;rcases List.mem_append.mp hx with hx|hx
    ·exact Ms x hx
    ·have:x=w:=by simpa using hx
     rw[this];exact hw
  ·rintro σ H' ⟨⟨r,u,rfl⟩,s1,ws,lg,sf,Ms⟩;exact⟨_,rfl,q H' l ws s1 hl lg sf Ms⟩
theorem cx:aL ["_law_script","_law_cell","_law_spot","_law_many","_law_first","_law_bank_here","_law_book_here","_law_rest","_law_place","_law_k","_law_pick"] ["_law_script","_law_cell","_law_spot","_law_many","_law_first","_law_bank_here"] (au iL):=⟨rfl,rfl,rfl,by decide+kernel,rfl,by decide+kernel,by decide+kernel⟩
include T aX in
theorem vj{f:Addr}{fd:FuncData}(F:ju K "_law_quote" "_law_quote" iL f fd):a7 P w K mg base (cX P w) true 2 f fd ["_law_script","_law_cell","_law_spot","_law_many","_law_first","_law_bank_here"] (tM K):=by
 refine F.gL cx ZH (fun bU A outer s H vs Q E hr h hX=>?_)
 ·obtain⟨a,b,x,ns,zs,Mt,c,p,m,rfl,_⟩:=h;rfl
 ·obtain⟨a,b,x,ns,zs,Mt,c,p,m,rfl,hS,hb,hx,⟨Zl,MV⟩,yA,RG,Zm,UQ,D5,q⟩:=h;have hu:=hr.units;have JY:(A.deeper (Ρ "_law_quote" (au iL) f bU)).units<cLine:=by lia
  have c8:(0:Int)<8:=WV;refine⟨_,(Xm (YL (6) cx.nd (ZW ai)) (Xm (YL (7) cx.nd Z') (Xm (YL (8) cx.nd af) (Xm (Za hX.own (@eh _ _ _ _ _ _ (by exact rfl) T.fN (SV (pv 3)) (Z5)) (Z9 (9) cx.nd) (Xm (YL (10) cx.nd (Xb br (pv 7) (ZG aX aQ (WW Y' (SV (Xb br Z2 (pv 9))))))) (Xm (YL (7) cx.nd (Xb dU (pv 7) (Xb nr af (Ε (aK K) T.cY (SV (pv 5)))))) (X9 (ZX (@PW.pt _ _ _ (@pw_and _ _ _ _ _ _ _ (ZQ mV (Xb bH (pv 10) af) af (aV _)) (@pw_and1 _ _ _ _ (ZQ (tI K JY) (pv 4) (ZW ai) (aV _))))) (Xm (YL (8) cx.nd (Xb br (pv 8) (ν qm Η T.BF PyProof.Rows.Boot.«int» (SV (@iF _ _ _ _ _ _ _ _ jt (Xb bH (pv 10) af) af (aV _)))))) (Xm (ZY (Ω K PySem.F.slot_list_append PySem.F.type_list_append bT (pv 6) (SV (YF (pv 4) (Xb bH (pv 8) (Ε (aK K) T.cY (SV (pv 4)))))))) (X9 (YL (8) cx.nd (Xb br (pv 8) af))))) (X9 (ZY (Ω K PySem.F.slot_list_append PySem.F.type_list_append bT (pv 6) (SV (YF (pv 5) (Xb bH (Xb dU (pv 10) af) (Ε (aK K) T.cY (SV (pv 5)))))))))))))) (X9 (ZJ (pv 6))))))),?_⟩;refine⟨aA Vs,fun l hl=>?_⟩;refine⟨_,rfl,?_⟩;refine⟨_,rfl,m,rfl,by lia,by lia,?_⟩;refine ft (fun i σ H'=>(∃(r pl:Int)(u1 u2:Option V),σ=[sR a,sI c,sI p,sI m,sR x,sR b,sR l,sI r,sI pl,u1,u2])∧av H H'∧∃ws:List Str,H' l=some (.lst (ws.map V.str))∧ws.length=i∧∀w∈ws,w∈zs) ⟨⟨_,_,_,_,rfl⟩,Z6 hl,[],ae,rfl,fun w hw=>by cases hw⟩ ?_ ?_
  ·rintro i σ H' hi ⟨⟨r,pl,u1,u2,rfl⟩,s1,ws,lg,sf,Ms⟩;have hi:i<m.toNat:=hi;have jY:=s1 _ _ hb;have lu:=s1 _ _ hx;have el:(zs.map V.str).length=zs.length:=List.length_map ..;have WH:(Mt.map V.str).length=Mt.length:=List.length_map ..;have ic:(ws.map V.str).length<sizeLine:=bf (by rw[List.length_map];lia);refine⟨_,rfl,_,rfl,_,rfl,_,rfl,_,_,rfl,rfl,a,ns,_,rfl,s1.seq hS,by lia,_,_,rfl,rfl,?_⟩;refine⟨_,rfl,_,rfl,b,_,rfl, .inl (.of jY),_,_,rfl,rfl, .inl (WV),_,_,rfl,rfl,⟨by rw[el];lia,by rw[el];lia⟩,?_⟩;have fin:∀H3 (w:Str),av H H3→H3 l=some (.lst (ws.map V.str))→w∈zs→av H (upd H3 l (.lst (ws.map V.str++[.str w])))∧∃UR:List Str,upd H3 l (.lst (ws.map V.str++[.str w])) l=some (.lst (UR.map V.str))∧UR.length=i+1∧∀w∈UR,w∈zs:=fun H3 w s3 h3 hw=>by
    refine⟨s3.eP hl,ws++[w],by rw[ae];simp,by simp[sf],fun x hx=>?_⟩;rcases List.mem_append.mp hx with hx|hx
    ·exact Ms x hx
    ·have:x=w:=by simpa using hx
     rw[this];exact hw
   have other:∀H3,av H H3→H3 l=some (.lst (ws.map V.str))→H3 b=some (.lst (zs.map V.str))→∃w,w∈zs∧rV (zs.map V.str) ((r+cell ns (p+(0+(i:Int))))/8%((zs.map V.str).length:Int))=some (.str w):=fun H3 _ _ _=>by
    rw[el];exact Ap zs (Int.emod_nonneg _ (by lia)) (Int.emod_lt_of_pos _ (by lia))
   refine⟨_,rfl,_,_,rfl,rfl,c8,_,_,rfl,rfl,_,rfl,?_⟩;refine bb (fun h1=>?_) (fun h1=>?_)
   ·refine⟨_,rfl,aA Vs,fun pn Np=>⟨x,pn,_,rfl,rfl, .of (av.upd Np _ _ lu), .of ae,_,rfl,?_⟩⟩;have s2:av H (upd H' pn (.lst [])):=s1.trans (Z6 Np);have uW:=av.upd (o:= .lst []) Np _ _ lg;refine bb (fun h2=>?_) (fun h2=>?_)
    ·have eQ:Mt≠[]:=by simpa using h2
     have US:0<Mt.length:=List.length_pos_iff.mpr eQ;obtain⟨w,hw,wz⟩:=Ap Mt (i:=(pl+(if decide ((r+cell ns (p+(0+(i:Int))))%8=4)=true then 1 else 0))%((Mt.length:Nat):Int)) (Int.emod_nonneg _ (by lia)) (Int.emod_lt_of_pos _ (by lia));obtain⟨a1,a2⟩:=fin _ w s2 uW (RG w hw);refine⟨_,rfl,_,rfl,_,_,rfl,rfl,c8,rfl, .inr ⟨_,rfl,_,_,rfl,rfl,?_⟩⟩;refine⟨_,rfl, .inl ⟨rfl,_, .of uW⟩,_,rfl,_,rfl,_,rfl,x,_,rfl, .inl (.of (s2 _ _ hx)),_,_,rfl,rfl,(by rw[WH];show(0:Int)<_;lia),x,_,_,_,rfl,rfl, .of (s2 _ _ hx),by rw[WH];simpa[beq_iff_eq,qt]using wz,l,_,_,rfl,rfl,uW,ic,?_⟩;exact⟨_,rfl,_,_,rfl,rfl,⟨_,_,_,_,rfl⟩,a1,a2⟩
    ·obtain⟨w,hw,wz⟩:=other _ s2 uW (s2 _ _ hb);obtain⟨a1,a2⟩:=fin _ w s2 uW hw;refine⟨_,rfl, .inl ⟨rfl,_, .of uW⟩,_,rfl,_,rfl,_,_,rfl,rfl,⟨WV,WV⟩,_,rfl,b,_,rfl, .inl (.of (s2 _ _ hb)),_,_,rfl,rfl,(by rw[el];show(0:Int)<_;lia),b,_,_,_,rfl,rfl, .of (s2 _ _ hb),wz,l,_,_,rfl,rfl,uW,ic,⟨_,_,_,_,rfl⟩,a1,a2⟩
   ·refine gc ?_;obtain⟨w,hw,wz⟩:=other _ s1 lg jY;obtain⟨a1,a2⟩:=fin _ w s1 lg hw;refine⟨_,rfl, .inl ⟨rfl,_, .of lg⟩,_,rfl,_,rfl,_,_,rfl,rfl,⟨WV,WV⟩,_,rfl,b,_,rfl, .inl (.of jY),_,_,rfl,rfl,(by rw[el];show(0:Int)<_;lia),b,_,_,_,rfl,rfl, .of jY,wz,l,_,_,rfl,rfl,lg,ic,⟨_,_,_,_,rfl⟩,a1,a2⟩
  ·rintro σ H' ⟨⟨r,pl,u1,u2,rfl⟩,s1,ws,lg,sf,Ms⟩;exact⟨_,rfl,q H' l ws s1 hl lg sf Ms⟩
theorem ed:aL ["_law_script","_law_spot","_law_pick","_law_same","_law_most"] ["_law_script","_law_spot"] (au gu):=⟨rfl,rfl,rfl,by decide+kernel,rfl,by decide+kernel,by decide+kernel⟩
include T aX in
theorem sj{f:Addr}{fd:FuncData}(F:ju K "_law_numbers" "_law_numbers" gu f fd):a7 P w K mg base (cX P w) true 2 f fd ["_law_script","_law_spot"] (nF K):=by
 refine F.gL ed ZH (fun bU A outer s H vs Q E hr h hX=>?_)
 ·obtain⟨a,ns,k,rfl,_⟩:=h;rfl
 ·obtain⟨a,ns,k,rfl,hS,h0,q⟩:=h;have c2:(0:Int)<2:=WV;have c4:(0:Int)<4:=WV;have c6:(0:Int)<6:=WV;have cM:(0:Int)<1000000:=WV;have WI:∀i:Int,KD i 4:=fun i=>⟨WV,WV⟩
  have Zn:∀i:Int,KD i 8:=fun i=>⟨WV,WV⟩
  refine⟨_,(Xm (@kC _ _ _ _ _ _ _ _ _ _ _ _ _ _ _ (2) _ _ (by exact rfl) ed.nd Η (by exact rfl) (show bh ["_law_script","_law_spot","_law_pick","_law_same","_law_most"] (au gu) _ ["_law_k"] [0,1] ["_law_script","_law_spot"]from⟨rfl,by decide+kernel,by decide+kernel,by decide+kernel,rfl,rfl,by decide+kernel,by decide+kernel,by decide+kernel⟩) (@eh _ _ _ _ _ _ (by exact rfl) T.fN (SV af) (Z5)) (fun _ _ _ _ _=>(Z9 (0) (show(["_law_k","_law_script","_law_spot"]:List Str).Nodup by decide+kernel))) (fun _ _ _ _ _=>gX) (fun _ _ _ _ _=>(ZG aX aQ (WW Z' (SV (Xb br Z2 (pv 0)))))) (Z5) (by intro _;rfl)) (Xm (ZX (ZQ mV (Xb bH (YF Z2 af) af) af (aV _)) (Xm (YL (3) ed.nd (Xb br af (Xb bH (Xb dU (YF Z2 af) af) af))) (X9 (ZJ (ZW (WW (pv 3) (WW (Xb bH (YF Z2 af) af) (WW (Xb bH (YF Z2 af) af) (SV (Xb br af (Xb bH (YF Z2 af) (Xb nr af (pv 3)))))))))))) aP) (Xm (YL (3) ed.nd (Xb br af (Xb bH (Xb dU (YF Z2 af) af) af))) (Xm (YL (4) ed.nd (YF (ZW (τ (ε (ql rfl) T.EL PyProof.Rows.Boot.«min» (WW af (SV (Xb nr af (pv 3))))))) (Xb bH (Xb dU (YF Z2 af) af) af))) (X9 (ZJ (ZW (WW (pv 3) (WW (Xb bH (YF Z2 af) af) (WW (Xb bH (YF Z2 af) af) (SV (Xb br af (Xb bH (YF Z2 af) (pv 4)))))))))))))),?_⟩;refine⟨4,rfl,WV,WV,fun D hD=>?_⟩;refine Am (fun i ys bB H'=>(∃u,bB=[u,sR a,sI k])∧∃is:List Int,ys=is.map V.int∧is.length=i∧H' D=some (.lst ys)∧av H H') ⟨⟨_,rfl⟩,[],rfl,rfl,ae,Z6 hD⟩ ?_ ?_
  ·rintro i ys bB H' hi ⟨⟨u,rfl⟩,is,rfl,hl,Zo,s1⟩;have hi:i<4:=hi;refine qw ?_;exact⟨_,rfl,_,rfl,_,rfl,_,_,rfl,rfl,a,ns,_,rfl,s1.seq hS,by lia,Zo,bf (by rw[List.length_map];lia),⟨_,rfl⟩,is++[cell ns (k+(0+(i:Int)))],XC,by simp[hl],ae,s1.eP hD⟩
  ·rintro ys bB H1 ⟨_,is,rfl,hl,r_,s1⟩;obtain⟨p0,p1,p2,p3,rfl⟩:=HI hl;refine⟨_,rfl,D,_,0,_,rfl,rfl, .of r_,Xo (j:=0),_,_,rfl,rfl,c4,_,_,rfl,rfl,_,rfl,?_⟩;refine bb (fun _=>?_) (fun _=>?_)
   ·refine⟨_,rfl,D,_,0,_,rfl,rfl, .of r_,Xo (j:=0),_,_,rfl,rfl,WI _,_,_,rfl,rfl,c6,_,_,rfl,rfl,?_⟩;have z0:1≤1+p0/4%6∧1+p0/4%6≤6:=by lia
    have z3:0≤p3%(3*(1+p0/4%6)):=Int.emod_nonneg _ (by lia);have z4:p3%(3*(1+p0/4%6))<3*(1+p0/4%6):=Int.emod_lt_of_pos _ (by lia);exact⟨_,rfl,_,rfl,D,_,1,_,rfl,rfl, .of r_,Xo (j:=1),_,_,rfl,rfl,c4,_,rfl,D,_,2,_,rfl,rfl, .of r_,Xo (j:=2),_,_,rfl,rfl,c4,_,rfl,D,_,3,_,rfl,rfl, .of r_,Xo (j:=3),_,rfl,_,_,rfl,rfl, .inl (WV),_,_,rfl,rfl,(show(0:Int)<3*(1+p0/4%6) by lia),_,_,rfl,rfl,aA Vs,fun p hp=>q _ p _ _ _ _ (s1.trans (Z6 hp)) (s1.free hp) ae Hy (by lia) (by lia) (by lia)⟩
   ·refine⟨_,rfl,D,_,0,_,rfl,rfl, .of r_,Xo (j:=0),_,_,rfl,rfl,Zn _,_,_,rfl,rfl,(show(0:Int)<999999 by decide),_,_,rfl,rfl,?_⟩;have z0:1≤1+p0/8%999999∧1+p0/8%999999≤999999:=by lia
    obtain⟨m,D5,hm⟩:=int_at [if 3*(1+p0/8%999999)<999999 then 3*(1+p0/8%999999)else 999999,999999] (i:=p0/4%2) (by lia) (show p0/4%2<2 by lia);have IK:1≤m∧m≤999999:=by
     simp only[List.mem_cons,List.not_mem_nil,or_false]at D5;rcases D5 with rfl|rfl
     ·split<;>lia
     ·lia
    refine⟨_,rfl,_,_,rfl,rfl, .inl (WV),_,_,rfl,aA Vs,fun p hp=>?_⟩;have ku:=av.upd (o:= .lst [.int (if 3*(1+p0/8%999999)<999999 then 3*(1+p0/8%999999)else 999999), .int 999999]) hp _ _ r_;refine⟨_,rfl,D,_,0,_,rfl,rfl, .of ku,Xo (j:=0),_,_,rfl,rfl,WI _,_,_,rfl,rfl,c2,p,_,_,_,rfl,rfl, .of ae,hm,?_⟩;have z3:0≤p3%m:=Int.emod_nonneg _ (by lia);have z4:p3%m<m:=Int.emod_lt_of_pos _ (by lia);exact⟨_,rfl,_,rfl,D,_,1,_,rfl,rfl, .of ku,Xo (j:=1),_,_,rfl,rfl,cM,_,rfl,D,_,2,_,rfl,rfl, .of ku,Xo (j:=2),_,_,rfl,rfl,cM,_,rfl,D,_,3,_,rfl,rfl, .of ku,Xo (j:=3),_,rfl,_,_,rfl,rfl,(show(0:Int)<m by lia),_,_,rfl,rfl,aA Vs,fun p2 wN=>q _ p2 _ _ _ _ ((s1.trans (Z6 hp)).trans (Z6 wN)) ((s1.trans (Z6 hp)).free wN) ae Hy (by lia) (by lia) (by lia)⟩
theorem dz:aL ["_law_cell","_law_bank_here","_law_same","_law_found","_law_rest","_law_x","_law_y","_law_price"] ["_law_cell","_law_bank_here","_law_same"] (au lW):=⟨rfl,rfl,rfl,by decide+kernel,rfl,by decide+kernel,by decide+kernel⟩
include T in
theorem xO{f:Addr}{fd:FuncData}(F:ju K "_law_near" "_law_near" lW f fd):a7 P w K mg base (cX P w) true 1 f fd ["_law_cell","_law_bank_here","_law_same"] uh:=by
 refine F.gL dz ZH (fun bU A outer s H vs Q E hr h hX=>?_)
 ·obtain⟨cell,same,b,zs,rfl,_⟩:=h;rfl
 ·obtain⟨cell,same,b,zs,rfl,hb,Zp,hw,hn,Yo,KH,q⟩:=h;have OC:(0:Int)<same+3:=by lia
  refine⟨_,(Xm (YL (3) dz.nd (ZW ai)) (Xm (YL (4) dz.nd Y') (Xm (Za hX.own (Γ K Z') (Z9 (5) dz.nd) (X9 (Za hX.own (Γ K Z') (Z9 (6) dz.nd) (X9 (ZX (ZQ vL (pv 5) (pv 6) (aV _)) (Xm (YL (7) dz.nd (Xb bH (Xb dU (pv 4) af) (Xb br Z2 af))) (Z0 (ZX (ZQ jt (Xb bH (pv 4) af) af (aV _)) (Xm (ZY (Ω K PySem.F.slot_list_append PySem.F.type_list_append bT (pv 3) (SV (@eC _ _ _ _ _ (WW (pv 5) (WW (pv 6) (SV (ε (ql rfl) T.EL PyProof.Rows.Boot.«min» (τ (pv 7)))))))))) (X9 (YL (4) dz.nd (Xb dU (pv 4) (Xb br Z2 af))))) (X9 (ZX (ZQ jt (Xb bH (pv 4) af) af (aV _)) (X9 (ZY (Ω K PySem.F.slot_list_append PySem.F.type_list_append bT (pv 3) (SV (@eC _ _ _ _ _ (WW (pv 5) (τ (pv 6)))))))) aP))) (X9 (YL (4) dz.nd (Xb dU (pv 4) af))))) aP))))) (X9 (ZJ (pv 3)))))),?_⟩;refine⟨aA Vs,fun l hl=>?_⟩;refine⟨_,rfl,?_⟩;have hlb:b≠l:=aF hb hl;refine⟨_,rfl,b,rfl,⟨_, .of (av.upd hl _ _ hb)⟩,?_⟩;refine bM (xs:=zs.map V.str) (fun i σ H'=>(∃(rest:Int)(u1 u2 u3:Option V),σ=[sI cell,sR b,sI same,sR l,sI rest,u1,u2,u3])∧av H H'∧∃xs fs,H' l=some (.lst xs)∧dS H' xs fs∧de zs i 0 fs) ⟨⟨_,_,_,_,rfl⟩,Z6 hl,[],[],ae, .nil, .nil⟩ ?_ ?_ ?_
  ·rintro i σ H' _ ⟨_,s1,_⟩;exact .of (s1 _ _ hb)
  ·rintro i v σ H' hv ⟨⟨rest,u1,u2,u3,rfl⟩,s1,xs,fs,lg,T1,P1⟩;obtain⟨x,hx,rfl⟩:∃x,zs[i]?=some x∧v= .str x:=kF hv;have hi:i<zs.length:=(YG hx).1;refine⟨_,rfl,b,rfl,⟨_, .of (s1 _ _ hb)⟩,?_⟩;refine bM (xs:=zs.map V.str) (fun j σ H'=>(∃(rest:Int)(u2 u3:Option V),σ=[sI cell,sR b,sI same,sR l,sI rest,sS x,u2,u3])∧av H H'∧∃xs fs,H' l=some (.lst xs)∧dS H' xs fs∧de zs i j fs) ⟨⟨_,_,_,rfl⟩,s1,xs,fs,lg,T1,P1⟩ ?_ ?_ ?_
   ·rintro j σ H' _ ⟨_,s1,_⟩;exact .of (s1 _ _ hb)
   ·clear s1 lg T1 P1 xs fs u1 u2 u3 rest H';rintro j v σ H' hv ⟨⟨rest,u2,u3,rfl⟩,s1,xs,fs,lg,T1,P1⟩;obtain⟨y,hy,rfl⟩:∃y,zs[j]?=some y∧v= .str y:=kF hv;have Ey:xs.length<1000:=by
     have h1:=P1.uO;have h2:i*(zs.length-1)≤8*7:=Nat.mul_le_mul Hy (by lia);have h3:j<zs.length:=(YG hy).1;have h4:=T1.1
     lia
    refine⟨_,rfl,_,rfl,rfl,_,rfl,?_⟩;refine bb (fun h=>?_) (fun h=>?_)
    rotate_left
    ·exact⟨⟨_,_,_,rfl⟩,s1,xs,fs,lg,T1,P1.skip⟩
    have eQ:¬x=y:=by simpa using h
    refine⟨_,rfl,_,_,rfl,rfl,⟨WV,WV⟩,_,rfl,_,_,rfl,rfl,_,_,rfl,rfl,OC,?_⟩;have p0:0≤rest/3%(same+3):=Int.emod_nonneg _ (by lia);have add:∀(t:Addr)(ht:H' t=none)(pr:Int),0≤pr→pr≤999999→av H (upd (upd H' t (.tup [.str x, .str y, .int pr])) l (.lst (xs++[.ref t])))∧∃Gv J2,upd (upd H' t (.tup [.str x, .str y, .int pr])) l (.lst (xs++[.ref t])) l=some (.lst Gv)∧dS (upd (upd H' t (.tup [.str x, .str y, .int pr])) l (.lst (xs++[.ref t]))) Gv J2∧de zs i (j+1) J2:=fun t ht pr h0 h1=>by
     refine⟨(s1.trans (Z6 ht)).eP hl,_,fs++[(x,y,pr)],ae,?_,P1.add hn hw hx hy eQ h0 h1⟩;have T2:dS (upd H' t (.tup (Ld (x,y,pr)))) (xs++[.ref t]) (fs++[(x,y,pr)]):=(T1.same (Z6 ht)).snoc ae;exact T2.cD (c_.lst (av.upd ht _ _ lg))
    refine⟨fun σ H2=>(∃(rest:Int)(u3:Option V),σ=[sI cell,sR b,sI same,sR l,sI rest,sS x,sS y,u3])∧av H H2∧∃xs fs,H2 l=some (.lst xs)∧dS H2 xs fs∧de zs i (j+1) fs,?_,?_⟩
    ·refine⟨_,rfl,_,_,rfl,rfl,(show(0:Int)<3 by decide),rfl,_,rfl,?_⟩;refine bb (fun _=>?_) (fun _=>?_)
     ·refine⟨_,rfl, .inl ⟨rfl,_, .of lg⟩,_,rfl,_,rfl,_,rfl,_,_,rfl,aA Vs,fun t ht=>⟨l,xs,_,rfl,rfl,av.upd ht _ _ lg,bf Hy,?_⟩⟩;obtain⟨a1,a2⟩:=add t ht (if 999999<rest/3%(same+3)then 999999 else rest/3%(same+3)) (by split<;>lia) (by split<;>lia);exact⟨_,rfl,_,rfl,_,_,rfl,rfl,_,_,rfl,rfl,⟨OC,by lia⟩,⟨_,_,rfl⟩,a1,a2⟩
     ·refine⟨_,rfl,_,_,rfl,rfl,(show(0:Int)<9 by decide),rfl,_,rfl,?_⟩;refine bb (fun _=>?_) (fun _=>?_)
      ·refine⟨_,rfl, .inl ⟨rfl,_, .of lg⟩,_,rfl,_,rfl,aA Vs,fun t ht=>⟨l,xs,_,rfl,rfl,av.upd ht _ _ lg,bf Hy,?_⟩⟩;obtain⟨a1,a2⟩:=add t ht 999999 (WV) (WV);exact⟨⟨_,_,rfl⟩,a1,a2⟩
      ·exact⟨⟨_,_,rfl⟩,s1,xs,fs,lg,T1,P1.skip⟩
    rintro σ H2 ⟨⟨J3,u4,rfl⟩,s2,Gv,J2,uW,T2,P2⟩;exact⟨_,rfl,_,_,rfl,rfl,⟨WV,WV⟩,⟨_,_,_,rfl⟩,s2,Gv,J2,uW,T2,P2⟩
   ·rintro σ H2 ⟨⟨J3,u4,u5,rfl⟩,s2,Gv,J2,uW,T2,P2⟩;rw[List.length_map]at P2;exact⟨⟨_,_,_,_,rfl⟩,s2,Gv,J2,uW,T2,P2.row hi⟩
  ·rintro σ H2 ⟨⟨J3,u4,u5,u6,rfl⟩,s2,Gv,J2,uW,T2,P2⟩;rw[List.length_map]at P2;exact⟨_,rfl,q H2 l Gv J2 s2 hl uW T2 (P2.good Zp) fun f hf=>let ⟨i,j,_,h1,h2⟩:=P2.old f hf;⟨ZI h1,ZI h2⟩⟩
variable(jE:bK P w K mg base true 1 "_law_bank" ["_law_cell","_law_other","_law_many"] ug)
variable(jF:bK P w K mg base true 2 "_law_book" ["_law_script","_law_cell","_law_spot","_law_many","_law_bank_here"] (xj K))
variable(iR:bK P w K mg base true 2 "_law_quote" ["_law_script","_law_cell","_law_spot","_law_many","_law_first","_law_bank_here"] (tM K))
variable(gB:bK P w K mg base true 2 "_law_numbers" ["_law_script","_law_spot"] (nF K))
variable(jG:bK P w K mg base true 1 "_law_near" ["_law_cell","_law_bank_here","_law_same"] uh)
theorem dA:aL ["_law_script","_law_most","_law_many","_law_bank_here","_law_one","_law_other","_law_first","_law_second","_law_numbers_here"] ["_law_script","_law_most"] (au lX):=⟨rfl,rfl,rfl,by decide+kernel,rfl,by decide+kernel,by decide+kernel⟩
include T aX jE jF iR gB jG in
theorem xP{f:Addr}{fd:FuncData}(F:ju K "_law_case" "_law_case" lX f fd):a7 P w K mg base (cX P w) true 3 f fd ["_law_script","_law_most"] (ui K):=by
 refine F.gL dA ZH (fun bU A outer s H vs Q E hr h hX=>?_)
 ·obtain⟨a,ns,most,rfl,_⟩:=h;rfl
 ·obtain⟨a,ns,most,rfl,hS,UQ,D5,UT,q⟩:=h;refine⟨_,(Z0 (YL (2) dA.nd (Xb br (Xb br af (Xb bH (δ aX aQ) af)) (Xb nr (ν qm Η T.BF PyProof.Rows.Boot.«int» (SV (@iF _ _ _ _ _ _ _ _ rE Z' af (aV _)))) af))) (Z0 (YL (3) dA.nd (ZG jE aQ (WW (δ aX aQ) (WW (δ aX aQ) (SV Z2))))) (Z0 (YL (4) dA.nd (Xb cz Z' (Xb bH (δ aX aQ) (Xb br Z' af)))) (Z0 (YL (5) dA.nd (Xb cz Z' (Xb bH (δ aX aQ) (Xb br Z' af)))) (Z0 (YL (6) dA.nd (ZG jF aQ (WW Y' (WW (δ aX aQ) (WW af (ι (pv 4))))))) (Z0 (YL (7) dA.nd (ZG iR aQ (WW Y' (WW (δ aX aQ) (WW af (WW (pv 5) (ι (pv 6)))))))) (Z0 (YL (8) dA.nd (δ gB aQ)) (X9 (ZJ (ZW (WW (pv 6) (WW (pv 7) (WW (pv 8) (SV (ZG jG aQ (WW (δ aX aQ) (WW (@oE _ _ _ _ _ _ _ _ _ _ (EK K) (pv 3) wQ (@oC _ _ _ af)) (SV (YF (pv 8) af))))))))))))))))))),?_⟩;refine⟨fun σ H1=>∃many:Int,σ=[sR a,sI most,sI many,none,none,none,none,none,none]∧H1=H∧many=1+cell ns 2%5,?_,?_⟩
  ·refine⟨_,rfl,a,ns,2,rfl,hS,WV,_,_,rfl,rfl,(show(0:Int)<5 by decide),_,_,rfl,rfl,_,rfl,_,_,rfl,rfl, .inr ⟨_,rfl,_,_,rfl,rfl, .inr ⟨WV,WV⟩,_,_,rfl,rfl,_,rfl,rfl,?_⟩⟩;rw[Je (by simpa using UT)];lia
  rintro σ H ⟨many,rfl,rfl,J4⟩;have hy0:1≤many:=by lia
  have GO:many≤5:=by lia
  refine⟨fun σ H1=>∃(b:Addr)(zs:List Str),σ=[sR a,sI most,sI many,sR b,none,none,none,none,none]∧av H H1∧H1 b=some (.lst (zs.map V.str))∧(1≤zs.length∧zs.length≤5)∧(∀z∈zs,sM z=true)∧zs.Nodup∧zs=Ce (cell ns 0) (cell ns 1) many.toNat,?_,?_⟩
  ·exact⟨_,rfl,a,ns,0,rfl,hS,WV,_,rfl,a,ns,1,rfl,hS,WV,_,rfl,_,_,many,rfl,by lia,by lia,fun H' b zs s1 hb jY hz hw hn he=>⟨b,zs,rfl,s1,jY,by lia,hw,hn,he⟩⟩
  rintro σ H1 ⟨b,zs,rfl,s1,jY,hz,hw,hn,Qb⟩;have Qd:=s1.seq hS;refine⟨fun σ H2=>∃one:Int,σ=[sR a,sI most,sI many,sR b,sI one,none,none,none,none]∧H2=H1∧0≤one∧one≤most,?_,?_⟩
  ·have z0:0≤cell ns 3%(most+1):=Int.emod_nonneg _ (by lia);have z1:cell ns 3%(most+1)<most+1:=Int.emod_lt_of_pos _ (by lia);exact⟨_,rfl,_,rfl,a,ns,3,rfl,Qd,WV,_,rfl,_,_,rfl,rfl,_,_,rfl,rfl,(show(0:Int)<most+1 by lia),_,_,rfl,rfl,_,rfl,rfl,by lia,by lia⟩
  rintro σ H1 ⟨one,rfl,rfl,Zq,Ic⟩;refine⟨fun σ H2=>∃IV:Int,σ=[sR a,sI most,sI many,sR b,sI one,sI IV,none,none,none]∧H2=H1∧0≤IV∧IV≤most,?_,?_⟩
  ·have z0:0≤cell ns 4%(most+1):=Int.emod_nonneg _ (by lia);have z1:cell ns 4%(most+1)<most+1:=Int.emod_lt_of_pos _ (by lia);exact⟨_,rfl,_,rfl,a,ns,4,rfl,Qd,WV,_,rfl,_,_,rfl,rfl,_,_,rfl,rfl,(show(0:Int)<most+1 by lia),_,_,rfl,rfl,_,rfl,rfl,by lia,by lia⟩
  rintro σ H1 ⟨IV,rfl,rfl,Gp,Pl⟩;refine⟨fun σ H2=>∃(x:Addr)(xs:List Str),σ=[sR a,sI most,sI many,sR b,sI one,sI IV,sR x,none,none]∧av H1 H2∧H2 x=some (.lst (xs.map V.str))∧xs.length=one.toNat∧∀w∈xs,w∈zs,?_,?_⟩
  ·exact⟨_,rfl,_,rfl,a,ns,10,rfl,Qd,WV,_,rfl,_,rfl,a,b,ns,zs,_,16,one,rfl,Qd,jY,⟨hz.1,by lia⟩,WV,Zq,by lia,fun H2 x xs s2 hx yA hl lJ=>⟨x,xs,rfl,s2,yA,hl,lJ⟩⟩
  rintro σ H2 ⟨x,xs,rfl,s2,yA,TU,RG⟩;have s3:=s1.trans s2;have UU:=s2.seq Qd;refine⟨fun σ H3=>∃(y:Addr)(ys:List Str),σ=[sR a,sI most,sI many,sR b,sI one,sI IV,sR x,sR y,none]∧av H2 H3∧H3 y=some (.lst (ys.map V.str))∧ys.length=IV.toNat∧∀w∈ys,w∈zs,?_,?_⟩
  ·exact⟨_,rfl,_,rfl,a,ns,11,rfl,UU,WV,_,rfl,_,rfl,_,rfl,a,b,x,ns,zs,xs,_,17,IV,rfl,UU,s2 _ _ jY,yA,⟨hz.1,by lia⟩,by lia,RG,WV,Gp,by lia,fun H3 y ys s4 hy DZ hl lJ=>⟨y,ys,rfl,s4,DZ,hl,lJ⟩⟩
  rintro σ H3 ⟨y,ys,rfl,s4,Zr,Wf,TK⟩;have s5:=s3.trans s4;have WJ:=s4.seq UU;refine⟨fun σ H4=>∃(n:Addr)(sa ou iN le:Int),σ=[sR a,sI most,sI many,sR b,sI one,sI IV,sR x,sR y,sR n]∧av H3 H4∧H4 n=some (.lst [.int sa, .int ou, .int iN, .int le])∧(1≤sa∧sa≤999999)∧(0≤ou∧ou≤999999)∧(0≤iN∧iN≤999999)∧(1≤le∧le≤999999),?_,?_⟩
  ·exact⟨_,rfl,a,ns,5,rfl,WJ,WV,fun H4 D sa ou iN le s6 hD Cj h1 h2 h3 h4=>⟨D,sa,ou,iN,le,rfl,s6,Cj,h1,h2,h3,h4⟩⟩
  rintro σ H4 ⟨n,sa,ou,iN,le,rfl,s6,WK,h1,h2,h3,h4⟩;have s7:=s5.trans s6;have Nq:=s6.seq WJ;have Zs:H4 b=some (.lst (zs.map V.str)):=s6 _ _ (s4 _ _ (s2 _ _ jY));refine⟨_,rfl,_,rfl,_,rfl,_,rfl,a,ns,9,rfl,Nq,WV,_,rfl,_,rfl,b,_,rfl, .of Zs,fun b5 Ng=>?_⟩;have e5:CH (zs.map V.str) none (some 5)=(zs.take 5).map V.str:=by
   have:HT.kz (zs.map V.str).length (zs.map V.str).length (some 5)=min 5 zs.length:=by
    rw[List.length_map];simp only[HT.kz];split<;>lia
   have e0:HT.kz (zs.map V.str).length 0 none=0:=by simp[HT.kz]
   unfold CH;rw[this,e0,List.drop_zero,Nat.sub_zero,←List.map_take]
   congr 1
   apply List.ext_getElem?;intro i;rw[List.getElem?_take,List.getElem?_take];by_cases hi:i<zs.length
   ·by_cases h5:i<5
    ·rw[MJ Hy,MJ h5]
    ·rw[Je Hy,Je h5]
   ·simp[List.getElem?_eq_none (by lia:zs.length≤i)]
  rw[e5];have s8:av H4 (upd H4 b5 (.lst ((zs.take 5).map V.str))):=Z6 Ng;have Zt:=s8 _ _ WK;refine⟨_,rfl,n,_,0,_,rfl,rfl, .of Zt,Xo (j:=0),_,sa,b5,zs.take 5,rfl,ae,by simp;lia,fun z hz=>hw z (List.mem_of_mem_take hz),hn.sublist (List.take_sublist ..),h1.1,h1.2,fun H6 l us fs s9 hl WL T6 g6 WM=>?_⟩;have sA:=(s7.trans s8).trans s9;refine⟨aA Vs,fun r hr=>?_⟩;have sB:=av.upd (o:= .lst [.ref x, .ref y, .ref n, .ref l]) hr;have sC:=s9.trans sB;refine q _ r ⟨xs,ys,sa,ou,iN,le,fs⟩ x y n l us (sA.trans sB) (sA.free hr) ⟨ae,?_,?_,?_,sB _ _ WL,T6.same sB⟩ ⟨by show xs.length≤_;lia,by show ys.length≤_;lia,g6,h1,h2,h3,h4⟩ zs (by rw[Qb,J4]) (by lia) hw hn ⟨RG,TK,fun f hf=>⟨List.mem_of_mem_take (WM f hf).1,List.mem_of_mem_take (WM f hf).2⟩⟩
  ·exact sC _ _ (s8 _ _ (s6 _ _ (s4 _ _ yA)))
  ·exact sC _ _ (s8 _ _ (s6 _ _ Zr))
  ·exact sC _ _ (s8 _ _ WK)
theorem iS:aL ["_law_x","_law_y","_law_same","_law_near_here","_law_old","_law_new","_law_price"] ["_law_x","_law_y","_law_same","_law_near_here"] (au lY):=⟨rfl,rfl,rfl,by decide+kernel,rfl,by decide+kernel,by decide+kernel⟩
include T in
theorem xQ{f:Addr}{fd:FuncData}(F:ju K "_law_pair" "_law_pair" lY f fd):a7 P w K mg base (cX P w) true 1 f fd ["_law_x","_law_y","_law_same","_law_near_here"] tK:=by
 refine F.gL iS ZH (fun bU A outer s H vs Q E hr h hX=>?_)
 ·obtain⟨x,y,same,l,xs,fs,rfl,_⟩:=h;rfl
 ·obtain⟨x,y,same,l,xs,fs,rfl,hl,T1,q⟩:=h;refine⟨_,(Xm (ZX (ZQ jt Y' (pv 1) (aV _)) (X9 (ZJ Z2)) aP) (Xm (Za hX.own (Γ K (pv 3)) (ζ K (3) (by exact rfl) (Z_ (Z9 (4) iS.nd) (Z_ (Z9 (5) iS.nd) (Z_ (Z9 (6) iS.nd) fq)))) (X9 (ZX (@PW.pt _ _ _ (@pw_and _ _ _ _ _ _ _ (ZQ jt (pv 4) (pv 0) (aV _)) (@pw_and1 _ _ _ _ (ZQ jt (pv 5) (pv 1) (aV _))))) (X9 (ZJ (Xb cz Z2 (pv 6)))) aP))) (X9 (ZJ jR)))),?_⟩;refine⟨_,rfl,_,rfl,rfl,_,rfl,?_⟩;refine bb (fun h=>?_) (fun h=>?_)
  ·have h:x=y:=by simpa using h
   rw[show cI same fs x y=some same by simp[cI,h]]at q;exact⟨_,rfl,q⟩
  have h:¬x=y:=by simpa using h
  refine⟨_,rfl,l,rfl,⟨_, .of hl⟩,?_⟩;refine bM (xs:=xs) (fun i σ H'=>(∃u1 u2 u3,σ=[sS x,sS y,sI same,sR l,u1,u2,u3])∧H'=H∧∀f∈fs.take i,¬(f.1=x∧f.2.1=y)) ⟨⟨_,_,_,rfl⟩,rfl,XC⟩ ?_ ?_ ?_
  ·rintro i σ H' _ ⟨_,rfl,_⟩;exact .of hl
  ·rintro i v σ H' hv ⟨⟨u1,u2,u3,rfl⟩,rfl,C_⟩;have hi:i<fs.length:=by rw[←T1.1];exact(YG hv).1
   have hf:fs[i]?=some fs[i]:=by simp[hi]
   generalize fs[i]=f0 at hf;obtain⟨t,yy,uS⟩:=T1.2 i f0 hf;rw[hv]at yy;cases yy;obtain⟨x0,y0,p0⟩:=f0;refine⟨t,_,rfl, .of uS,rfl,_,_,rfl,_,_,rfl,_,_,rfl,rfl,?_⟩;have Ri:¬(x0=x∧y0=y)→∀f∈fs.take (i+1),¬(f.1=x∧f.2.1=y):=fun eQ f WN=>by
    rw[List.take_succ,hf]at WN;rcases List.mem_append.mp WN with h|h
    ·exact C_ f h
    ·have h:f=(x0,y0,p0):=by simpa using h
     rw[h];exact eQ
   refine⟨_,rfl,_,rfl,rfl,_,rfl,?_⟩;refine bb (fun hh=>?_) (fun hh=>?_)
   ·have AE:x0=x:=by simpa using hh
    refine⟨_,rfl,_,rfl,rfl,_,rfl,?_⟩;refine bb (fun hh=>?_) (fun hh=>?_)
    ·have jY:y0=y:=by simpa using hh
     have e:c7 fs x y=some p0:=rH hf C_ ⟨AE,jY⟩;rw[show cI same fs x y=some (same-p0) by simp[cI,h,e]]at q;exact⟨_,rfl,_,rfl,_,_,rfl,rfl,q⟩
    ·have jY:¬y0=y:=by simpa using hh
     exact⟨⟨_,_,_,rfl⟩,rfl,Ri fun z=>jY z.2⟩
   ·have AE:¬x0=x:=by simpa using hh
    refine gc ?_;exact⟨⟨_,_,_,rfl⟩,rfl,Ri fun z=>AE z.1⟩
  ·rintro σ H' ⟨⟨u1,u2,u3,rfl⟩,rfl,C_⟩;rw[T1.1,List.take_length]at C_;have e:c7 fs x y=none:=E3 C_;rw[show cI same fs x y=none by simp[cI,h,e]]at q;exact q
variable(bJ:bK P w K mg base true 1 "_law_pair" ["_law_x","_law_y","_law_same","_law_near_here"] tK)
theorem cy:aL ["_law_case_here","_law_way","_law_total","_law_k","_law_i","_law_j","_law_gain"] ["_law_case_here","_law_way"] (au kP):=⟨rfl,rfl,rfl,by decide+kernel,rfl,by decide+kernel,by decide+kernel⟩
include T bJ in
theorem vk{f:Addr}{fd:FuncData}(F:ju K "_law_worth" "_law_worth" kP f fd):a7 P w K mg base (cX P w) true 2 f fd ["_law_case_here","_law_way"] qB:=by
 refine F.gL cy ZH (fun bU A outer s H vs Q E hr h hX=>?_)
 ·obtain⟨a,w,c,f,g,m,l,us,ws,ps,rfl,_⟩:=h;rfl
 ·obtain⟨a,w,c,x1,x2,m,l,us,ws,ps,rfl,C1,no,hw,P1,hlen,IH,q⟩:=h;obtain⟨eQ,Hv⟩:=kG IH;have US:0<ps.length:=List.length_pos_iff.mpr eQ;have II:=P1.1;have lh:=C1.ca;have zU:=C1.nu;have nO:=no.out;have nI:=no.into;refine⟨_,(Xm (YL (2) cy.nd af) (Xm (υ hX.own (Z9 (3) cy.nd) (Xm (@zX _ _ _ _ _ _ (YF Z' (pv 3)) (ζ K (2) (by exact rfl) (Z_ (Z9 (4) cy.nd) (Z_ (Z9 (5) cy.nd) fq))) (Z5) (Z5) (Z5)) (Xm (YL (6) cy.nd (ZG bJ aQ (WW (Τ (pv 4)) (WW (Τ (pv 5)) (ρ (Τ af)))))) (Xm (ZX (Ψ (@lG _ _ _ _ _ (pv 6))) (X9 (ZJ jR)) aP) (Xm (YL (2) cy.nd (Xb br Z2 (pv 6))) (X9 (ZX (ZQ rE (pv 3) af (aV _)) (Xm (YL (2) cy.nd (Xb cz Z2 (Xb nr (Τ af) (Xb cz (Xb cz (pv 4) (Ζ (bV K) (YF Z' (Xb cz (pv 3) af)) af)) af)))) (X9 (YL (2) cy.nd (Xb cz Z2 (Xb nr (Τ af) (Xb cz (Xb cz (pv 5) (Ζ (bV K) (YF Z' (Xb cz (pv 3) af)) af)) af)))))) aP))))))) (X9 (ZJ Z2)))),?_⟩;refine⟨_,rfl,w,_,rfl, .inl (.of hw),(ws.length:Int),rfl,by lia,by lia,?_⟩;refine ft (fun i σ H'=>(∃(u1 u2 u3 u4:Option V),σ=[sR a,sR w,sI ((if i=0 then 0 else dG c ps (i-1))),u1,u2,u3,u4])∧H'=H) ⟨⟨_,_,_,_,rfl⟩,rfl⟩ ?_ ?_
  ·rintro i σ H' hi ⟨⟨u1,u2,u3,u4,rfl⟩,e0⟩;subst e0;have hi:i<ps.length:=by lia
   obtain⟨tt,yy,uS⟩:=P1.Li hi;obtain⟨wo,RH⟩:=HM (Hv i hi);obtain⟨b1,b2⟩:=c.pw_in RH;obtain⟨x,lu,yA⟩:=v7 b1.1 b1.2;obtain⟨y,GO,DZ⟩:=v7 b2.1 b2.2;have ep:c.pw (pr ps i)=cI c.same c.fs x y:=Case.pw_of lu GO;refine⟨_,rfl,_,rfl,w,_,_,_,rfl,rfl, .of hw,Vv yy,tt,_,rfl, .of uS,rfl,_,_,rfl,_,_,rfl,rfl,?_⟩;refine⟨_,rfl,a,_,0,_,rfl,rfl, .of lh,Xo (j:=0),_,rfl,x1,_,_,_,rfl,rfl, .of C1.fi,yA,_,rfl,a,_,1,_,rfl,rfl, .of lh,Xo (j:=1),_,rfl,x2,_,_,_,rfl,rfl, .of C1.se,DZ,_,rfl,a,_,2,_,rfl,rfl, .of lh,Xo (j:=2),m,_,0,_,rfl,rfl, .of zU,Xo (j:=0),_,rfl,a,_,3,_,rfl,rfl, .of lh,Xo (j:=3),x,y,c.same,l,us,c.fs,rfl,C1.ne,C1.tr,?_⟩;rw[←ep,RH];refine⟨_,rfl,_,rfl,?_⟩;refine bb (fun hh=>Z1 hh (by simp[bD])) (fun _=>?_);refine⟨_,rfl,_,rfl,_,_,rfl,rfl,?_⟩;refine⟨_,rfl,_,_,rfl,rfl,_,rfl,?_⟩;refine bb (fun h2=>?_) (fun h2=>?_)
   ·have h2:0<i:=by
     have:(0:Int)<0+(i:Int):=by simpa using h2
     lia
    obtain⟨j,rfl⟩:∃j,i=j+1:=⟨i-1,by lia⟩
    have e1:((0+((j+1:Nat):Int))-1)=((j:Nat):Int):=by lia
    obtain⟨t2,Pl,FZ⟩:=P1.Li (show j<ps.length by lia);have wz:rV ws ((0+((j+1:Nat):Int))-1)=some (.ref t2):=by rw[e1];exact ar Pl
    refine⟨_,rfl,_,rfl,a,_,2,_,rfl,rfl, .of lh,Xo (j:=2),m,_,1,_,rfl,rfl, .of zU,Xo (j:=1),_,rfl,_,rfl,_,rfl,_,_,rfl,rfl,w,_,_,_,rfl,rfl, .of hw,wz,t2,_,0,_,rfl,rfl, .of FZ,Xo (j:=0),_,_,rfl,rfl,_,_,rfl,rfl,_,_,rfl,rfl, .inl ⟨by lia,by lia⟩,_,_,rfl,rfl,?_⟩;refine⟨_,rfl,_,rfl,a,_,2,_,rfl,rfl, .of lh,Xo (j:=2),m,_,2,_,rfl,rfl, .of zU,Xo (j:=2),_,rfl,_,rfl,_,rfl,_,_,rfl,rfl,w,_,_,_,rfl,rfl, .of hw,wz,t2,_,1,_,rfl,rfl, .of FZ,Xo (j:=1),_,_,rfl,rfl,_,_,rfl,rfl,_,_,rfl,rfl, .inl ⟨by lia,by lia⟩,_,_,rfl,rfl,⟨some (.int (0+((j+1:Nat):Int))),some (.int (pr ps (j+1)).1),some (.int (pr ps (j+1)).2),some (.int wo),?_⟩,rfl⟩;have:dG c ps (j+1)=dG c ps j+wo-c.out*((pr ps (j+1)).1-(pr ps j).1-1)-c.into*((pr ps (j+1)).2-(pr ps j).2-1):=by
     simp only[dG,RH,Case.gap,Option.getD_some]
     lia
    simp only[Nat.add_sub_cancel,Nat.succ_ne_zero,if_false,this];rfl
   ·have h2:i=0:=by
     have:¬(0:Int)<0+(i:Int):=by simpa using h2
     lia
    subst h2;refine⟨⟨some (.int (0+((0:Nat):Int))),some (.int (pr ps 0).1),some (.int (pr ps 0).2),some (.int wo),?_⟩,rfl⟩;have:dG c ps 0=0+wo:=by simp[dG,RH]
    simp only[Nat.zero_add,Nat.sub_self,Nat.one_ne_zero,if_false,this];rfl
  ·rintro σ H' ⟨⟨u1,u2,u3,u4,rfl⟩,rfl⟩;have e:((ws.length:Nat):Int).toNat=ps.length:=by lia
   rw[e,Je Hy];exact⟨_,rfl,q⟩
variable(bG:bK P w K mg base true 1 "_law_whole" ["_law_found"] tH)
theorem m_:aL ["_law_found","_law_pair_here"] ["_law_found"] (au kQ):=⟨rfl,rfl,rfl,by decide+kernel,rfl,by decide+kernel,by decide+kernel⟩
include T bG in
theorem vm{f:Addr}{fd:FuncData}(F:ju K "_law_pairs" "_law_pairs" kQ f fd):a7 P w K mg base (cX P w) true 2 f fd ["_law_found"] qA:=by
 refine F.gL m_ ZH (fun bU A outer s H vs Q E hr h hX=>?_)
 ·obtain⟨a,us,ps,rfl,_⟩:=h;rfl
 ·obtain⟨a,us,ps,rfl,ha,P1,q⟩:=h;refine⟨_,(Xm (Ν (@cN _ _ _ _ (Β (ε (f7 K) T.cZ PyProof.Rows.Boot.«isinstance» (ς Y')))) aP) (Xm (Za hX.own (Γ K Y') (Z9 (1) m_.nd) (Xm (Ν (@PW.pt _ _ _ (Κ (@cN _ _ _ _ (Β (ε (f7 K) T.cZ PyProof.Rows.Boot.«isinstance» (WW Z' (SV (@jr _ _ (.ty "tuple") _ _ (by exact rfl) T.Hx PyProof.Rows.Boot.«tuple» Η (WV) (WV))))))) (@pw_or1 _ _ _ _ (ZQ vL (Ε (aK K) T.cY (SV Z')) af (aV _))))) aP) (X9 (Ν (@PW.pt _ _ _ (Κ (@cN _ _ _ _ (Β (ZG bG aQ (SV (Ζ (bV K) (pv 1) af))))) (@pw_or1 _ _ _ _ (@cN _ _ _ _ (Β (ZG bG aQ (SV (Ζ (bV K) (pv 1) af)))))))) aP)))) (X9 (ZJ dR)))),?_⟩;refine⟨_,rfl,_,_,_,true,_,rfl,rfl, .lst ha,rfl,_,rfl,?_⟩;refine gc ?_;refine⟨_,rfl,a,rfl,⟨_, .of ha⟩,?_⟩;refine bM (xs:=us) (fun i σ H'=>(∃u,σ=[sR a,u])∧H'=H) ⟨⟨_,rfl⟩,rfl⟩ ?_ ?_ ?_
  ·rintro i σ H' _ ⟨_,rfl⟩;exact .of ha
  ·rintro i v σ H' hv ⟨⟨u,rfl⟩,rfl⟩;have hi:i<ps.length:=by rw[←P1.1];exact(YG hv).1
   obtain⟨t,yy,uS⟩:=P1.Li hi;rw[hv]at yy;cases yy;refine⟨_,rfl,_,_,_,true,_,rfl,rfl, .tup uS,rfl,_,rfl,?_⟩;refine gc ?_;refine⟨_,rfl,t,_,rfl, .inr (.of uS),rfl,_,rfl,?_⟩;refine bb (fun hh=>absurd hh Vs) (fun _=>?_);refine⟨_,rfl,t,_,0,_,rfl,rfl, .of uS,Xo (j:=0),_,rfl,_,rfl,?_⟩;refine gc ?_;refine⟨_,rfl,t,_,1,_,rfl,rfl, .of uS,Xo (j:=1),_,rfl,_,rfl,?_⟩;refine gc ?_;exact⟨⟨_,rfl⟩,rfl⟩
  ·rintro σ H' ⟨⟨u,rfl⟩,rfl⟩;exact q
variable(pz:mW P w K mg base true 5 "Terms" aU ["self","same","out","into","least","part","near"] [] (sN aU dY cU))
theorem nc:aL ["_law_case_here","_law_n"] ["_law_case_here"] (au kR):=⟨rfl,rfl,rfl,by decide+kernel,rfl,by decide+kernel,by decide+kernel⟩
include T pz in
theorem vn{f:Addr}{fd:FuncData}(F:ju K "_law_terms" "_law_terms" kR f fd):a7 P w K mg base (cX P w) true 7 f fd ["_law_case_here"] (qz aU):=by
 refine F.gL nc ZH (fun bU A outer s H vs Q E hr h hX=>?_)
 ·obtain⟨a,c,f,g,m,l,us,most,rfl,_⟩:=h;rfl
 ·obtain⟨a,c,x1,x2,m,l,us,most,rfl,C1,ok,q⟩:=h;refine⟨_,(Xm (YL (1) nc.nd (YF Y' af)) (X9 (ZJ (@sJ _ _ _ _ _ _ _ _ _ _ _ _ _ _ pz (hr.mono (WV)) hX.pass (WW (YF Z' af) (WW (YF Z' af) (WW (YF Z' af) (WW (YF Z' af) (WW af (SV (ν (gY K) (by exact rfl) T.kD PyProof.Rows.Boot.«list» (SV (YF Y' af))))))))) (Z5) (WV) (Z5) (Z5))))),?_⟩;have zU:=C1.nu;have lh:=C1.ca;refine⟨_,rfl,a,_,2,_,rfl,rfl, .of lh,Xo (j:=2),?_⟩;refine⟨_,rfl,m,_,0,_,rfl,rfl, .of zU,Xo (j:=0),_,rfl,m,_,1,_,rfl,rfl, .of zU,Xo (j:=1),_,rfl,m,_,2,_,rfl,rfl, .of zU,Xo (j:=2),_,rfl,m,_,3,_,rfl,rfl, .of zU,Xo (j:=3),_,rfl,a,_,3,_,rfl,rfl, .of lh,Xo (j:=3),l,us,rfl, .inl (.of C1.ne),fun h hh=>fun x dx hx E4 eQ=>?_⟩;have s5:av (upd H h (.lst us)) (upd (upd (upd H h (.lst us)) dx (.own x)) x (.ins aU dx [])):=(Z6 E4).eP hx;have s4:av H (upd H h (.lst us)):=Z6 hh;refine⟨x,dx,⟨c.same,c.out,c.into,c.least,50⟩, .ref h,us,c.fs,rfl,ae,by rw[ao eQ];exact ae, .inr ⟨h,rfl,s5 _ _ ae,C1.tr.same (s4.trans s5)⟩,tJ ok.good,?_⟩;have Zu:i9 ⟨c.same,c.out,c.into,c.least,50⟩=true:=by
   have:=ok.same;have:=ok.out;have:=ok.into;have:=ok.least;simp[i9,inR]
   lia
  rw[MJ Zu,MJ ok.good];intro H6 l2 d sb T6 WL hd6;exact⟨rfl,q H6 x (s4.trans (SameBut.As hx E4 sb)) ⟨_,dx,l2,d,us,T6,rfl,rfl,rfl,rfl⟩⟩
theorem dB:aL ["_law_case_here","_law_many","_law_x","_law_y","_law_each","_law_same","_law_least"] ["_law_case_here"] (au lZ):=⟨rfl,rfl,rfl,by decide+kernel,rfl,by decide+kernel,by decide+kernel⟩
include T bJ in
theorem xR{f:Addr}{fd:FuncData}(F:ju K "_law_calm" "_law_calm" lZ f fd):a7 P w K mg base (cX P w) true 2 f fd ["_law_case_here"] xF:=by
 refine F.gL dB ZH (fun bU A outer s H vs Q E hr h hX=>?_)
 ·obtain⟨a,c,f,g,m,l,us,rfl,_⟩:=h;rfl
 ·obtain⟨a,c,x1,x2,m,l,us,rfl,C1,ok,q⟩:=h;refine⟨_,(Z0 (YL (1) dB.nd af) (Z0 (Za hX.own (Γ K (YF Y' af)) (Z9 (2) dB.nd) (X9 (Za hX.own (Γ K (YF Y' af)) (Z9 (3) dB.nd) (X9 (YL (1) dB.nd (Xb br Z' (ν qm Η T.BF PyProof.Rows.Boot.«int» (SV (@zW _ _ _ _ _ _ (@oz _ _ _ _ _ (ZG bJ aQ (WW Z2 (WW (pv 3) (ρ (Τ af)))))) (by first|exact bj _ (WV) (WV)|rfl)))))))))) (Z0 (YL (4) dB.nd (Xb br (Xb dU Z' af) af)) (Z0 (YL (5) dB.nd (ε (ql rfl) T.EL PyProof.Rows.Boot.«min» (WW (Τ af) (SV (Xb dU af (pv 4)))))) (Z0 (YL (6) dB.nd (ε (Ct rfl) T.Ju PyProof.Rows.Boot.«max» (WW (Τ af) (SV (Xb br (Xb nr (Xb cz (pv 4) af) (pv 5)) af))))) (X9 (ZJ (ZW (WW (YF Y' af) (WW (YF Y' af) (ρ (ZW (WW (pv 5) (WW (Τ af) (WW (Τ af) (SV (pv 6))))))))))))))))),?_⟩;have lh:=C1.ca;have zU:=C1.nu;have lx:(c.xs.map V.str).length=c.xs.length:=List.length_map ..;have ly:(c.ys.map V.str).length=c.ys.length:=List.length_map ..;refine⟨fun σ H1=>H1=H∧σ=[sR a,sI 0,none,none,none,none,none],⟨rfl,rfl⟩,?_⟩;rintro σ H1 ⟨rfl,rfl⟩;refine⟨fun σ H2=>H2=H1∧∃u v,σ=[sR a,sI (manyN c c.xs.length:Nat),u,v,none,none,none],?_,?_⟩
  ·refine⟨_,rfl,a,_,0,_,rfl,rfl, .of lh,Xo (j:=0),x1,rfl,⟨_, .of C1.fi⟩,?_⟩;refine bM (xs:=c.xs.map V.str) (fun i σ H2=>H2=H1∧∃u v,σ=[sR a,sI (manyN c i:Nat),u,v,none,none,none]) ⟨rfl,_,_,rfl⟩ ?_ ?_ ?_
   ·rintro i σ H2 _ ⟨rfl,_⟩;exact .of C1.fi
   ·rintro i v σ H2 hv ⟨rfl,u1,u2,rfl⟩;obtain⟨wx,RB,rfl⟩:=kF hv;refine⟨_,rfl,a,_,1,_,rfl,rfl, .of lh,Xo (j:=1),x2,rfl,⟨_, .of C1.se⟩,?_⟩;refine bM (xs:=c.ys.map V.str) (fun j σ H3=>H3=H2∧∃v,σ=[sR a,sI (manyN c i+Ga c i j:Nat),sS wx,v,none,none,none]) ⟨rfl,_,rfl⟩ ?_ ?_ ?_
    ·rintro j σ H3 _ ⟨rfl,_⟩;exact .of C1.se
    ·rintro j v σ H3 Mn ⟨rfl,u3,rfl⟩;obtain⟨wy,D1,rfl⟩:=kF Mn;have Nm:c.pw (aR (i,j))=cI c.same c.fs wx wy:=Case.pw_of (by rw[show(aR (i,j)).1=(i:Int)from rfl,tL];exact RB) (by rw[show(aR (i,j)).2=(j:Int)from rfl,tL];exact D1);refine⟨_,rfl,_,rfl,_,rfl,_,rfl,a,_,2,_,rfl,rfl, .of lh,Xo (j:=2),m,_,0,_,rfl,rfl, .of zU,Xo (j:=0),_,rfl,a,_,3,_,rfl,rfl, .of lh,Xo (j:=3),wx,wy,c.same,l,us,c.fs,rfl,C1.ne,C1.tr, .inr ⟨_,rfl,_,_,rfl,rfl,rfl,some (.str wy),?_⟩⟩;rw[Dt,Nm];cases cI c.same c.fs wx wy<;>simp[bD,List.set]<;>lia
    ·rintro σ H3 ⟨rfl,u3,rfl⟩;rw[ly];exact⟨rfl,_,_,rfl⟩
   ·rintro σ H2 ⟨rfl,u1,u2,rfl⟩;rw[lx];exact⟨rfl,_,_,rfl⟩
  rintro σ H1 ⟨rfl,u,v,rfl⟩;have J4:manyN c c.xs.length≤3600:=by
   have:=Cb c c.xs.length;have h2:=Nat.mul_le_mul ok.x ok.y
   lia
  have ee:((manyN c c.xs.length:Nat):Int)/21+1=(bL c:Int):=by unfold bL;lia
  have he:(1:Int)≤bL c∧(bL c:Int)≤172:=by unfold bL;lia
  refine⟨fun σ H2=>H2=H1∧σ=[sR a,sI (manyN c c.xs.length:Nat),u,v,sI (bL c),none,none],⟨_,rfl,_,_,rfl,rfl,⟨WV,WV⟩,_,_,rfl,rfl,rfl,by rw[ee];rfl⟩,?_⟩;rintro σ H1 ⟨rfl,rfl⟩;have es:(if 999999/(bL c:Int)<c.same then 999999/(bL c:Int)else c.same)=f' c:=by unfold f';split<;>lia
  refine⟨fun σ H2=>H2=H1∧σ=[sR a,sI (manyN c c.xs.length:Nat),u,v,sI (bL c),sI (f' c),none],⟨_,rfl,a,_,2,_,rfl,rfl, .of lh,Xo (j:=2),m,_,0,_,rfl,rfl, .of zU,Xo (j:=0),_,rfl,_,_,rfl,rfl,⟨by lia,by lia⟩,_,_,rfl,rfl,by rw[es];rfl⟩,?_⟩;rintro σ H1 ⟨rfl,rfl⟩;have s1:1≤f' c∧f' c≤999999:=by
   have:=(Cc ok Hy).same;exact this
  have el:(if ((bL c:Int)-1)*f' c+1>c.least then((bL c:Int)-1)*f' c+1 else c.least)=(m6 c).least:=by show _=max c.least _;split<;>lia
  refine⟨fun σ H2=>H2=H1∧σ=[sR a,sI (manyN c c.xs.length:Nat),u,v,sI (bL c),sI (f' c),sI ((m6 c).least)],⟨_,rfl,a,_,2,_,rfl,rfl, .of lh,Xo (j:=2),m,_,3,_,rfl,rfl, .of zU,Xo (j:=3),_,rfl,_,_,rfl,rfl,_,rfl,_,_,rfl,rfl, .inl ⟨by lia,by lia⟩,_,_,rfl,rfl,_,_,rfl,rfl,by rw[el];rfl⟩,?_⟩;rintro σ H1 ⟨rfl,rfl⟩;refine⟨_,rfl,a,_,0,_,rfl,rfl, .of lh,Xo (j:=0),_,rfl,a,_,1,_,rfl,rfl, .of lh,Xo (j:=1),_,rfl,_,rfl,a,_,2,_,rfl,rfl, .of lh,Xo (j:=2),m,_,1,_,rfl,rfl, .of zU,Xo (j:=1),_,rfl,a,_,2,_,rfl,rfl, .of lh,Xo (j:=2),m,_,2,_,rfl,rfl, .of zU,Xo (j:=2),_,rfl,aA Vs,fun m' CL=>?_⟩;have sm:=av.upd (o:= .lst [.int (f' c), .int c.out, .int c.into, .int (m6 c).least]) CL;have Ba:=sm _ _ lh;refine⟨_,rfl,a,_,3,_,rfl,rfl, .of Ba,Xo (j:=3),aA Vs,fun b hb=>?_⟩;have sb:=av.upd (o:= .lst [.ref x1, .ref x2, .ref m', .ref l]) hb;have sA:=sm.trans sb;exact q _ b m' sA (sm.free hb) ae ⟨ae,sA _ _ C1.fi,sA _ _ C1.se,sb _ _ ae,sA _ _ C1.ne,C1.tr.same sA⟩
variable(dC:bK P w K mg base true 2 "_law_pairs" ["_law_found"] qA)
theorem lp:aL ["_law_found","_law_told"] ["_law_found"] (au gv):=⟨rfl,rfl,rfl,by decide+kernel,rfl,by decide+kernel,by decide+kernel⟩
include T Fc bG dC in
theorem sk{f:Addr}{fd:FuncData}(F:ju K "_law_finding" "_law_finding" gv f fd):a7 P w K mg base (cX P w) true 3 f fd ["_law_found"] (uc ay):=by
 refine F.gL lp ZH (fun bU A outer s H vs Q E hr h hX=>?_)
 ·obtain⟨y,P,d,dy,wy,rw,pr,lz,iA,rfl,_⟩:=h;rfl
 ·obtain⟨y,P,d,dy,wy,iD,pr,lz,iA,rfl,F,hl,eQ,q⟩:=h;have hu:=hr.units;have JY:(A.deeper (Ρ "_law_finding" (au gv) f bU)).units<cLine:=by lia
  refine⟨_,(Xm (Ν (@PW.pt _ _ _ (Κ (@cN _ _ _ _ (Β (ZG bG aQ (SV (ZL K))))) (Κ (@cN _ _ _ _ (Β (ZG dC aQ (SV (ZL K))))) (@pw_or1 _ _ _ _ (@cN _ _ _ _ (Β (ZG dC aQ (SV (ZL K))))))))) aP) (Xm (Ν (@PW.pt _ _ _ (Κ (@cN _ _ _ _ (Β (ε (f7 K) T.cZ PyProof.Rows.Boot.«isinstance» (ς (ZL K))))) (Κ (ZQ vL (Ε (aK K) T.cY (SV (ZL K))) (Ε (aK K) T.cY (SV (ZL K))) (aV _)) (@pw_or1 _ _ _ _ (ZQ (yW K JY) (ZL K) (ZW ai) (aV _)))))) aP) (Xm (Za hX.own (Γ K (ZL K)) (Z9 (1) lp.nd) (X9 (Ν (@cN _ _ _ _ (Β (ZG bG aQ (SV Z')))) aP))) (X9 (ZJ dR))))),?_⟩;have h1:lz≠[]:=fun z=>eQ (List.length_eq_zero_iff.mp (by rw[←F.pw.1,z];rfl))
  refine⟨_,rfl,y,ay,dy,_,_,rfl,F.ob,Fc.cl,Fc.worth,jb d.worth wy iD pr,_,rfl,_,rfl,?_⟩;refine gc ?_;refine⟨_,rfl,y,ay,dy,_,_,rfl,F.ob,Fc.cl,Fc.way,qK d.worth wy iD pr,wy,lz,d.way,rfl,F.hw,F.pw,_,rfl,?_⟩;refine gc ?_;refine⟨_,rfl,y,ay,dy,_,_,rfl,F.ob,Fc.cl,Fc.pairs,ik d.worth wy iD pr,pr,iA,d.pairs,rfl,F.hp,F.pp,_,rfl,?_⟩;refine gc ?_;refine⟨_,rfl,y,ay,dy,_,_,rfl,F.ob,Fc.cl,Fc.row,AN d.worth wy iD pr,_,_,_,true,_,rfl,rfl, .lst F.hr,rfl,_,rfl,?_⟩;refine gc ?_;refine⟨_,rfl,y,ay,dy,_,_,rfl,F.ob,Fc.cl,Fc.row,AN d.worth wy iD pr,iD,_,rfl, .inl (.of F.hr),_,rfl,y,ay,dy,_,_,rfl,F.ob,Fc.cl,Fc.way,qK d.worth wy iD pr,wy,_,rfl, .inl (.of F.hw),rfl,_,rfl,?_⟩;have h2:(d.row.map V.int).length=lz.length:=by rw[List.length_map,hl,F.pw.1]
  rw[h2];refine bb (fun hh=>absurd hh Vs) (fun _=>?_);refine⟨_,rfl,y,ay,dy,_,_,rfl,F.ob,Fc.cl,Fc.way,qK d.worth wy iD pr,aA Vs,fun e he=>⟨wy,e,lz,[],fun _=>true,rfl,rfl, .of (av.upd he _ _ F.hw), .of ae,(fun j x y _ h=>by simp at h),_,rfl,?_⟩⟩;refine bb (fun hh=>Z1 hh (by simpa using h1)) (fun _=>?_);have s1:=av.upd (o:= .lst []) he;generalize upd H e (.lst [])=H1 at s1;refine⟨_,rfl,y,ay,dy,_,_,rfl,s1 _ _ F.ob,Fc.cl,Fc.row,AN d.worth wy iD pr,iD,rfl,⟨_, .of (s1 _ _ F.hr)⟩,?_⟩;refine bM (xs:=d.row.map V.int) (fun i σ H'=>(∃u,σ=[sR y,u])∧H'=H1) ⟨⟨_,rfl⟩,rfl⟩ ?_ ?_ ?_
  ·rintro i σ H' _ ⟨_,rfl⟩;exact .of (s1 _ _ F.hr)
  ·rintro i v σ H' hv ⟨⟨u,rfl⟩,rfl⟩;rw[List.getElem?_map]at hv;obtain⟨z,_,rfl⟩:=Option.map_eq_some_iff.mp hv;refine⟨_,rfl,_,rfl,_,rfl,?_⟩;refine gc ?_;exact⟨⟨_,rfl⟩,rfl⟩
  ·rintro σ H' ⟨⟨u,rfl⟩,rfl⟩;exact q _ s1
theorem gC:aL ["_law_case_here","_law_way","_law_k","_law_i","_law_j"] ["_law_case_here","_law_way"] (au g9):=⟨rfl,rfl,rfl,by decide+kernel,rfl,by decide+kernel,by decide+kernel⟩
include T bJ in
theorem uw{f:Addr}{fd:FuncData}(F:ju K "_law_is_way" "_law_is_way" g9 f fd):a7 P w K mg base (cX P w) true 2 f fd ["_law_case_here","_law_way"] tN:=by
 refine F.gL gC ZH (fun bU A outer s H vs Q E hr h hX=>?_)
 ·obtain⟨a,w,c,f,g,m,l,us,ws,ps,rfl,_⟩:=h;rfl
 ·obtain⟨a,w,c,x1,x2,m,l,us,ws,ps,rfl,C1,hw,P1,hlen,q⟩:=h;have hu:=hr.units;have JY:(A.deeper (Ρ "_law_is_way" (au g9) f bU)).units<cLine:=by lia
  have II:=P1.1;have lh:=C1.ca;have zU:=C1.nu;have lx:(c.xs.map V.str).length=c.xs.length:=List.length_map ..;have ly:(c.ys.map V.str).length=c.ys.length:=List.length_map ..;refine⟨_,(Xm (υ hX.own (Z9 (2) gC.nd) (Xm (@zX _ _ _ _ _ _ (YF Z' (pv 2)) (ζ K (2) (by exact rfl) (Z_ (Z9 (3) gC.nd) (Z_ (Z9 (4) gC.nd) fq))) (Z5) (Z5) (Z5)) (Xm (Ν (@PW.pt _ _ _ (Κ (ZQ mV (pv 3) af (aV _)) (Κ (ZQ mV (pv 4) af (aV _)) (Κ (ZQ Br (pv 3) (Ε (aK K) T.cY (SV (YF Y' af))) (aV _)) (@pw_or1 _ _ _ _ (ZQ Br (pv 4) (Ε (aK K) T.cY (SV (YF Y' af))) (aV _))))))) aP) (Xm (Ν (Ψ (@lG _ _ _ _ _ (ZG bJ aQ (WW (Τ (pv 3)) (WW (Τ (pv 4)) (ρ (Τ af))))))) aP) (X9 (Ν (@PW.pt _ _ _ (@pw_and _ _ _ _ _ _ _ (ZQ rE Z2 af (aV _)) (@pw_and1 _ _ _ _ (@PW.pt _ _ _ (Κ (ZQ Bp (pv 3) (Ζ (bV K) (YF Z' (Xb cz Z2 af)) af) (aV _)) (@pw_or1 _ _ _ _ (ZQ Bp (pv 4) (Ζ (bV K) (YF Z' (Xb cz Z2 af)) af) (aV _)))))))) aP)))))) (X9 (ZJ (@iF _ _ _ _ _ _ _ _ (tI K JY) (pv 1) (ZW ai) (aV _))))),?_⟩;refine⟨_,rfl,w,_,rfl, .inl (.of hw),(ws.length:Int),rfl,by lia,by lia,?_⟩;refine ft (fun i σ H'=>(∃(u1 u2 u3:Option V),σ=[sR a,sR w,u1,u2,u3])∧H'=H∧lN c ps i) ⟨⟨_,_,_,rfl⟩,rfl,fun k hk=>by lia⟩ ?_ ?_
  ·rintro i σ H' hi ⟨⟨u1,u2,u3,rfl⟩,e0,Hv⟩;subst e0;have hi:i<ps.length:=by lia
   obtain⟨tt,yy,uS⟩:=P1.Li hi;have bad:dE c ps i=false→Q (.bl false) H':=fun e=>by
    have:=q H' (.refl _);rw[E6 hi e]at this;exact this
   have Gx:c.pw (pr ps i)=none→Q (.bl false) H':=fun e=>bad (by simp[dE,e])
   refine⟨_,rfl,_,rfl,w,_,_,_,rfl,rfl, .of hw,Vv yy,tt,_,rfl, .of uS,rfl,_,_,rfl,_,_,rfl,rfl,?_⟩;refine⟨_,rfl,_,_,rfl,rfl,_,rfl,?_⟩;refine bb (fun h1=>?_) (fun h1=>?_)
   ·have h1:(pr ps i).1<0:=by simpa using h1
    refine jS ?_;exact Gx (Case.pw_out Hy)
   have h1:¬(pr ps i).1<0:=by simpa using h1
   refine⟨_,rfl,_,_,rfl,rfl,_,rfl,?_⟩;refine bb (fun h2=>?_) (fun h2=>?_)
   ·have h2:(pr ps i).2<0:=by simpa using h2
    refine jS ?_;exact Gx (Case.pw_out Hy)
   have h2:¬(pr ps i).2<0:=by simpa using h2
   refine⟨_,rfl,_,rfl,a,_,0,_,rfl,rfl, .of lh,Xo (j:=0),x1,_,rfl, .inl (.of C1.fi),_,_,rfl,rfl,_,rfl,?_⟩;rw[lx];refine bb (fun h3=>?_) (fun h3=>?_)
   ·have h3:(c.xs.length:Int)≤(pr ps i).1:=by simpa using h3
    refine jS ?_;exact Gx (Case.pw_out Hy)
   have h3:¬(c.xs.length:Int)≤(pr ps i).1:=by simpa using h3
   refine⟨_,rfl,_,rfl,a,_,1,_,rfl,rfl, .of lh,Xo (j:=1),x2,_,rfl, .inl (.of C1.se),_,_,rfl,rfl,_,rfl,?_⟩;rw[ly];refine bb (fun h4=>?_) (fun h4=>?_)
   ·have h4:(c.ys.length:Int)≤(pr ps i).2:=by simpa using h4
    exact Gx (Case.pw_out Hy)
   have h4:¬(c.ys.length:Int)≤(pr ps i).2:=by simpa using h4
   obtain⟨x,lu,yA⟩:=v7 (xs:=c.xs) (i:=(pr ps i).1) (by lia) (by lia);obtain⟨y,GO,DZ⟩:=v7 (xs:=c.ys) (i:=(pr ps i).2) (by lia) (by lia);have ep:c.pw (pr ps i)=cI c.same c.fs x y:=Case.pw_of lu GO;refine⟨_,rfl,a,_,0,_,rfl,rfl, .of lh,Xo (j:=0),_,rfl,x1,_,_,_,rfl,rfl, .of C1.fi,yA,_,rfl,a,_,1,_,rfl,rfl, .of lh,Xo (j:=1),_,rfl,x2,_,_,_,rfl,rfl, .of C1.se,DZ,_,rfl,a,_,2,_,rfl,rfl, .of lh,Xo (j:=2),m,_,0,_,rfl,rfl, .of zU,Xo (j:=0),_,rfl,a,_,3,_,rfl,rfl, .of lh,Xo (j:=3),x,y,c.same,l,us,c.fs,rfl,C1.ne,C1.tr,_,rfl,?_⟩;rw[←ep];refine bb (fun h5=>?_) (fun h5=>?_)
   ·refine Gx ?_;cases e:c.pw (pr ps i)with
    |none=>rfl
    |some v=>rw[e]at h5;simp[bD]at h5
   have h5:(c.pw (pr ps i)).isSome=true:=by
    cases e:c.pw (pr ps i)with
    |none=>rw[e]at h5;simp[bD]at h5
    |some v=>rfl
   refine⟨_,rfl,_,_,rfl,rfl,_,rfl,?_⟩;refine bb (fun h6=>?_) (fun h6=>?_)
   rotate_left
   ·have h6:i=0:=by
     have:¬(0:Int)<0+(i:Int):=by simpa using h6
     lia
    refine gc ?_;exact⟨⟨_,_,_,rfl⟩,rfl,Hv.next (by simp[dE,h5,h6]at h5⊢;exact h5)⟩
   have h6:0<i:=by
    have:(0:Int)<0+(i:Int):=by simpa using h6
    lia
   obtain⟨j,rfl⟩:∃j,i=j+1:=⟨i-1,by lia⟩
   have e1:((0+((j+1:Nat):Int))-1)=((j:Nat):Int):=by lia
   obtain⟨t2,Pl,FZ⟩:=P1.Li (show j<ps.length by lia);have wz:rV ws ((0+((j+1:Nat):Int))-1)=some (.ref t2):=by rw[e1];exact ar Pl
   refine⟨_,rfl,_,rfl,_,rfl,_,_,rfl,rfl,w,_,_,_,rfl,rfl, .of hw,wz,t2,_,0,_,rfl,rfl, .of FZ,Xo (j:=0),_,_,rfl,rfl,_,rfl,?_⟩;refine bb (fun h7=>?_) (fun h7=>?_)
   ·have h7:(pr ps (j+1)).1≤(pr ps j).1:=by simpa using h7
    refine jS ?_;refine bad ?_;have:stepOk (pr ps j) (pr ps (j+1))=false:=by simp[stepOk];lia
    simp[dE,this]
   have h7:¬(pr ps (j+1)).1≤(pr ps j).1:=by simpa using h7
   refine⟨_,rfl,_,rfl,_,rfl,_,_,rfl,rfl,w,_,_,_,rfl,rfl, .of hw,wz,t2,_,1,_,rfl,rfl, .of FZ,Xo (j:=1),_,_,rfl,rfl,_,rfl,?_⟩;refine bb (fun h8=>?_) (fun h8=>?_)
   ·have h8:(pr ps (j+1)).2≤(pr ps j).2:=by simpa using h8
    refine bad ?_;have:stepOk (pr ps j) (pr ps (j+1))=false:=by simp[stepOk];lia
    simp[dE,this]
   have h8:¬(pr ps (j+1)).2≤(pr ps j).2:=by simpa using h8
   refine⟨⟨_,_,_,rfl⟩,rfl,Hv.next ?_⟩;have:stepOk (pr ps j) (pr ps (j+1))=true:=by simp[stepOk];lia
   simp[dE,h5,this]
  ·rintro σ H' ⟨⟨u1,u2,u3,rfl⟩,e0,Hv⟩;subst e0;have e:((ws.length:Nat):Int).toNat=ps.length:=by lia
   rw[e]at Hv;refine⟨_,rfl,aA Vs,fun pn Np=>⟨w,pn,_,rfl,rfl, .of (av.upd Np _ _ hw), .of ae,?_⟩⟩;have hq:=q _ (av.upd (o:= .lst []) Np);by_cases hz:ps=[]
   ·subst hz;have:ws=[]:=List.length_eq_zero_iff.mp II;subst this;exact hq
   ·rw[my hz Hv]at hq;have:ws≠[]:=fun z=>hz (by subst z;exact List.length_eq_zero_iff.mp II.symm)
    have:(!ws.isEmpty)=true:=by simpa using this
    rw[this];exact hq
theorem fJ:aL ["_law_case_here","_law_shut","_law_found","_law_i","_law_j","_law_gain"] ["_law_case_here","_law_shut"] (au iM):=⟨rfl,rfl,rfl,by decide+kernel,rfl,by decide+kernel,by decide+kernel⟩
include T bJ in
theorem vo{f:Addr}{fd:FuncData}(F:ju K "_law_spots" "_law_spots" iM f fd):a7 P w K mg base (cX P w) true 2 f fd ["_law_case_here","_law_shut"] ub:=by
 refine F.gL fJ ZH (fun bU A outer s H vs Q E hr h hX=>?_)
 ·obtain⟨a,s0,c,f,g,m,l,us,ws,sh,rfl,_⟩:=h;rfl
 ·obtain⟨a,s0,c,x1,x2,m,l,us,ws,sh,rfl,C1,hs,P1,hx,hy,q⟩:=h;have hu:=hr.units;have hu:(A.deeper (Ρ "_law_spots" (au iM) f bU)).units+1<cLine:=by lia
  have lx:(c.xs.map V.str).length=c.xs.length:=List.length_map ..;have ly:(c.ys.map V.str).length=c.ys.length:=List.length_map ..;refine⟨_,(Xm (YL (2) fJ.nd (ZW ai)) (Xm (Za hX.own (@eh _ _ _ _ _ _ (by exact rfl) T.fN (SV (Ε (aK K) T.cY (SV (YF Y' af)))) (Z5)) (Z9 (3) fJ.nd) (X9 (Za hX.own (@eh _ _ _ _ _ _ (by exact rfl) T.fN (SV (Ε (aK K) T.cY (SV (YF Y' af)))) (Z5)) (Z9 (4) fJ.nd) (Xm (YL (5) fJ.nd (ZG bJ aQ (WW (Τ (pv 3)) (WW (Τ (pv 4)) (ρ (Τ af)))))) (X9 (ZX (@PW.pt _ _ _ (@pw_and _ _ _ _ _ _ _ (Ψ (@oz _ _ _ _ _ (pv 5))) (@pw_and1 _ _ _ _ (ZQ (m7 K hu) (@eC _ _ _ _ _ (WW (pv 3) (SV (pv 4)))) (pv 1) (by with_unfolding_all rfl))))) (X9 (ZY (Ω K PySem.F.slot_list_append PySem.F.type_list_append bT Z2 (SV (@eC _ _ _ _ _ (WW (pv 3) (WW (pv 4) (SV (pv 5))))))))) aP)))))) (X9 (ZJ Z2)))),?_⟩;refine⟨aA Vs,fun b hb=>?_⟩;have C2:=C1.keep (av.upd (o:= .lst []) hb);refine⟨_,rfl,a,_,0,_,rfl,rfl, .of C2.ca,Xo (j:=0),x1,_,rfl, .inl (.of C2.fi),((c.xs.map V.str).length:Int),rfl,by lia,by lia,?_⟩;refine ft (fun i σ H'=>(∃u1 u2 u3,σ=[sR a,sR s0,sR b,u1,u2,u3])∧av H H'∧∃xs,H' b=some (.lst xs)∧DY H' xs (kb c sh i)) ⟨⟨_,_,_,rfl⟩,Z6 hb,[],ae, .nil⟩ ?_ ?_
  ·rintro i σ H' hi ⟨⟨u1,u2,u3,rfl⟩,s1,xs,jY,S1⟩;have hi:i<c.xs.length:=by rw[lx]at hi;lia
   have C3:=C1.keep s1;refine⟨_,rfl,a,_,1,_,rfl,rfl, .of C3.ca,Xo (j:=1),x2,_,rfl, .inl (.of C3.se),((c.ys.map V.str).length:Int),rfl,by lia,by lia,?_⟩;refine ft (fun j σ H'=>(∃u2 u3,σ=[sR a,sR s0,sR b,sI ((0+(i:Int))),u2,u3])∧av H H'∧∃xs,H' b=some (.lst xs)∧DY H' xs (kb c sh i++lR c sh i j)) ⟨⟨_,_,rfl⟩,s1,xs,jY,by rw[lR,List.append_nil];exact S1⟩ ?_ ?_
   ·clear s1 jY S1 xs u1 u2 u3 C3 H';rintro j σ H' hj ⟨⟨u2,u3,rfl⟩,s1,xs,jY,S1⟩;have hj:j<c.ys.length:=by rw[ly]at hj;lia
    have C3:=C1.keep s1;obtain⟨x,lu,yA⟩:=v7 (xs:=c.xs) (i:=0+(i:Int)) (by lia) (by lia);obtain⟨y,GO,DZ⟩:=v7 (xs:=c.ys) (i:=0+(j:Int)) (by lia) (by lia);have ez:(0+(i:Int),0+(j:Int))=aR (i,j):=Prod.ext (by simp[aR]) (by simp[aR]);have ep:c.pw (aR (i,j))=cI c.same c.fs x y:=by rw[←ez];exact Case.pw_of lu GO
    have sl:=S1.1;have l1:=wk c sh i;have l2:=qQ c sh i j;have l3:i*c.ys.length≤50*50:=Nat.mul_le_mul Hy hy;rw[List.length_append]at sl;refine⟨_,rfl,a,_,0,_,rfl,rfl, .of C3.ca,Xo (j:=0),_,rfl,x1,_,_,_,rfl,rfl, .of C3.fi,yA,_,rfl,a,_,1,_,rfl,rfl, .of C3.ca,Xo (j:=1),_,rfl,x2,_,_,_,rfl,rfl, .of C3.se,DZ,_,rfl,a,_,2,_,rfl,rfl, .of C3.ca,Xo (j:=2),m,_,0,_,rfl,rfl, .of C3.nu,Xo (j:=0),_,rfl,a,_,3,_,rfl,rfl, .of C3.ca,Xo (j:=3),x,y,c.same,l,us,c.fs,rfl,C3.ne,C3.tr,?_⟩;rw[←ep];refine⟨_,rfl,_,rfl,?_⟩;cases e:c.pw (aR (i,j))with
    |none=>
     refine bb (fun hh=>Z1 hh (by simp[bD])) (fun _=>?_);refine gc ?_;refine⟨⟨_,_,rfl⟩,s1,xs,jY,?_⟩;have:om c sh (aR (i,j))=none:=by unfold om;split;rfl;exact e
     rw[lR,this,List.append_nil];exact S1
    |some w=>
     refine bb (fun _=>?_) (fun hh=>Z1 (by simp[bD]) hh);refine⟨_,rfl,_,rfl,aA Vs,fun p hp=>?_⟩;have s2:=s1.trans (av.upd (o:= .tup [.int (0+(i:Int)), .int (0+(j:Int))]) hp);have xD:=av.upd (o:= .tup [.int (0+(i:Int)), .int (0+(j:Int))]) hp _ _ jY;have S2:=S1.cD (c_.same (av.upd (o:= .tup [.int (0+(i:Int)), .int (0+(j:Int))]) hp));refine⟨_,rfl,p,s0,(0+(i:Int),0+(j:Int)),ws,sh,rfl,rfl,ae, .of (s2 _ _ hs),P1.same s2,_,rfl,?_⟩;generalize upd H' p (.tup [.int (0+(i:Int)), .int (0+(j:Int))])=H2 at s2 xD S2;rw[ez];refine bb (fun h1=>?_) (fun h1=>?_)
     ·have h1:aR (i,j)∉sh:=by simpa using h1
      refine⟨_,rfl, .inl ⟨rfl,_, .of xD⟩,_,rfl,_,rfl,_,rfl,aA Vs,fun t ht=>⟨b,xs,_,rfl,rfl,av.upd ht _ _ xD,bf Hy,⟨_,_,rfl⟩,(s2.trans (Z6 ht)).eP hb,_,ae,?_⟩⟩;have e2:om c sh (aR (i,j))=some w:=by unfold om;rw[Je h1];exact e
      rw[lR,e2,←List.append_assoc];have S3:DY (upd H2 t (.tup [.int (0+(i:Int)), .int (0+(j:Int)), .int w])) (xs++[.ref t]) ((kb c sh i++lR c sh i j)++[(aR (i,j),w)]):=(S2.cD (c_.same (Z6 ht))).snoc (by rw[←ez];exact ae);exact S3.cD (c_.lst (av.upd ht _ _ xD))
     ·have h1:aR (i,j)∈sh:=by simpa using h1
      refine⟨⟨_,_,rfl⟩,s2,xs,xD,?_⟩;have:om c sh (aR (i,j))=none:=by unfold om;rw[MJ h1]
      rw[lR,this,List.append_nil];exact S2
   ·rintro σ H2 ⟨⟨u2,u3,rfl⟩,s2,Gv,xD,S2⟩;rw[ly,Int.toNat_natCast]at S2;exact⟨⟨_,_,_,rfl⟩,s2,Gv,xD,S2⟩
  ·rintro σ H2 ⟨⟨u1,u2,u3,rfl⟩,s2,Gv,xD,S2⟩;rw[lx,Int.toNat_natCast]at S2;exact⟨_,rfl,q _ b _ s2 hb xD S2⟩
variable(gD:bK P w K mg base true 3 "_law_finding" ["_law_found"] (uc ay))
variable(h_:bK P w K mg base true 2 "_law_is_way" ["_law_case_here","_law_way"] tN)
variable(iT:bK P w K mg base true 2 "_law_worth" ["_law_case_here","_law_way"] qB)
variable(iU:bK P w K mg base true 2 "_law_spots" ["_law_case_here","_law_shut"] ub)
theorem cC:aL ["_law_case_here","_law_told","_law_held","_law_one","_law_pair_here","_law_i","_law_j","_law_gain"] ["_law_case_here","_law_told"] (au g_):=⟨rfl,rfl,rfl,by decide+kernel,rfl,by decide+kernel,by decide+kernel⟩
include T Fc gD h_ iT iU in
theorem ux{f:Addr}{fd:FuncData}(F:ju K "_law_anchor" "_law_anchor" g_ f fd):a7 P w K mg base (cX P w) true 4 f fd ["_law_case_here","_law_told"] (qR ay):=by
 refine F.gL cC ZH (fun bU A outer s H vs Q E hr h hX=>?_)
 ·obtain⟨a,t,c,f,g,m,l,us,ws,es,rfl,_⟩:=h;rfl
 ·obtain⟨b,t,c,x1,x2,m,l,us,vs,es,rfl,C3,ok,ht,FL,TD,q⟩:=h;have hu:=hr.units;have hu:(A.deeper (Ρ "_law_anchor" (au g_) f bU)).units+1<cLine:=by lia
  have WO:=ok.x;have WQ:=ok.y;have Qe:=FL.1;refine⟨_,(Z0 (YL (2) cC.nd j7) (Z0 (Za hX.own (Γ K Z') (Z9 (3) cC.nd) (Z0 (Ν (@PW.pt _ _ _ (Κ (@cN _ _ _ _ (Β (ZG gD aQ (SV (pv 3))))) (Κ (@cN _ _ _ _ (Β (ZG h_ aQ (WW Y' (SV (Ξ K (pv 3))))))) (@pw_or1 _ _ _ _ (ZQ mV (Ξ K (pv 3)) (Τ af) (aV _)))))) aP) (Z0 (Ν (ZQ vL (ZG iT aQ (WW Y' (SV (Ξ K (pv 3))))) (Ξ K (pv 3)) (aV _)) aP) (Z0 (Za hX.own (Γ K (Ξ K (pv 3))) (Z9 (4) cC.nd) (Z0 (Ν (Ψ (@qr _ _ _ _ _ hu (pv 4) (pv 2))) aP) (X9 (@ky _ _ _ _ _ _ _ _ _ hu Z2 (pv 4) dR Η)))) (X9 (Za hX.own (Γ K (Ξ K (pv 3))) (Z9 (4) cC.nd) (X9 (Ν (ZQ (m7 K hu) (pv 4) (Ξ K (pv 3)) (by with_unfolding_all rfl)) aP)))))))) (Z0 (Za hX.own (Γ K (ZG iU aQ (WW Y' (SV (ZW ai))))) (ζ K (3) (by exact rfl) (Z_ (Z9 (5) cC.nd) (Z_ (Z9 (6) cC.nd) (Z_ (Z9 (7) cC.nd) fq)))) (X9 (Ν (@PW.pt _ _ _ (@pw_and _ _ _ _ _ _ _ (ZQ Br (pv 7) (Τ af) (aV _)) (@pw_and1 _ _ _ _ (Ψ (@vT _ _ _ _ _ hu (@eC _ _ _ _ _ (WW (pv 5) (SV (pv 6)))) (pv 2)))))) aP))) (X9 (ZJ dR))))),?_⟩;refine⟨fun σ H4=>∃d,σ=[sR b,sR t,sR d,none,none,none,none,none]∧av H H4∧H d=none∧H4 d=some (.dT []),fun d hd=>⟨d,rfl,Z6 hd,hd,ae⟩,?_⟩;rintro σ H4 ⟨D,rfl,s4,Na,hD⟩;refine⟨fun σ H5=>(∃u1 u2,σ=[sR b,sR t,sR D,u1,u2,none,none,none])∧av H H5∧∃kvs,H5 D=some (.dT kvs)∧m3 kvs (lS es es.length),?_,?_⟩
  ·refine⟨_,rfl,t,rfl,⟨_, .of (s4 _ _ ht)⟩,?_⟩;refine bM (xs:=vs) (fun k σ H5=>(∃u1 u2,σ=[sR b,sR t,sR D,u1,u2,none,none,none])∧av H H5∧∃kvs,H5 D=some (.dT kvs)∧kvs.length≤(lS es k).length∧m3 kvs (lS es k)) ⟨⟨_,_,rfl⟩,s4,[],hD,Nat.zero_le _,fun p=>by simp[sZ,lS]⟩ ?_ ?_ ?_
   ·rintro k σ H5 _ ⟨_,s5,_⟩;exact .of (s5 _ _ ht)
   ·rintro k v σ H5 hv ⟨⟨u1,u2,rfl⟩,s5,kvs,GU,Q8,Nr⟩;have hk:k<es.length:=by rw[←Qe];exact(YG hv).1
    have ek:es[k]?=some es[k]:=by simp[hk]
    generalize es[k]=d at ek;obtain⟨y,dy,wy,iD,pr,lz,iA,e1,F3⟩:=FL.2 k d ek;rw[hv]at e1;cases e1;have jW:=TD.jW d (ZI ek);have FF:∀{H'},av H H'→wj (fun _=>True) H' ay y d dy wy iD pr lz iA:=fun{H'} s'=>F3.keep (fun b o _ e=>s' b o e) (c_.same s') fun _ h=>h
    have iw:=Ge jW.way;have nd:=qO jW.qH;have pl:=TD.Gg ok (k+1);rw[ud ek,List.length_append]at pl;have wl:d.way.length≤2500:=by
     have h6:=len_sub d.way d.pairs (jW.way.up.imp fun{a b} h e=>by
      rw[e]at h;have:=h.1
      lia) jW.sub
     lia
    refine⟨fun σ H6=>σ=[sR b,sR t,sR D,sR y,u2,none,none,none]∧av H5 H6,?_,?_⟩
    ·have F:=FF s5;refine⟨_,rfl,y,_,d,dy,wy,iD,pr,lz,iA,rfl,F,by rw[jW.row,Ir],jW.way.ne,fun H6 s6=>⟨_,rfl,?_⟩⟩;refine gc ?_;have F:=FF (s5.trans s6);refine⟨_,rfl,_,rfl,y,ay,dy,_,_,rfl,F.ob,Fc.cl,Fc.way,qK d.worth wy iD pr,b,wy,c,x1,x2,m,l,us,lz,d.way,rfl,C3.keep (s5.trans s6),F.hw,F.pw,by lia,fun H7 s7=>⟨_,rfl,?_⟩⟩;rw[iw];refine gc ?_;have UW:=s6.trans s7;have F:=FF (s5.trans UW);have C7:=C3.keep (s5.trans UW);have lh:=C7.ca;refine⟨_,rfl,y,ay,dy,_,_,rfl,F.ob,Fc.cl,Fc.worth,jb d.worth wy iD pr,_,rfl,b,_,2,_,rfl,rfl, .of lh,Xo (j:=2),m,_,3,_,rfl,rfl, .of C7.nu,Xo (j:=3),_,_,rfl,rfl,_,rfl,?_⟩;have:=jW.least;exact bb (fun hh=>Z1 hh (by simp;lia)) (fun _=>⟨rfl,UW⟩)
    rintro σ H6 ⟨rfl,s6⟩;have s7:=s5.trans s6;have Nl:=s6 _ _ GU;have F:=FF s7;refine⟨fun σ H7=>σ=[sR b,sR t,sR D,sR y,u2,none,none,none]∧H7=H6,?_,?_⟩
    ·refine⟨_,rfl,_,rfl,y,ay,dy,_,_,rfl,F.ob,Fc.cl,Fc.way,qK d.worth wy iD pr,b,wy,c,x1,x2,m,l,us,lz,d.way,rfl,C3.keep s7,ok.num,F.hw,F.pw,by lia,iw,_,rfl,y,ay,dy,_,_,rfl,F.ob,Fc.cl,Fc.worth,jb d.worth wy iD pr,rfl,_,rfl,?_⟩;rw[(Iq iw).2,jW.worth];exact bb (fun hh=>absurd hh Vs) (fun _=>⟨rfl,rfl⟩)
    rintro σ H7 ⟨rfl,rfl⟩;refine⟨fun σ H8=>(∃u3,σ=[sR b,sR t,sR D,sR y,u3,none,none,none])∧av H H8∧∃kvs,H8 D=some (.dT kvs)∧kvs.length≤(lS es (k+1)).length∧m3 kvs (lS es (k+1)),?_,?_⟩
    ·refine⟨_,rfl,y,ay,dy,_,_,rfl,F.ob,Fc.cl,Fc.pairs,ik d.worth wy iD pr,pr,rfl,⟨_, .of F.hp⟩,?_⟩;refine bM (xs:=iA) (fun i σ H8=>(∃u3,σ=[sR b,sR t,sR D,sR y,u3,none,none,none])∧av H H8∧∃kvs,H8 D=some (.dT kvs)∧kvs.length≤(lS es k).length+i∧m3 kvs (lS es k++d.pairs.take i)) ⟨⟨_,rfl⟩,s7,kvs,Nl,by lia,by simpa using Nr⟩ ?_ ?_ ?_
     ·rintro i σ H8 _ ⟨_,s8,_⟩;exact .of (FF s8).hp
     ·rintro i v σ H8 hv ⟨⟨u,rfl⟩,s8,IW,Nt,Qf,Mu⟩;have hi:i<d.pairs.length:=by rw[←F3.pp.1];exact(YG hv).1
      have ei:d.pairs[i]?=some d.pairs[i]:=by simp[hi]
      generalize d.pairs[i]=g at ei;obtain⟨tt,g1,g2⟩:=F3.pp.2 i g ei;rw[hv]at g1;cases g1;have hn:g∉lS es k++d.pairs.take i:=fun z=>(List.mem_append.mp z).elim (TD.Iv ek (ZI ei)) (Iw nd ei)
      refine⟨fun σ H9=>σ=[sR b,sR t,sR D,sR y,sR tt,none,none,none]∧H9=H8,?_,?_⟩
      ·refine⟨_,rfl,_,rfl,D,_,rfl, .t (k:=ba g) Nt (s8 _ _ g2),_,rfl,?_⟩;rw[Mu];exact bb (fun hh=>Z1 (by simpa using hh) hn) (fun _=>⟨rfl,rfl⟩)
      rintro σ H9 ⟨rfl,rfl⟩;refine⟨_,rfl,_,rfl,D,_,rfl, .t (k:=ba g) Nt (s8 _ _ g2) (bf Hy),⟨_,rfl⟩,s8.eP Na,_,ae,Nat.le_trans (eU _ _ _) (by lia),?_⟩;have:=Gh Mu g (.bl true);rw[List.append_assoc]at this;rw[List.take_succ,ei];exact this
     ·rintro σ H8 ⟨UX,s8,IW,Nt,Qf,Mu⟩;rw[F3.pp.1]at Qf;rw[F3.pp.1,List.take_length]at Mu;rw[ud ek];exact⟨UX,s8,IW,Nt,by rw[List.length_append];exact Qf,Mu⟩
    rintro σ H8 ⟨⟨u4,rfl⟩,s8,IW,Nt,Qf,Mu⟩;have F:=FF s8;refine⟨_,rfl,y,ay,dy,_,_,rfl,F.ob,Fc.cl,Fc.way,qK d.worth wy iD pr,wy,rfl,⟨_, .of F.hw⟩,?_⟩;refine bM (xs:=lz) (fun i σ H9=>(∃u3,σ=[sR b,sR t,sR D,sR y,u3,none,none,none])∧H9=H8) ⟨⟨_,rfl⟩,rfl⟩ ?_ ?_ ?_
    ·rintro i σ H9 _ ⟨_,rfl⟩;exact .of F.hw
    ·rintro i v σ H9 hv ⟨⟨u,rfl⟩,rfl⟩;have hi:i<d.way.length:=by rw[←F.pw.1];exact(YG hv).1
     have ei:d.way[i]?=some d.way[i]:=by simp[hi]
     generalize d.way[i]=g at ei;obtain⟨tt,g1,g2⟩:=F.pw.2 i g ei;rw[hv]at g1;cases g1;refine⟨_,rfl,_,rfl,y,ay,dy,_,_,rfl,F.ob,Fc.cl,Fc.pairs,ik d.worth wy iD pr,tt,pr,g,iA,d.pairs,rfl,rfl,g2, .of F.hp,F.pp,_,rfl,?_⟩;have:=jW.sub g (ZI ei);exact bb (fun hh=>Z1 hh (by simp[this])) (fun _=>⟨⟨_,rfl⟩,rfl⟩)
    ·rintro σ H9 ⟨⟨u,rfl⟩,rfl⟩;exact⟨⟨_,_,rfl⟩,s8,IW,Nt,Qf,Mu⟩
   ·rintro σ H5 ⟨UX,s5,kvs,GU,_,Nr⟩;rw[Qe]at Nr;exact⟨UX,s5,kvs,GU,Nr⟩
  rintro σ H5 ⟨⟨u1,u2,rfl⟩,s5,kvs,GU,Nr⟩;refine⟨fun σ H4=>av H H4,?_,fun σ H4 s4=>q _ s4⟩;refine⟨_,rfl,aA Vs,fun e he=>?_⟩;have s6:=s5.trans (av.upd (o:= .lst []) he);refine⟨b,e,c,x1,x2,m,l,us,[],[],rfl,C3.keep s6,ae, .nil,by lia,by lia,fun H7 r ws s7 rM h7 S7=>⟨r,rfl,⟨_, .of h7⟩,?_⟩⟩;have WR:=s6.trans s7;have Nl:=s7 _ _ (av.upd (o:= .lst []) he _ _ GU);refine bM (xs:=ws) (fun k σ H8=>(∃v1 v2 v3,σ=[sR b,sR t,sR D,u1,u2,v1,v2,v3])∧av H7 H8) ⟨⟨_,_,_,rfl⟩, .refl _⟩ ?_ ?_ (fun _ _ ⟨_,s8⟩=>WR.trans s8)
  ·rintro k σ H8 _ ⟨_,s8⟩;exact .of (s8 _ _ h7)
  ·rintro k v σ H8 hv ⟨⟨v1,v2,v3,rfl⟩,s8⟩;have hk:k<(kb c [] c.xs.length).length:=by rw[←S7.1];exact(YG hv).1
   have ek:(kb c [] c.xs.length)[k]?=some (kb c [] c.xs.length)[k]:=by simp[hk]
   generalize (kb c [] c.xs.length)[k]=x at ek;obtain⟨tt,k1,k2⟩:=S7.2 k x ek;rw[hv]at k1;cases k1;have Zv:=wt (ZI ek);have C8:=C3.keep (WR.trans s8);have lh:=C8.ca;refine⟨tt,_,rfl, .of (s8 _ _ k2),rfl,_,_,rfl,_,_,rfl,_,_,rfl,rfl,?_⟩;refine⟨_,rfl,_,rfl,b,_,2,_,rfl,rfl, .of lh,Xo (j:=2),m,_,3,_,rfl,rfl, .of C8.nu,Xo (j:=3),_,_,rfl,rfl,_,rfl,?_⟩;refine bb (fun h1=>?_) (fun _=>?_)
   ·have h1:c.least≤x.2:=by simpa using h1
    refine⟨_,rfl,_,rfl,aA Vs,fun p hp=>⟨_,rfl,D,_,rfl, .t (k:=ba x.1) (av.upd hp _ _ (s8 _ _ Nl)) ae,_,rfl,?_⟩⟩;rw[Nr];obtain⟨d,hd,hq⟩:=TD.pair Zv h1;refine bb (fun hh=>Z1 hh (by simp;exact Md hd hq)) (fun _=>?_);exact⟨⟨_,_,_,rfl⟩,s8.trans (Z6 hp)⟩
   ·refine gc ?_;exact⟨⟨_,_,_,rfl⟩,s8⟩
variable(mK:bK P w K mg base true 8 "compare" ["first","second","terms"] (xE aU ay kc))
variable(iV:bK P w K mg base true 7 "_law_terms" ["_law_case_here"] (qz aU))
theorem vp:aL ["_law_case_here"] ["_law_case_here"] (au kT):=⟨rfl,rfl,rfl,by decide+kernel,rfl,by decide+kernel,by decide+kernel⟩
include T mK iV in
theorem vt{f:Addr}{fd:FuncData}(F:ju K "_law_asked" "_law_asked" kT f fd):a7 P w K mg base (cX P w) true 9 f fd ["_law_case_here"] (xI ay):=by
 refine F.gL vp ZH (fun bU A outer s H vs Q E hr h hX=>?_)
 ·obtain⟨a,c,f,g,m,l,us,most,rfl,_⟩:=h;rfl
 ·obtain⟨a,c,x1,x2,m,l,us,most,rfl,C1,ok,hm,uO,q⟩:=h;refine⟨_,(X9 (ZJ (ZG mK aQ (WW (ν (gY K) (by exact rfl) T.kD PyProof.Rows.Boot.«list» (SV (YF Y' af))) (WW (ν (gY K) (by exact rfl) T.kD PyProof.Rows.Boot.«list» (SV (YF Y' af))) (SV (ZG iV aQ (SV Y')))))))),?_⟩;have lh:=C1.ca;refine⟨_,rfl,a,_,0,_,rfl,rfl, .of lh,Xo (j:=0),x1,_,rfl, .inl (.of C1.fi),fun y1 GO=>?_⟩;have s1:=av.upd (o:= .lst (c.xs.map V.str)) GO;have UY:=s1 _ _ lh;refine⟨_,rfl,a,_,1,_,rfl,rfl, .of UY,Xo (j:=1),x2,_,rfl, .inl (.of (s1 _ _ C1.se)),fun y2 DZ=>?_⟩;have s2:=s1.trans (av.upd (o:= .lst (c.ys.map V.str)) DZ);refine⟨_,rfl,a,c,x1,x2,m,l,us,most,rfl,C1.keep s2,ok,fun H3 t s3 TF=>?_⟩;have Nk:=s2.trans s3;have WO:=ok.x;have WQ:=ok.y;refine⟨y1,y2,t,c,rfl,s3 _ _ (av.upd DZ _ _ ae),s3 _ _ ae,TF,by lia,by lia,fun es TD H4 r vs s4 hr h4 FL=>?_,fun ds f2 RC hl H4 s4=>?_⟩
  ·exact q es TD H4 r vs (Nk.trans s4) (Nk.free hr) h4 (FL.keep (fun _ _ _ h=>h) (fun _ _ h=>h) fun b hb=>trivial)
  ·have:=uO _ _ RC
   lia
theorem jH:aL ["_law_told","_law_due","_law_k"] ["_law_told","_law_due"] (au fB):=⟨rfl,rfl,rfl,by decide+kernel,rfl,by decide+kernel,by decide+kernel⟩
include T Fc bG dC in
theorem pA{f:Addr}{fd:FuncData}(F:ju K "_law_same_list" "_law_same_list" fB f fd):a7 P w K mg base (cX P w) true 3 f fd ["_law_told","_law_due"] (ue ay):=by
 refine F.gL jH ZH (fun bU A outer s H vs Q E hr h hX=>?_)
 ·obtain⟨t,d,us,ws,es,P,rfl,_⟩:=h;rfl
 ·obtain⟨t,d0,us,ws,es,P,rfl,ht,FL,hd,D,hl,q⟩:=h;have hu:=hr.units;have hu:(A.deeper (Ρ "_law_same_list" (au fB) f bU)).units+1<cLine:=by lia
  have e1:=FL.1;have e2:=D.1;rw[List.length_map]at e2;refine⟨_,(Xm (Ν (@PW.pt _ _ _ (Κ (@cN _ _ _ _ (Β (ε (f7 K) T.cZ PyProof.Rows.Boot.«isinstance» (ς Y')))) (@pw_or1 _ _ _ _ (ZQ vL (Ε (aK K) T.cY (SV Y')) (Ε (aK K) T.cY (SV Z')) (aV _))))) aP) (Xm (υ hX.own (Z9 (2) jH.nd) (Xm (Ν (@PW.pt _ _ _ (Κ (@cN _ _ _ _ (Β (ZG bG aQ (SV (Ξ K (YF Y' (pv 2))))))) (@pw_or1 _ _ _ _ (ZQ vL (Ξ K (YF Y' (pv 2))) (Ζ (bV K) (YF Z' (pv 2)) af) (aV _))))) aP) (X9 (Ν (@PW.pt _ _ _ (Κ (@cN _ _ _ _ (Β (ZG dC aQ (SV (Ξ K (YF Y' (pv 2))))))) (@pw_or1 _ _ _ _ (ZQ (AX K hu) (Ξ K (YF Y' (pv 2))) (Ζ (bV K) (YF Z' (pv 2)) af) (aV _))))) aP)))) (X9 (ZJ dR)))),?_⟩;refine⟨_,rfl,_,_,_,true,_,rfl,rfl, .lst ht,rfl,_,rfl,?_⟩;refine gc ?_;refine⟨_,rfl,t,_,rfl, .inl (.of ht),_,rfl,d0,_,rfl, .inl (.of hd),rfl,_,rfl,?_⟩;refine bb (fun hh=>Z1 hh (by simp;lia)) (fun _=>?_);refine⟨_,rfl,d0,_,rfl, .inl (.of hd),_,rfl,by lia,by lia,?_⟩;refine ft (fun i σ H'=>(∃u,σ=[sR t,sR d0,u])∧H'=H) ⟨⟨_,rfl⟩,rfl⟩ ?_ ?_
  ·rintro i σ H' hi ⟨⟨u,rfl⟩,rfl⟩;have hi:i<es.length:=by have:i<((ws.length:Nat):Int).toNat:=hi;lia
   have ei:es[i]?=some es[i]:=by simp[hi]
   generalize es[i]=d at ei;obtain⟨y,dy,wy,iD,pr,lz,iA,k1,F⟩:=FL.2 i d ei;obtain⟨tt,ll,Zw,k2,k3,k4,P4⟩:=D.2 i (Gj d) (by rw[List.getElem?_map,ei];rfl);have wz:∀{vs:List V}{v},vs[i]?=some v→rV vs (0+(i:Int))=some v:=fun{vs v} h=>by rw[Int.zero_add];exact ar h
   refine⟨_,rfl,_,rfl,t,_,_,_,rfl,rfl, .of ht,wz k1,y,ay,dy,_,_,rfl,F.ob,Fc.cl,Fc.worth,jb d.worth wy iD pr,_,rfl,_,rfl,?_⟩;refine gc ?_;refine⟨_,rfl,_,rfl,t,_,_,_,rfl,rfl, .of ht,wz k1,y,ay,dy,_,_,rfl,F.ob,Fc.cl,Fc.worth,jb d.worth wy iD pr,_,rfl,_,rfl,d0,_,_,_,rfl,rfl, .of hd,wz k2,tt,_,0,_,rfl,rfl, .of k3,Xo (j:=0),rfl,_,rfl,?_⟩;refine bb (fun hh=>Z1 hh (by simp[Gj])) (fun _=>?_);refine⟨_,rfl,_,rfl,t,_,_,_,rfl,rfl, .of ht,wz k1,y,ay,dy,_,_,rfl,F.ob,Fc.cl,Fc.pairs,ik d.worth wy iD pr,pr,iA,d.pairs,rfl,F.hp,F.pp,_,rfl,?_⟩;refine gc ?_;refine⟨_,rfl,_,rfl,t,_,_,_,rfl,rfl, .of ht,wz k1,y,ay,dy,_,_,rfl,F.ob,Fc.cl,Fc.pairs,ik d.worth wy iD pr,_,rfl,_,rfl,d0,_,_,_,rfl,rfl, .of hd,wz k2,tt,_,1,_,rfl,rfl, .of k3,Xo (j:=1),pr,ll,iA,Zw,d.pairs,rfl,rfl, .of F.hp, .of k4,F.pp,P4,_,rfl,?_⟩;refine gc ?_;exact⟨⟨_,rfl⟩,rfl⟩
  ·rintro σ H' ⟨⟨u,rfl⟩,rfl⟩;exact q
variable(jI:bK P w K mg base true 3 "_law_case" ["_law_script","_law_most"] (ui K))
variable(jJ:bK P w K mg base true 2 "_law_calm" ["_law_case_here"] xF)
variable(gE:bK P w K mg base true 9 "_law_asked" ["_law_case_here"] (xI ay))
variable(fK:bK P w K mg base true 4 "_law_anchor" ["_law_case_here","_law_told"] (qR ay))
variable(fC:bK P w K mg base true 3 "_law_same_list" ["_law_told","_law_due"] (ue ay))
theorem fX:aL ["_law_script","_law_case_here","_law_known","_law_x","_law_y","_law_price","_law_spare","_law_pads","_law_first","_law_second","_law_longer","_law_told","_law_found","_law_due"] ["_law_script"] (au m9):=⟨rfl,rfl,rfl,by decide+kernel,rfl,by decide+kernel,by decide+kernel⟩
include T Fc aX jI jJ gE fK fC in
theorem Mw{f:Addr}{fd:FuncData}(F:ju K "law" "law" m9 f fd):a7 P w K mg base (cX P w) true 10 f fd ["_law_script"] (BG K):=by
 refine F.gL fX ZH (fun bU A outer s H vs Q E hr h hX=>?_)
 ·obtain⟨a,ns,rfl,_⟩:=h;rfl
 ·obtain⟨a,ns,rfl,hS,hlen,q⟩:=h;have hu:=hr.units;have hu:(A.deeper (Ρ "law" (au m9) f bU)).units+1<cLine:=by lia
  have JY:=Nat.lt_of_succ_lt hu;refine⟨_,(Z0 (YL (1) fX.nd (ZG jJ aQ (SV (δ jI aQ)))) (Z0 (ξ (2) fX.nd (Or.inr rfl) (Xb qu (YF Z' af) (YF Z' af))) (Z0 (Za hX.own (Γ K (YF Z' af)) (ζ K (3) (by exact rfl) (Z_ (Z9 (3) fX.nd) (Z_ (Z9 (4) fX.nd) (Z_ (Z9 (5) fX.nd) fq)))) (X9 (ξ (2) fX.nd (Or.inr rfl) (Xb qu Z2 (ZW (WW (pv 3) (SV (pv 4)))))))) (Z0 (@kC _ _ _ _ _ _ _ _ _ _ _ _ _ _ _ (6) _ _ (by exact rfl) fX.nd Η (by exact rfl) (show bh ["_law_script","_law_case_here","_law_known","_law_x","_law_y","_law_price","_law_spare","_law_pads","_law_first","_law_second","_law_longer","_law_told","_law_found","_law_due"] (au m9) _ ["_law_word"] [2] ["_law_known"]from⟨rfl,by decide+kernel,by decide+kernel,by decide+kernel,rfl,rfl,by decide+kernel,by decide+kernel,by decide+kernel⟩) (Γ K (ZW (WW bY (WW bY (WW bY (WW bY (WW bY (WW bY (WW bY (SV bY)))))))))) (fun _ _ _ _ _=>(Z9 (0) (show(["_law_word","_law_known"]:List Str).Nodup by decide+kernel))) (fun _ _ _ _ _=>(@w_ _ _ _ (ZQ (uX K) (pv 0) (pv 1) (by with_unfolding_all rfl)))) (fun _ _ _ _ _=>(pv 0)) (Z5) (by intro _;rfl)) (Z0 (ξ (7) fX.nd (Or.inr rfl) (ZW (WW (Xb bH (δ aX aQ) af) (WW (Xb bH (δ aX aQ) af) (WW (Xb bH (δ aX aQ) af) (SV (Xb bH (δ aX aQ) af))))))) (Z0 (YL (8) fX.nd (Xb qu (Xb qu (Xb tD (ZW (SV (YF (pv 6) af))) (YF (pv 7) af)) (YF Z' af)) (Xb tD (ZW (SV (YF (pv 6) af))) (YF (pv 7) af)))) (Z0 (YL (9) fX.nd (Xb qu (Xb qu (Xb tD (ZW (SV (YF (pv 6) af))) (YF (pv 7) af)) (YF Z' af)) (Xb tD (ZW (SV (YF (pv 6) af))) (YF (pv 7) af)))) (Z0 (YL (10) fX.nd (ZW (WW (pv 8) (WW (pv 9) (WW (YF Z' af) (SV (YF Z' af))))))) (Z0 (YL (11) fX.nd (ZG gE aQ (SV Z'))) (Z0 (YL (12) fX.nd (ZG gE aQ (SV (pv 10)))) (Z0 (Ν (@PW.pt _ _ _ (Κ (@cN _ _ _ _ (Β (ε (f7 K) T.cZ PyProof.Rows.Boot.«isinstance» (ς (pv 11))))) (@pw_or1 _ _ _ _ (@cN _ _ _ _ (Β (ε (f7 K) T.cZ PyProof.Rows.Boot.«isinstance» (ς (pv 12)))))))) aP) (Z0 (Ν (@PW.pt _ _ _ (Κ (@cN _ _ _ _ (Β (ZG fK aQ (WW Z' (SV (pv 11)))))) (@pw_or1 _ _ _ _ (@cN _ _ _ _ (Β (ZG fK aQ (WW (pv 10) (SV (pv 12))))))))) aP) (Z0 (@kC _ _ _ _ _ _ _ _ _ _ _ _ _ _ _ (13) _ _ (by exact rfl) fX.nd Η (by exact rfl) (show bh ["_law_script","_law_case_here","_law_known","_law_x","_law_y","_law_price","_law_spare","_law_pads","_law_first","_law_second","_law_longer","_law_told","_law_found","_law_due"] (au m9) _ ["_law_one"] [7] ["_law_pads"]from⟨rfl,by decide+kernel,by decide+kernel,by decide+kernel,rfl,rfl,by decide+kernel,by decide+kernel,by decide+kernel⟩) (Γ K (pv 11)) (fun _ _ _ _ _=>(Z9 (0) (show(["_law_one","_law_pads"]:List Str).Nodup by decide+kernel))) (fun _ _ _ _ _=>gX) (fun _ _ _ _ _=>(@eC _ _ _ _ _ (WW (ZL K) (SV (@mq _ _ _ _ _ _ _ _ _ _ _ _ _ _ (by exact rfl) (show bh ["_law_one","_law_pads"] _ _ ["_law_i","_law_j"] [1] ["_law_pads"]from⟨rfl,by decide+kernel,by decide+kernel,by decide+kernel,rfl,rfl,of_decide_eq_true (by kernel_rfl),of_decide_eq_true (by kernel_rfl),by decide+kernel⟩) (Γ K (ZL K)) (fun _ _ _ _ _=>(ζ K (2) (by exact rfl) (Z_ (Z9 (0) (show(["_law_i","_law_j","_law_pads"]:List Str).Nodup by decide+kernel)) (Z_ (Z9 (1) (show(["_law_i","_law_j","_law_pads"]:List Str).Nodup by decide+kernel)) fq)))) (fun _ _ _ _ _=>gX) (fun _ _ _ _ _=>(@eC _ _ _ _ _ (WW (Xb br Y' (YF Z2 af)) (SV (Xb br Z' (YF Z2 af)))))) (by intro _;rfl)))))) (Z5) (by intro _;rfl)) (X9 (ZJ (ZG fC aQ (WW (pv 12) (SV (pv 13))))))))))))))))))),?_⟩;refine⟨fun σ H1=>∃(b:Addr)(c c0:Case)(zs:List Str)(x1 x2 m l:Addr)(us:List V),σ=[sR a,sR b,none,none,none,none,none,none,none,none,none,none,none,none]∧av H H1∧jx H1 b c x1 x2 m l us∧eX 12 c∧zs.length≤5∧Gm c zs∧(∀q,(c.pw q).isSome=(c0.pw q).isSome)∧((bL c0:Int)-1)*c.same+1≤c.least,?_,?_⟩
  ·refine⟨_,rfl,a,ns,12,rfl,hS,by lia,by lia,by lia,fun H1 b c x1 x2 m l us s1 hb C1 ok zs hze UZ hzw hzn W=>?_⟩;have hx:=ok.x;have hy:=ok.y;have U0:eX 60 c:=⟨by lia,by lia,ok.good,ok.same,ok.out,ok.into,ok.least⟩
   have U1:eX 12 c:=⟨by lia,by lia,ok.good,ok.same,ok.out,ok.into,ok.least⟩
   exact⟨b,c,x1,x2,m,l,us,rfl,C1,U0,fun H2 b2 m2 s2 xD uW C2=>⟨b2,m6 c,c,zs,x1,x2,m2,l,us,rfl,s1.trans s2,C2,Cc U1 Hy,UZ,⟨W.x,W.y,W.f⟩,Du c,AY c⟩⟩
  rintro σ H1 ⟨b,c,c0,zs,x1,x2,m,l,us,rfl,s1,C1,ok,UZ,W,Q2,GK⟩;have uO:=Cf (φ:=id) ok (fun _ _ h=>h) ⟨Q2,GK⟩;have WO:=ok.x;have WQ:=ok.y;have lh:=C1.ca;have lx:(c.xs.map V.str).length=c.xs.length:=List.length_map ..;have ly:(c.ys.map V.str).length=c.ys.length:=List.length_map ..;refine⟨fun σ H2=>∃kn,σ=[sR a,sR b,sR kn,none,none,none,none,none,none,none,none,none,none,none]∧av H1 H2∧H2 kn=some (.lst ((c.xs++c.ys).map V.str)),?_,?_⟩
  ·refine⟨_,rfl,b,_,0,_,rfl,rfl, .of lh,Xo (j:=0),_,rfl,b,_,1,_,rfl,rfl, .of lh,Xo (j:=1),x1,x2,_,_,rfl,rfl,C1.fi,C1.se,aA Hy,fun p hp=>⟨p,rfl,Z6 hp,?_⟩⟩;rw[ae,List.map_append]
  rintro σ H2 ⟨kn,rfl,s2,WS⟩;have C2:=C1.keep s2;have Ba:=C2.ca;have fl:=(tJ ok.good).1;refine⟨fun σ H3=>∃(kn:Addr)(ks:List Str)(u1 u2 u3:Option V),σ=[sR a,sR b,sR kn,u1,u2,u3,none,none,none,none,none,none,none,none]∧av H2 H3∧H3 kn=some (.lst (ks.map V.str))∧∀w,w∈ks↔w∈c.xs∨w∈c.ys∨∃f∈c.fs,w=f.1∨w=f.2.1,?_,?_⟩
  ·refine⟨_,rfl,b,_,3,_,rfl,rfl, .of Ba,Xo (j:=3),l,rfl,⟨_, .of C2.ne⟩,?_⟩;refine bM (xs:=us) (fun i σ H3=>∃(kn:Addr)(ks:List Str)(u1 u2 u3:Option V),σ=[sR a,sR b,sR kn,u1,u2,u3,none,none,none,none,none,none,none,none]∧av H2 H3∧H3 kn=some (.lst (ks.map V.str))∧ks.length≤24+2*i∧∀w,w∈ks↔w∈c.xs∨w∈c.ys∨∃f∈c.fs.take i,w=f.1∨w=f.2.1) ⟨kn,c.xs++c.ys,_,_,_,rfl, .refl _,WS,by rw[List.length_append];lia,fun w=>XC⟩ ?_ ?_ ?_
   ·rintro i σ H3 _ ⟨_,_,_,_,_,_,s3,_⟩;exact .of (s3 _ _ C2.ne)
   ·rintro i v σ H3 hv ⟨kn,ks,u1,u2,u3,rfl,s3,Mi,Q8,Gu⟩;have hi:i<c.fs.length:=by rw[←C2.tr.1];exact(YG hv).1
    have hf:c.fs[i]?=some c.fs[i]:=by simp[hi]
    generalize c.fs[i]=f0 at hf;obtain⟨t0,h1,h2⟩:=C2.tr.2 i f0 hf;rw[hv]at h1;cases h1;obtain⟨x,y,pr⟩:=f0;refine⟨t0,_,rfl, .of (s3 _ _ h2),rfl,_,_,rfl,_,_,rfl,_,_,rfl,rfl,?_⟩;refine⟨_,rfl,_,rfl,_,rfl,aA Vs,fun p hp=>⟨kn,p,_,_,rfl,rfl,av.upd hp _ _ Mi,ae,aA (by rw[List.length_map];show _+2≤_;lia),fun p2 wN=>⟨p2,ks++[x,y],_,_,_,rfl,(s3.trans (Z6 hp)).trans (Z6 wN),?_,?_,fun w=>?_⟩⟩⟩
    ·rw[ae,List.map_append];rfl
    ·rw[List.length_append];show _+2≤_;lia
    ·rw[List.mem_append,Gu,List.take_succ,hf];simp only[List.mem_append,Option.toList_some,List.mem_cons,List.not_mem_nil,or_false];constructor
     ·rintro((h|h|⟨f,h,e⟩)|h)
      ·exact .inl h
      ·exact .inr (.inl h)
      ·exact .inr (.inr ⟨f, .inl h,e⟩)
      ·exact .inr (.inr ⟨(x,y,pr), .inr rfl,h⟩)
     ·rintro(h|h|⟨f,h|h,e⟩)
      ·exact .inl (.inl h)
      ·exact .inl (.inr (.inl h))
      ·exact .inl (.inr (.inr ⟨f,h,e⟩))
      ·subst h;exact .inr e
   ·rintro σ H3 ⟨kn,ks,u1,u2,u3,rfl,s3,Mi,_,Gu⟩;rw[C2.tr.1,List.take_length]at Gu;exact⟨kn,ks,u1,u2,u3,rfl,s3,Mi,Gu⟩
  clear WS;rintro σ H3 ⟨kn,ks,u1,u2,u3,rfl,s3,Mi,Gu⟩;have C3:=C2.keep s3;obtain⟨s0,zt,rest,es,n0,n1,Zx⟩:=Dy (ks:=ks) (zs:=zs) (fun w hw=>by
   rcases(Gu w).mp hw with h|h|⟨f,h,e⟩
   ·exact W.x w h
   ·exact W.y w h
   ·rcases e with e|e
    ·rw[e];exact(W.f f h).1
    ·rw[e];exact(W.f f h).2) UZ
  refine⟨fun σ H4=>∃sp,σ=[sR a,sR b,sR kn,u1,u2,u3,sR sp,none,none,none,none,none,none,none]∧av H3 H4∧H4 sp=some (.lst ((s0::zt::rest).map V.str)),?_,?_⟩
  ·refine⟨aA Vs,fun L hL=>⟨L,rfl,⟨_, .of ae⟩,fun D hD=>?_⟩⟩;have sL:=av.upd (o:= .lst (fE.map V.str)) hL;refine f6 (xs:=fE.map V.str) (fun i ys bB H4=>(∃u,bB=[u,sR kn])∧H4 D=some (.lst ys)∧av (upd H3 L (.lst (fE.map V.str))) H4∧ys=((fE.take i).filter fun w=>decide (w∉ks)).map V.str) ⟨⟨_,rfl⟩,ae,Z6 hD,rfl⟩ ?_ ?_ ?_
   ·rintro i ys bB H4 _ ⟨_,_,s4,_⟩;exact .of (s4 _ _ ae)
   ·rintro i v ys bB H4 hv ⟨⟨u,rfl⟩,Cj,s4,rfl⟩;obtain⟨w,hw,rfl⟩:=kF hv;have Zy:=s4 _ _ (sL _ _ Mi);have et:fE.take (i+1)=fE.take i++[w]:=by rw[List.take_succ,hw];rfl
    have SK:((fE.take i).filter fun w=>decide (w∉ks)).length≤8:=Nat.le_trans (List.length_filter_le _ _) (by rw[List.length_take];exact Nat.min_le_right _ _);refine⟨_,rfl,_,rfl,kn,_,rfl, .inl (.of Zy),rfl,by simp[List.all_map,i7],_,rfl,?_⟩;rw[HH];refine bb (fun h=>?_) (fun h=>?_)
    ·have h:w∉ks:=by simpa using h
     refine⟨_,rfl,Cj,bf (by rw[List.length_map];lia),⟨_,rfl⟩,ae,s4.eP hD,?_⟩;rw[et,List.filter_append,List.map_append];simp[h]
    ·have h:w∈ks:=by simpa using h
     refine⟨⟨_,rfl⟩,Cj,s4,?_⟩;rw[et,List.filter_append];simp[h]
   ·rintro ys bB H4 ⟨_,Cj,s4,rfl⟩;rw[List.length_map,List.take_length,es]at Cj;exact⟨D,rfl,sL.trans s4,Cj⟩
  rintro σ H4 ⟨sp,rfl,s4,Cz⟩;have C4:=C3.keep s4;have Nq:=(((s1.trans s2).trans s3).trans s4).seq hS;have z0:∀i:Int,0≤i%15∧i%15<15:=fun i=>⟨Int.emod_nonneg _ (by lia),Int.emod_lt_of_pos _ (by lia)⟩
  have RJ:(0:Int)<15:=WV;refine⟨fun σ H5=>∃(pd:Addr)(a0 a1 a2 a3:Nat),σ=[sR a,sR b,sR kn,u1,u2,u3,sR sp,sR pd,none,none,none,none,none,none]∧av H4 H5∧H5 pd=some (.lst [.int a0, .int a1, .int a2, .int a3])∧(a0<15∧a1<15∧a2<15∧a3<15),?_,?_⟩
  ·refine⟨_,rfl,a,ns,12,rfl,Nq,WV,_,_,rfl,rfl,RJ,_,rfl,a,ns,13,rfl,Nq,WV,_,_,rfl,rfl,RJ,_,rfl,a,ns,14,rfl,Nq,WV,_,_,rfl,rfl,RJ,_,rfl,a,ns,15,rfl,Nq,WV,_,_,rfl,rfl,RJ,aA Vs,fun p hp=>?_⟩;obtain⟨a0,e0⟩:=Int.eq_ofNat_of_zero_le (z0 (cell ns 12)).1;obtain⟨a1,e1⟩:=Int.eq_ofNat_of_zero_le (z0 (cell ns 13)).1;obtain⟨a2,e2⟩:=Int.eq_ofNat_of_zero_le (z0 (cell ns 14)).1;obtain⟨a3,e3⟩:=Int.eq_ofNat_of_zero_le (z0 (cell ns 15)).1;have b0:=(z0 (cell ns 12)).2;have b1:=(z0 (cell ns 13)).2;have b2:=(z0 (cell ns 14)).2;have b3:=(z0 (cell ns 15)).2;rw[e0]at b0;rw[e1]at b1;rw[e2]at b2;rw[e3]at b3;refine⟨p,a0,a1,a2,a3,rfl,Z6 hp,?_,by lia⟩;rw[ae,e0,e1,e2,e3]
  rintro σ H5 ⟨pd,a0,a1,a2,a3,rfl,s5,RK,ha⟩;have C5:=C4.keep s5;refine⟨fun σ H6=>∃ff,σ=[sR a,sR b,sR kn,u1,u2,u3,sR sp,sR pd,sR ff,none,none,none,none,none]∧av H5 H6∧H6 ff=some (.lst ((lA a0 s0 c.xs a1).map V.str)),?_,?_⟩
  ·have Gy:=s5 _ _ Cz;refine⟨_,rfl,sp,_,0,_,rfl,rfl, .of Gy,Xo (j:=0),aA Vs,fun p1 AF=>?_⟩;have t1:=av.upd (o:= .lst [.str s0]) AF;have Mx:=t1 _ _ RK;refine⟨_,rfl,pd,_,0,_,rfl,rfl, .of Mx,Xo (j:=0),p1,_,_,rfl,rfl,ae,by lia,by lia,aA (by show 1*_≤_;lia),fun p2 wN=>?_⟩;rw[show((a0:Nat):Int).toNat=a0 by lia,sV];have t2:=t1.trans (av.upd (o:= .lst ((List.replicate a0 s0).map V.str)) wN);have Ba:=t2 _ _ C5.ca;refine⟨_,rfl,b,_,0,_,rfl,rfl, .of Ba,Xo (j:=0),p2,x1,_,_,rfl,rfl,ae,t2 _ _ C5.fi,aA (by rw[List.length_map,List.length_replicate];lia),fun p3 M7=>?_⟩;have t3:=t2.trans (av.upd (o:= .lst ((List.replicate a0 s0).map V.str++c.xs.map V.str)) M7);have My:=t3 _ _ Gy;refine⟨_,rfl,sp,_,0,_,rfl,rfl, .of My,Xo (j:=0),aA Vs,fun p4 U2=>?_⟩;have q4:=av.upd (o:= .lst [.str s0]) U2;have t4:=t3.trans q4;have Mz:=t4 _ _ RK;refine⟨_,rfl,pd,_,1,_,rfl,rfl, .of Mz,Xo (j:=1),p4,_,_,rfl,rfl,ae,by lia,by lia,aA (by show 1*_≤_;lia),fun p5 U3=>?_⟩;rw[show((a1:Nat):Int).toNat=a1 by lia,sV];have q5:=q4.trans (av.upd (o:= .lst ((List.replicate a1 s0).map V.str)) U3);refine⟨p3,p5,_,_,rfl,rfl,q5 _ _ ae,ae,aA (by simp only[List.length_append,List.length_map,List.length_replicate];lia),fun p6 U4=>⟨p6,rfl,(t3.trans q5).trans (Z6 U4),?_⟩⟩;rw[ae];unfold lA;rw[List.map_append,List.map_append]
  rintro σ H6 ⟨ff,rfl,s6,Zz⟩;have C6:=C5.keep s6;refine⟨fun σ H7=>∃fs,σ=[sR a,sR b,sR kn,u1,u2,u3,sR sp,sR pd,sR ff,sR fs,none,none,none,none]∧av H6 H7∧H7 fs=some (.lst ((lA a2 zt c.ys a3).map V.str)),?_,?_⟩
  ·have Gy:=(s5.trans s6) _ _ Cz;have Qg:=s6 _ _ RK;refine⟨_,rfl,sp,_,1,_,rfl,rfl, .of Gy,Xo (j:=1),aA Vs,fun p1 AF=>?_⟩;have t1:=av.upd (o:= .lst [.str zt]) AF;have Mx:=t1 _ _ Qg;refine⟨_,rfl,pd,_,2,_,rfl,rfl, .of Mx,Xo (j:=2),p1,_,_,rfl,rfl,ae,by lia,by lia,aA (by show 1*_≤_;lia),fun p2 wN=>?_⟩;rw[show((a2:Nat):Int).toNat=a2 by lia,sV];have t2:=t1.trans (av.upd (o:= .lst ((List.replicate a2 zt).map V.str)) wN);have Ba:=t2 _ _ C6.ca;refine⟨_,rfl,b,_,1,_,rfl,rfl, .of Ba,Xo (j:=1),p2,x2,_,_,rfl,rfl,ae,t2 _ _ C6.se,aA (by rw[List.length_map,List.length_replicate];lia),fun p3 M7=>?_⟩;have t3:=t2.trans (av.upd (o:= .lst ((List.replicate a2 zt).map V.str++c.ys.map V.str)) M7);have My:=t3 _ _ Gy;refine⟨_,rfl,sp,_,1,_,rfl,rfl, .of My,Xo (j:=1),aA Vs,fun p4 U2=>?_⟩;have q4:=av.upd (o:= .lst [.str zt]) U2;have t4:=t3.trans q4;have Mz:=t4 _ _ Qg;refine⟨_,rfl,pd,_,3,_,rfl,rfl, .of Mz,Xo (j:=3),p4,_,_,rfl,rfl,ae,by lia,by lia,aA (by show 1*_≤_;lia),fun p5 U3=>?_⟩;rw[show((a3:Nat):Int).toNat=a3 by lia,sV];have q5:=q4.trans (av.upd (o:= .lst ((List.replicate a3 zt).map V.str)) U3);refine⟨p3,p5,_,_,rfl,rfl,q5 _ _ ae,ae,aA (by simp only[List.length_append,List.length_map,List.length_replicate];lia),fun p6 U4=>⟨p6,rfl,(t3.trans q5).trans (Z6 U4),?_⟩⟩;rw[ae];unfold lA;rw[List.map_append,List.map_append]
  rintro σ H7 ⟨fs,rfl,s7,ZA⟩;have C7:=C6.keep s7;have Qh:=C7.ca;have Nm:∀q,(IA c a0 a1 a2 a3 s0 zt).pw q=c.pw (m8 (-(a0:Int)) (-(a2:Int)) q):=Pu Zx ⟨fun z=>n0 ((Gu s0).mpr (.inr (.inl z))),fun f hf z=>n0 ((Gu s0).mpr (.inr (.inr ⟨f,hf, .inl z.symm⟩)))⟩ ⟨fun z=>n1 ((Gu zt).mpr (.inl z)),fun f hf z=>n1 ((Gu zt).mpr (.inr (.inr ⟨f,hf, .inr z.symm⟩)))⟩;have RL:eX 50 (IA c a0 a1 a2 a3 s0 zt):=⟨by show(lA _ _ _ _).length≤_;rw[xJ];lia,by show(lA _ _ _ _).length≤_;rw[xJ];lia,ok.good,ok.same,ok.out,ok.into,ok.least⟩
  have U5:eX 50 c:=⟨Nat.le_trans ok.x Hy,Nat.le_trans ok.y Hy,ok.good,ok.same,ok.out,ok.into,ok.least⟩
  have Qi:=Cf (φ:=m8 (-(a0:Int)) (-(a2:Int))) RL (IB _ _) ⟨fun q=>by rw[Nm];exact Q2 _,GK⟩;have WT:∀q,lf (iH (IA c a0 a1 a2 a3 s0 zt) []) q=lf (iH c []) (m8 (-(a0:Int)) (-(a2:Int)) q):=fun q=>by rw[ua,ua,Nm]
  refine⟨fun σ H8=>∃g,σ=[sR a,sR b,sR kn,u1,u2,u3,sR sp,sR pd,sR ff,sR fs,sR g,none,none,none]∧av H7 H8∧jx H8 g (IA c a0 a1 a2 a3 s0 zt) ff fs m l us,?_,?_⟩
  ·refine⟨_,rfl,_,rfl,_,rfl,b,_,2,_,rfl,rfl, .of Qh,Xo (j:=2),_,rfl,b,_,3,_,rfl,rfl, .of Qh,Xo (j:=3),aA Vs,fun g hg=>?_⟩;have sb:=av.upd (o:= .lst [.ref ff, .ref fs, .ref m, .ref l]) hg;exact⟨g,rfl,sb,ae,sb _ _ (s7 _ _ Zz),sb _ _ ZA,sb _ _ C7.nu,sb _ _ C7.ne,C7.tr.same sb⟩
  rintro σ H8 ⟨g,rfl,s8,G8⟩;have C8:=C7.keep s8;have WU:(IA c a0 a1 a2 a3 s0 zt).out=c.out∧(IA c a0 a1 a2 a3 s0 zt).into=c.into∧(IA c a0 a1 a2 a3 s0 zt).least=c.least:=⟨rfl,rfl,rfl⟩
  generalize IA c a0 a1 a2 a3 s0 zt=c' at G8 RL Qi WT WU;refine⟨fun σ H9=>∃(t:Addr)(vs:List V)(es:List Fd),σ=[sR a,sR b,sR kn,u1,u2,u3,sR sp,sR pd,sR ff,sR fs,sR g,sR t,none,none]∧av H8 H9∧H9 t=some (.lst vs)∧cb (fun _=>True) H9 ay vs es∧bR (iH c []) c.out c.into c.least es,?_,?_⟩
  ·exact⟨_,rfl,b,c,x1,x2,m,l,us,12,rfl,C8,ok,by lia,uO,fun es TD H9 t vs s9 _ h9 FL=>⟨t,vs,es,rfl,s9,h9,FL,TD⟩⟩
  rintro σ H9 ⟨t,vs,es,rfl,s9,ht,FL,TD⟩;refine⟨fun σ GF=>∃(r:Addr)(ws:List V)(zV:List Fd),σ=[sR a,sR b,sR kn,u1,u2,u3,sR sp,sR pd,sR ff,sR fs,sR g,sR t,sR r,none]∧av H9 GF∧GF r=some (.lst ws)∧cb (fun _=>True) GF ay ws zV∧bR (iH c' []) c'.out c'.into c'.least zV,?_,?_⟩
  ·exact⟨_,rfl,g,c',ff,fs,m,l,us,50,rfl,G8.keep s9,RL,by lia,Qi,fun es TD GF t vs Jq _ ZC FL=>⟨t,vs,es,rfl,Jq,ZC,FL,TD⟩⟩
  rintro σ GF ⟨r,ws,zV,rfl,Jq,hr,FR,TR⟩;have MA:=Jq _ _ ht;have Qj:=FL.keep (P':=fun _=>True) (fun b o _ e=>Jq b o e) (c_.same Jq) fun _ h=>h
  refine⟨fun σ Jr=>σ=[sR a,sR b,sR kn,u1,u2,u3,sR sp,sR pd,sR ff,sR fs,sR g,sR t,sR r,none]∧Jr=GF,?_,?_⟩
  ·refine⟨_,rfl,_,_,_,true,_,rfl,rfl, .lst MA,rfl,_,rfl,?_⟩;refine gc ?_;refine⟨_,rfl,_,_,_,true,_,rfl,rfl, .lst hr,rfl,_,rfl,?_⟩;exact gc ⟨rfl,rfl⟩
  rintro σ GF ⟨rfl,rfl⟩;have MB:=s9.trans Jq;refine⟨fun σ Jr=>σ=[sR a,sR b,sR kn,u1,u2,u3,sR sp,sR pd,sR ff,sR fs,sR g,sR t,sR r,none]∧av GF Jr,?_,?_⟩
  ·refine⟨_,rfl,_,rfl,b,t,c,x1,x2,m,l,us,vs,es,rfl,C8.keep MB,U5,MA,Qj,TD,fun Jr BC=>⟨_,rfl,?_⟩⟩;refine gc ?_;refine⟨_,rfl,_,rfl,g,r,c',ff,fs,m,l,us,ws,zV,rfl,G8.keep (MB.trans BC),RL,BC _ _ hr,FR.keep (fun b o _ e=>BC b o e) (c_.same BC) (fun _ h=>h),TR,fun DB ur=>⟨_,rfl,?_⟩⟩;exact gc ⟨rfl,BC.trans ur⟩
  rintro σ Jr ⟨rfl,BC⟩;have Qk:=BC _ _ MA;have U6:=BC _ _ hr;have Ql:=Qj.keep (P':=fun _=>True) (fun b o _ e=>BC b o e) (c_.same BC) fun _ h=>h
  have U7:=FR.keep (P':=fun _=>True) (fun b o _ e=>BC b o e) (c_.same BC) fun _ h=>h
  have Qm:=(((s6.trans s7).trans s8).trans (MB.trans BC)) _ _ RK;have Qe:=Ql.1;have aau:=TD.uO;have aaN:=TR.uO;refine⟨fun σ DB=>∃D ys,σ=[sR a,sR b,sR kn,u1,u2,u3,sR sp,sR pd,sR ff,sR fs,sR g,sR t,sR r,sR D]∧av Jr DB∧DB D=some (.lst ys)∧Mf DB ys (es.map (Px a0 a2)),?_,?_⟩
  ·refine⟨_,rfl,t,rfl,⟨_, .of Qk⟩,fun D hD=>?_⟩;refine f6 (xs:=vs) (fun i ys bB DB=>(∃u,bB=[u,sR pd])∧DB D=some (.lst ys)∧av Jr DB∧lT DB D ys ((es.take i).map (Px a0 a2))) ⟨⟨_,rfl⟩,ae,Z6 hD, .nil⟩ ?_ ?_ ?_
   ·rintro i ys bB DB _ ⟨_,_,ur,_⟩;exact .of (ur _ _ Qk)
   ·rintro i v ys bB DB hv ⟨⟨u,rfl⟩,Gz,ur,DN⟩;have hi:i<es.length:=by rw[←Qe];exact(YG hv).1
    have ei:es[i]?=some es[i]:=by simp[hi]
    generalize es[i]=d at ei;obtain⟨y,dy,wy,iD,pr,lz,iA,e1,F6⟩:=Ql.2 i d ei;rw[hv]at e1;cases e1;have F:=F6.keep (P':=fun _=>True) (fun b o _ e=>ur b o e) (c_.same ur) fun _ h=>h
    have pl:=TD.Gg ok (i+1);rw[ud ei,List.length_append]at pl;have et:es.take (i+1)=es.take i++[d]:=by rw[List.take_succ,ei];rfl
    have dl:=DN.1;rw[List.length_map,List.length_take]at dl;have WX:=F.pp.1;refine qw ?_;refine⟨_,rfl,y,ay,dy,_,_,rfl,F.ob,Fc.cl,Fc.worth,jb d.worth wy iD pr,_,rfl,y,ay,dy,_,_,rfl,F.ob,Fc.cl,Fc.pairs,ik d.worth wy iD pr,pr,rfl,⟨_, .of F.hp⟩,fun D2 ku=>?_⟩;refine f6 (xs:=iA) (fun j GR fG MD=>(∃u1 u2,fG=[u1,u2,sR pd])∧MD D2=some (.lst GR)∧av DB MD∧fT MD GR ((d.pairs.take j).map (m8 a0 a2))) ⟨⟨_,_,rfl⟩,ae,Z6 ku, .nil⟩ ?_ ?_ ?_
    ·rintro j GR fG MD _ ⟨_,_,ME,_⟩;exact .of (ME _ _ F.hp)
    ·rintro j v GR fG MD Mn ⟨⟨u1,u2,rfl⟩,IX,ME,P9⟩;have hj:j<d.pairs.length:=by rw[←WX];exact(YG Mn).1
     have ej:d.pairs[j]?=some d.pairs[j]:=by simp[hj]
     generalize d.pairs[j]=x at ej;obtain⟨tt,k1,k2⟩:=F.pp.2 j x ej;rw[Mn]at k1;cases k1;have kt:=ME _ _ k2;have p9:=P9.1;rw[List.length_map,List.length_take]at p9;have J5:=(ur.trans ME) _ _ Qm;have Qw:d.pairs.take (j+1)=d.pairs.take j++[x]:=by rw[List.take_succ,ej];rfl
     refine⟨tt,_,rfl, .of kt,rfl,_,_,rfl,_,_,rfl,rfl,?_⟩;refine sG ?_;refine⟨_,rfl,_,rfl,pd,_,0,_,rfl,rfl, .of J5,Xo (j:=0),_,_,rfl,rfl,_,rfl,_,rfl,pd,_,2,_,rfl,rfl, .of J5,Xo (j:=2),_,_,rfl,rfl,aA Vs,fun p1 AF=>⟨av.upd AF _ _ IX,bf Hy,⟨_,_,rfl⟩,ae,(ME.trans (Z6 AF)).eP ku,?_⟩⟩;rw[Qw,List.map_append];have ZD:fT (upd MD p1 (.tup (jk (m8 a0 a2 x)))) (GR++[.ref p1]) ((d.pairs.take j).map (m8 a0 a2)++[m8 a0 a2 x]):=(P9.same (Z6 AF)).snoc ae;exact ZD.cD (c_.lst (av.upd AF _ _ IX))
    ·rintro GR fG MD ⟨_,IX,ME,P9⟩;rw[WX,List.take_length]at P9;refine⟨aA Vs,fun p hp=>?_⟩;have sp:=av.upd (o:= .tup [.int d.worth, .ref D2]) hp;have GA:=ME.trans sp;have nz:D2≠D:=fun e=>by rw[e,Gz]at ku;cases ku
     refine⟨GA _ _ Gz,bf Hy,⟨_,rfl⟩,ae,(ur.trans GA).eP hD,?_⟩;rw[et,List.map_append];have D3:=(DN.keep (fun b o _ e=>GA b o e) (c_.same GA)).snoc (x:=Px a0 a2 d) (t:=p) (l:=D2) (us:=GR) ae (sp _ _ IX) (P9.same sp) nz;exact D3.keep (fun b o hb e=>by rw[ao hb];exact e) (c_.lst (GA _ _ Gz))
   ·rintro ys bB DB ⟨_,Gz,ur,DN⟩;rw[Qe,List.take_length]at DN;exact⟨D,ys,rfl,ur,Gz,DN.Ue⟩
  rintro σ DB ⟨D,ys,rfl,ur,hD,DU⟩;have e9:c'.out=c.out∧c'.into=c.into∧c'.least=c.least:=WU;rw[e9.1,e9.2.1,e9.2.2]at TR;rw[←TD.shifted TR WT]at DU;exact⟨_,rfl,_,rfl,r,D,ws,ys,zV,_,rfl,ur _ _ U6,U7.keep (P':=fun _=>True) (fun b o _ e=>ur b o e) (c_.same ur) (fun _ h=>h),hD,DU,by lia,q _⟩
end
theorem all_mk{l:W.OpenLaw}{w:World}{K:W.Frag}{h:Heap}{mg:Str→Option Value}{fa:Addr}(X:K.In h)(G:h.Ns mainGlobals mg)(ZE:mg "law"=some (.ref fa))
  {pB jK:Option Addr} {pC:Array (Option Value)} {pD jL jM jN gF jO:Value}
  {gG:Addr} {pE:Value} {pF:Option Addr} {pG:Nat} {pH:Array (Option Value)} {pI:Tok}
  {aU:Addr} (xS:Pt K "Terms" aU)
  {aC:Addr} (uy:Pt K "Trails" aC)
  {ay:Addr} (qV:Pt K "Finding" ay)
  {aI:Addr} (uz:Pt K "Groups" aI)
  {az:Addr} (l5:Pt K "Gathering" az)
  {jP:Addr} (pJ:W.nsIn K mainGlobals "is_small_letter"=some (some (.ref jP)))
  (pK:fO K "is_small_letter" "is_small_letter" gj jP)
  {wA:Addr} (DC:W.nsIn K mainGlobals "is_word"=some (some (.ref wA)))
  (DD:fO K "is_word" "is_word" mF wA)
  {pL:Addr} (xT:W.nsIn K mainGlobals "is_between"=some (some (.ref pL)))
  (xU:fO K "is_between" "is_between" kL pL)
  {l6:Addr} (uA:W.nsIn K mainGlobals "check_number"=some (some (.ref l6)))
  (uB:fO K "check_number" "check_number" jd l6)
  {jQ:Addr} (pM:W.nsIn K mainGlobals "check_near_form"=some (some (.ref jQ)))
  (pN:fO K "check_near_form" "check_near_form" gk jQ)
  {nh:Addr} (vw:W.nsIn K mainGlobals "near_prices"=some (some (.ref nh)))
  (vx:fO K "near_prices" "near_prices" g7 nh)
  {fD:Addr} (qW:W.findIn K (.ref aU) "__init__"=some (some (.ref fD))) (qX:W.isFn K (.ref fD)=true)
  (qY:K.lookup fD=some ⟨pD,pB, .func (W.fnOf "__init__" "Terms.__init__" (fL bx) (eG bx) (au bx) (.ref gG) jL jM jN jK gF jO),pC⟩)
  (qZ:W.codeIn K gF "Terms.__init__"=true) (q_:W.keepIn K (.ref fD)=true)
  (pO:K.lookup gG=some ⟨pE,pF, .seq #[.int 50 pI, .none] pG,pH⟩)
  {fY:Addr} (n5:W.findIn K (.ref aU) "pair_worth"=some (some (.ref fY))) (n6:W.isFn K (.ref fY)=true)
  (n8:fO K "pair_worth" "Terms.pair_worth" dW fY)
  {uC:Addr} (Bb:W.nsIn K mainGlobals "greatest"=some (some (.ref uC)))
  (Bc:fO K "greatest" "greatest" kM uC)
  {GB:Addr} (MF:W.nsIn K mainGlobals "less"=some (some (.ref GB)))
  (MI:fO K "less" "less" A0 GB)
  {ji:Addr} (n9:W.nsIn K mainGlobals "begun_or_gone_on"=some (some (.ref ji)))
  (n_:fO K "begun_or_gone_on" "begun_or_gone_on" fU ji)
  {dO:Addr} (kj:W.findIn K (.ref aC) "brought_behind"=some (some (.ref dO))) (ko:W.isFn K (.ref dO)=true)
  (kq:fO K "brought_behind" "Trails.brought_behind" dM dO)
  {gH:Addr} (pQ:W.findIn K (.ref aC) "__init__"=some (some (.ref gH))) (pR:W.isFn K (.ref gH)=true)
  (pS:fO K "__init__" "Trails.__init__" eI gH)
  {gT:Addr} (rf:W.findIn K (.ref aC) "goes_on"=some (some (.ref gT))) (rg:W.isFn K (.ref gT)=true)
  (rh:fO K "goes_on" "Trails.goes_on" gS gT)
  {d8:Addr} (kY:W.findIn K (.ref aC) "is_brought_by"=some (some (.ref d8))) (kZ:W.isFn K (.ref d8)=true)
  (k8:fO K "is_brought_by" "Trails.is_brought_by" dX d8)
  {cT:Addr} (jn:W.findIn K (.ref aC) "crossings_before"=some (some (.ref cT))) (jo:W.isFn K (.ref cT)=true)
  (jq:fO K "crossings_before" "Trails.crossings_before" cS cT)
  {fm:Addr} (l7:W.findIn K (.ref aC) "pair_before"=some (some (.ref fm))) (l8:W.isFn K (.ref fm)=true)
  (l_:fO K "pair_before" "Trails.pair_before" e6 fm)
  {iC:Addr} (so:W.findIn K (.ref aC) "way_to"=some (some (.ref iC))) (sq:W.isFn K (.ref iC)=true)
  (sr:fO K "way_to" "Trails.way_to" iB iC)
  {fZ:Addr} (oa:W.findIn K (.ref ay) "__init__"=some (some (.ref fZ))) (oe:W.isFn K (.ref fZ)=true)
  (oh:fO K "__init__" "Finding.__init__" fV fZ)
  {uD:Addr} (Bd:W.nsIn K mainGlobals "order_of"=some (some (.ref uD)))
  (Be:fO K "order_of" "order_of" nN uD)
  {l':Addr} (uE:W.nsIn K mainGlobals "make_finding"=some (some (.ref l')))
  (uF:fO K "make_finding" "make_finding" e7 l')
  {gI:Addr} (pT:W.findIn K (.ref aI) "__init__"=some (some (.ref gI))) (pU:W.isFn K (.ref gI)=true)
  (pV:fO K "__init__" "Groups.__init__" gm gI)
  {k_:Addr} (xV:W.findIn K (.ref aI) "has"=some (some (.ref k_))) (xW:W.isFn K (.ref k_)=true)
  (xX:fO K "has" "Groups.has" iK k_)
  {gU:Addr} (rj:W.findIn K (.ref aI) "take_in"=some (some (.ref gU))) (rk:W.isFn K (.ref gU)=true)
  (rl:fO K "take_in" "Groups.take_in" fz gU)
  {jj:Addr} (uG:W.findIn K (.ref aI) "unite"=some (some (.ref jj))) (uH:W.isFn K (.ref jj)=true)
  (uI:fO K "unite" "Groups.unite" e_ jj)
  {j4:Addr} (vy:W.findIn K (.ref aI) "told"=some (some (.ref j4))) (vz:W.isFn K (.ref j4)=true)
  (vA:fO K "told" "Groups.told" g8 j4)
  {fo:Addr} (ma:W.findIn K (.ref az) "__init__"=some (some (.ref fo))) (me:W.isFn K (.ref fo)=true)
  (mf:fO K "__init__" "Gathering.__init__" fe fo)
  {gW:Addr} (rm:W.findIn K (.ref az) "mark"=some (some (.ref gW))) (rp:W.isFn K (.ref gW)=true)
  (rq:fO K "mark" "Gathering.mark" fA gW)
  {fF:Addr} (mR:W.findIn K (.ref az) "go_over"=some (some (.ref fF))) (mS:W.isFn K (.ref fF)=true)
  (mT:fO K "go_over" "Gathering.go_over" dH fF)
  {gJ:Addr} (pW:W.findIn K (.ref az) "visit"=some (some (.ref gJ))) (pX:W.isFn K (.ref gJ)=true)
  (pY:fO K "visit" "Gathering.visit" eJ gJ)
  {ni:Addr} (vB:W.nsIn K mainGlobals "best_groups"=some (some (.ref ni)))
  (vC:fO K "best_groups" "best_groups" jX ni)
  {wB:Addr} (DE:W.nsIn K mainGlobals "shut_by"=some (some (.ref wB)))
  (DF:fO K "shut_by" "shut_by" mG wB)
  {nj:Addr} (vD:W.nsIn K mainGlobals "open_worths"=some (some (.ref nj)))
  (vE:fO K "open_worths" "open_worths" fI nj)
  {pZ:Addr} (xY:W.nsIn K mainGlobals "make_round"=some (some (.ref pZ)))
  (xZ:fO K "make_round" "make_round" gq pZ)
  {p7:Addr} (x_:W.nsIn K mainGlobals "shut_pairs"=some (some (.ref p7)))
  (ya:fO K "shut_pairs" "shut_pairs" kN p7)
  {wC:Addr} (DG:W.nsIn K mainGlobals "compare"=some (some (.ref wC)))
  (DH:fO K "compare" "compare" qS wC)
  {wD:Addr} (DI:W.nsIn K mainGlobals "_law_at"=some (some (.ref wD)))
  (DJ:fO K "_law_at" "_law_at" qT wD)
  {p8:Addr} (yb:W.nsIn K mainGlobals "_law_whole"=some (some (.ref p8)))
  (yc:fO K "_law_whole" "_law_whole" kO p8)
  {rN:Addr} (zu:W.nsIn K mainGlobals "_law_bank"=some (some (.ref rN)))
  (zv:fO K "_law_bank" "_law_bank" lU rN)
  {rO:Addr} (zw:W.nsIn K mainGlobals "_law_book"=some (some (.ref rO)))
  (zx:fO K "_law_book" "_law_book" lV rO)
  {p_:Addr} (yd:W.nsIn K mainGlobals "_law_quote"=some (some (.ref p_)))
  (ye:fO K "_law_quote" "_law_quote" iL p_)
  {mh:Addr} (uJ:W.nsIn K mainGlobals "_law_numbers"=some (some (.ref mh)))
  (uK:fO K "_law_numbers" "_law_numbers" gu mh)
  {rP:Addr} (zy:W.nsIn K mainGlobals "_law_near"=some (some (.ref rP)))
  (zA:fO K "_law_near" "_law_near" lW rP)
  {rQ:Addr} (zB:W.nsIn K mainGlobals "_law_case"=some (some (.ref rQ)))
  (zC:fO K "_law_case" "_law_case" lX rQ)
  {rR:Addr} (zD:W.nsIn K mainGlobals "_law_pair"=some (some (.ref rR)))
  (zE:fO K "_law_pair" "_law_pair" lY rR)
  {qb:Addr} (yf:W.nsIn K mainGlobals "_law_worth"=some (some (.ref qb)))
  (yg:fO K "_law_worth" "_law_worth" kP qb)
  {qc:Addr} (yh:W.nsIn K mainGlobals "_law_pairs"=some (some (.ref qc)))
  (yi:fO K "_law_pairs" "_law_pairs" kQ qc)
  {qd:Addr} (yj:W.nsIn K mainGlobals "_law_terms"=some (some (.ref qd)))
  (yk:fO K "_law_terms" "_law_terms" kR qd)
  {rS:Addr} (zF:W.nsIn K mainGlobals "_law_calm"=some (some (.ref rS)))
  (zG:fO K "_law_calm" "_law_calm" lZ rS)
  {mi:Addr} (uL:W.nsIn K mainGlobals "_law_finding"=some (some (.ref mi)))
  (uM:fO K "_law_finding" "_law_finding" gv mi)
  {nk:Addr} (vF:W.nsIn K mainGlobals "_law_is_way"=some (some (.ref nk)))
  (vG:fO K "_law_is_way" "_law_is_way" g9 nk)
  {qe:Addr} (yl:W.nsIn K mainGlobals "_law_spots"=some (some (.ref qe)))
  (ym:fO K "_law_spots" "_law_spots" iM qe)
  {nq:Addr} (vH:W.nsIn K mainGlobals "_law_anchor"=some (some (.ref nq)))
  (vI:fO K "_law_anchor" "_law_anchor" g_ nq)
  {qf:Addr} (yn:W.nsIn K mainGlobals "_law_asked"=some (some (.ref qf)))
  (yo:fO K "_law_asked" "_law_asked" kT qf)
  {kr:Addr} (rz:W.nsIn K mainGlobals "_law_same_list"=some (some (.ref kr)))
  (rA:fO K "_law_same_list" "_law_same_list" fB kr)
  {J6:Addr} (Qn:W.nsIn K mainGlobals "law"=some (some (.ref J6)))
  (Qo:fO K "law" "law" m9 J6)
  (Tc:EO K aU)
  (Rc:BL K aC)
  (Fc:JL K ay)
  (Gc:Pb K aI)
  (Hc:JP K az)
  (zz:TZ K)
  {zH:Tok} (zI:W.nsIn K mainGlobals "WORD_MOST"=some (some (.int 12 zH)))
  {yp:Tok} (yq:W.nsIn K mainGlobals "WORTH_MOST"=some (some (.int 999999 yp)))
  {zJ:Tok} (zK:W.nsIn K mainGlobals "NEAR_MOST"=some (some (.int 60 zJ)))
  {zL:Tok} (zM:W.nsIn K mainGlobals "PART_MOST"=some (some (.int 100 zL)))
  {su:Tok} (sD:W.nsIn K mainGlobals "FINDINGS_MOST"=some (some (.int 20 su)))
  {dY:Addr} (Bf:Pq K "BadTerms" dY)
  {cU:Addr} (DK:Pq K "BadNear" cU)
  {kc:Addr} (DL:Pq K "TooMany" kc)
  (Bg:W.nsIn K mainGlobals "reversed"=some none)
  (GC:W.nsIn K mainGlobals "sorted"=some none)
  :∃fd:FuncData,(∀(s:Shared)(v:Value),BindsTo s fd ⟨[v],[]⟩ [("_law_script",v)])∧∀base:Heap,K.In base→base.Ns mainGlobals mg→a7 l.prog w K mg base (cX l.prog w) true 10 fa fd ["_law_script"] (BG K):=by
 have e:=ZE.symm.trans (W.mg_of X G Qn);cases e;have T:=zz.tb X G;have jB:Ef mg "WORD_MOST" (.int 12):=⟨_,W.mg_of X G zI,_,rfl⟩
 have bS:Ef mg "WORTH_MOST" (.int 999999):=⟨_,W.mg_of X G yq,_,rfl⟩
 have iq:Ef mg "NEAR_MOST" (.int 60):=⟨_,W.mg_of X G zK,_,rfl⟩
 have jC:Ef mg "PART_MOST" (.int 100):=⟨_,W.mg_of X G zM,_,rfl⟩
 have d_:Ef mg "FINDINGS_MOST" (.int 20):=⟨_,W.mg_of X G sD,_,rfl⟩
 have je:=Bf.er X G;have cc:=DK.er X G;have ki:=DL.er X G;have aaa:mg "reversed"=none:=W.mg_none_of X G Bg;have jg:mg "sorted"=none:=W.mg_none_of X G GC;obtain @⟨_,k1,k2,k3,k4,k5,_,k6,_,l9,c9,k9⟩:=Qo;refine⟨W.fnOf "law" "law" (fL m9) (eG m9) (au m9) .none k1 k2 k3 k6 k4 k5,fun s v=> .of_eq rfl,fun base _ _=>?_⟩;have eK:=pK.df X G pJ (fun _ F=>nQ (P:=l.prog) (w:=w) (base:=base) T F) (Cd fun _ _ _ _ _ _ _=>rfl);have ke:=DD.df X G DC (fun _ F=>A4 (P:=l.prog) (w:=w) (base:=base) T jB eK F) (Cd fun _ _ _ _ _ _ _=>rfl);have dZ:=xU.df X G xT (fun _ F=>u_ (P:=l.prog) (w:=w) (base:=base) T F) (AW fun _ _ _ _ _ _ _ _ _=>rfl);have cB:=uB.df X G uA (fun _ F=>r9 (P:=l.prog) (w:=w) (base:=base) T dZ je F) (Uc fun _ _ _ _ _ _ _ _ _ _=>rfl);have eL:=pN.df X G pM (fun _ F=>nU (P:=l.prog) (w:=w) (base:=base) T dZ bS ke cc F) (AW fun _ _ _ _ _ _ _ _ _=>rfl);have hG:=vx.df X G vw (fun _ F=>uj (P:=l.prog) (w:=w) (base:=base) T cc iq eL F) (Cd fun _ _ _ _ _ _ _=>rfl);have rB:=BD (st:=bx) qY qZ q_;have rC:=o8 (P:=l.prog) (w:=w) (base:=base) T bS jC cB hG Tc rB;have Bh:Binds K (W.fnOf "__init__" "Terms.__init__" (fL bx) (eG bx) (au bx) (.ref gG) jL jM jN jK gF jO) ["self","same","out","into","least","part","near"] []:=fun s us hK hl=>by
  obtain⟨_,_,_,_,_,_,_,rfl⟩:=QF.SU us (by simpa using hl);exact BindsTo.of_defaults rfl (hK _ _ pO) rfl rfl rfl
 have pz:mW l.prog w K mg base true 5 "Terms" aU ["self","same","out","into","least","part","near"] [] (sN aU dY cU):=yT rC ⟨xS.b,qW,qX,xS.c⟩ (W.mg_of X G xS.a) Bh (.nil);have d7:=n8.mt Tc.cl n5 n6 (fun _ F=>mL (P:=l.prog) (w:=w) (base:=base) T Tc F) (AW fun _ _ _ _ _ _ _ _ _=>rfl);have fh:=Bc.df X G Bb (fun _ F=>zp (P:=l.prog) (w:=w) (base:=base) T F) (Cd fun _ _ _ _ _ _ _=>rfl);have kU:=MI.df X G MF (fun _ F=>ID (P:=l.prog) (w:=w) (base:=base) T F) (xG fun _ _ _ _ _ _ _ _=>rfl);have d6:=n_.df X G n9 (fun _ F=>mO (P:=l.prog) (w:=w) (base:=base) T F) (xG fun _ _ _ _ _ _ _ _=>rfl);have cF:=kq.mt Rc.cl kj ko (fun _ F=>jZ (P:=l.prog) (w:=w) (base:=base) T fh kU Rc F) (AW fun _ _ _ _ _ _ _ _ _=>rfl);have mJ:=pS.nw (W.mg_of X G uy.a) uy.b uy.c pQ pR (fun _ F=>nV (P:=l.prog) (w:=w) (base:=base) T Tc Rc d6 cF F) (AW fun _ _ _ _ _ _ _ _ _=>rfl);have cf:=rh.mt Rc.cl rf rg (fun _ F=>o_ (P:=l.prog) (w:=w) (base:=base) T Rc F) (xG fun _ _ _ _ _ _ _ _=>rfl);have bg:=k8.mt Rc.cl kY kZ (fun _ F=>kg (P:=l.prog) (w:=w) (base:=base) T Rc F) (AW fun _ _ _ _ _ _ _ _ _=>rfl);have aZ:=jq.mt Rc.cl jn jo (fun _ F=>jf (P:=l.prog) (w:=w) (base:=base) T kU Rc F) (xG fun _ _ _ _ _ _ _ _=>rfl);have dw:=l_.mt Rc.cl l7 l8 (fun _ F=>lB (P:=l.prog) (w:=w) (base:=base) T Rc bg aZ F) (xG fun _ _ _ _ _ _ _ _=>rfl);have fQ:=sr.mt Rc.cl so sq (fun _ F=>qU (P:=l.prog) (w:=w) (base:=base) T Rc cf dw F) (xG fun _ _ _ _ _ _ _ _=>rfl);have kW:=oh.nw (W.mg_of X G qV.a) qV.b qV.c oa oe (fun _ F=>mQ (P:=l.prog) (w:=w) (base:=base) T Fc F) (VQ fun _ _ _ _ _ _ _ _ _ _ _=>rfl);have kX:=Be.df X G Bd (fun _ F=>zr (P:=l.prog) (w:=w) (base:=base) T Fc F) (Cd fun _ _ _ _ _ _ _=>rfl);have gy:=uF.df X G uE (fun _ F=>sg (P:=l.prog) (w:=w) (base:=base) T Rc fQ kW F) (AW fun _ _ _ _ _ _ _ _ _=>rfl);have mH:=pV.nw (W.mg_of X G uz.a) uz.b uz.c pT pU (fun _ F=>nX (P:=l.prog) (w:=w) (base:=base) T Gc F) (Cd fun _ _ _ _ _ _ _=>rfl);have iO:=xX.mt Gc.cl xV xW (fun _ F=>vc (P:=l.prog) (w:=w) (base:=base) T Gc F) (xG fun _ _ _ _ _ _ _ _=>rfl);have cj:=rl.mt Gc.cl rj rk (fun _ F=>ph (P:=l.prog) (w:=w) (base:=base) T Gc F) (xG fun _ _ _ _ _ _ _ _=>rfl);have cP:=uI.mt Gc.cl uG uH (fun _ F=>si (P:=l.prog) (w:=w) (base:=base) T Gc F) (AW fun _ _ _ _ _ _ _ _ _=>rfl);have hJ:=vA.mt Gc.cl vy vz (fun _ F=>um (P:=l.prog) (w:=w) (base:=base) T Gc jg F) (Cd fun _ _ _ _ _ _ _=>rfl);have iP:=mf.nw (W.mg_of X G l5.a) l5.b l5.c ma me (fun _ F=>lD (P:=l.prog) (w:=w) (base:=base) T mH Hc F) (AW fun _ _ _ _ _ _ _ _ _=>rfl);have ck:=rq.mt Hc.cl rm rp (fun _ F=>px (P:=l.prog) (w:=w) (base:=base) T Hc cP F) (AW fun _ _ _ _ _ _ _ _ _=>rfl);have dI:=mT.mt Hc.cl mR mS (fun _ F=>l0 (P:=l.prog) (w:=w) (base:=base) T bg aZ Hc cP cj ck F) (AW fun _ _ _ _ _ _ _ _ _=>rfl);have eM:=pY.mt Hc.cl pW pX (fun _ F=>nY (P:=l.prog) (w:=w) (base:=base) T Rc cf Hc cj ck iO dI F) (AW fun _ _ _ _ _ _ _ _ _=>rfl);have hU:=vC.df X G vB (fun _ F=>uo (P:=l.prog) (w:=w) (base:=base) T Rc Hc iP eM hJ F) (xG fun _ _ _ _ _ _ _ _=>rfl);have mI:=DF.df X G DE (fun _ F=>A7 (P:=l.prog) (w:=w) (base:=base) T F) (Cd fun _ _ _ _ _ _ _=>rfl);have hZ:=vE.df X G vD (fun _ F=>uq (P:=l.prog) (w:=w) (base:=base) T Tc mI d7 F) (Uc fun _ _ _ _ _ _ _ _ _ _=>rfl);have gz:=xZ.df X G xY (fun _ F=>ve (P:=l.prog) (w:=w) (base:=base) T Tc fh Rc mJ hU gy F) (xG fun _ _ _ _ _ _ _ _=>rfl);have iQ:=ya.df X G x_ (fun _ F=>vf (P:=l.prog) (w:=w) (base:=base) T Fc F) (xG fun _ _ _ _ _ _ _ _=>rfl);have mK:=DH.df X G DG (fun _ F=>A8 (P:=l.prog) (w:=w) (base:=base) T jg d_ hZ gz iQ kX ki F) (AW fun _ _ _ _ _ _ _ _ _=>rfl);have aX:=DJ.df X G DI (fun _ F=>A_ (P:=l.prog) (w:=w) (base:=base) T F) (xG fun _ _ _ _ _ _ _ _=>rfl);have bG:=yc.df X G yb (fun _ F=>vi (P:=l.prog) (w:=w) (base:=base) T F) (Cd fun _ _ _ _ _ _ _=>rfl);have jE:=zv.df X G zu (fun _ F=>xM (P:=l.prog) (w:=w) (base:=base) T F) (AW fun _ _ _ _ _ _ _ _ _=>rfl);have jF:=zx.df X G zw (fun _ F=>xN (P:=l.prog) (w:=w) (base:=base) T aX F) (VQ fun _ _ _ _ _ _ _ _ _ _ _=>rfl);have iR:=ye.df X G yd (fun _ F=>vj (P:=l.prog) (w:=w) (base:=base) T aX F) (Yh fun _ _ _ _ _ _ _ _ _ _ _ _=>rfl);have gB:=uK.df X G uJ (fun _ F=>sj (P:=l.prog) (w:=w) (base:=base) T aX F) (xG fun _ _ _ _ _ _ _ _=>rfl);have jG:=zA.df X G zy (fun _ F=>xO (P:=l.prog) (w:=w) (base:=base) T F) (AW fun _ _ _ _ _ _ _ _ _=>rfl);have jI:=zC.df X G zB (fun _ F=>xP (P:=l.prog) (w:=w) (base:=base) T aX jE jF iR gB jG F) (xG fun _ _ _ _ _ _ _ _=>rfl);have bJ:=zE.df X G zD (fun _ F=>xQ (P:=l.prog) (w:=w) (base:=base) T F) (Uc fun _ _ _ _ _ _ _ _ _ _=>rfl);have iT:=yg.df X G yf (fun _ F=>vk (P:=l.prog) (w:=w) (base:=base) T bJ F) (xG fun _ _ _ _ _ _ _ _=>rfl);have dC:=yi.df X G yh (fun _ F=>vm (P:=l.prog) (w:=w) (base:=base) T bG F) (Cd fun _ _ _ _ _ _ _=>rfl);have iV:=yk.df X G yj (fun _ F=>vn (P:=l.prog) (w:=w) (base:=base) T pz F) (Cd fun _ _ _ _ _ _ _=>rfl);have jJ:=zG.df X G zF (fun _ F=>xR (P:=l.prog) (w:=w) (base:=base) T bJ F) (Cd fun _ _ _ _ _ _ _=>rfl);have gD:=uM.df X G uL (fun _ F=>sk (P:=l.prog) (w:=w) (base:=base) T Fc bG dC F) (Cd fun _ _ _ _ _ _ _=>rfl);have h_:=vG.df X G vF (fun _ F=>uw (P:=l.prog) (w:=w) (base:=base) T bJ F) (xG fun _ _ _ _ _ _ _ _=>rfl);have iU:=ym.df X G yl (fun _ F=>vo (P:=l.prog) (w:=w) (base:=base) T bJ F) (xG fun _ _ _ _ _ _ _ _=>rfl);have fK:=vI.df X G vH (fun _ F=>ux (P:=l.prog) (w:=w) (base:=base) T Fc gD h_ iT iU F) (xG fun _ _ _ _ _ _ _ _=>rfl);have gE:=yo.df X G yn (fun _ F=>vt (P:=l.prog) (w:=w) (base:=base) T mK iV F) (Cd fun _ _ _ _ _ _ _=>rfl);have fC:=rA.df X G rz (fun _ F=>pA (P:=l.prog) (w:=w) (base:=base) T Fc bG dC F) (xG fun _ _ _ _ _ _ _ _=>rfl);exact Mw T Fc aX jI jJ gE fK fC (EC (st:=m9) l9 c9 k9)
theorem walk{l:W.OpenLaw}{q:Program}{loose:List Str}{XP:(Str→Option Value)→Heap→Prop}{YP:World→Heap→Prop}{d:DefRec}{K:Params→W.Frag}(hn:l.most=some 63)(Om:d.params.defaults=[])
  (hY:∀(w:World)(h:Heap),YP w h→(K w.params).In h)
  (F:∀(w:World)(mg:Str→Option Value)(fa:Addr)(h:Heap),(K w.params).In h→h.Ns mainGlobals mg→mg d.name=some (.ref fa)→
   ∃fd:FuncData,(∀(s:Shared)(u:Value),BindsTo s fd ⟨[u],[]⟩ [("_law_script",u)])∧∀base:Heap,(K w.params).In base→base.Ns mainGlobals mg→a7 l.prog w (K w.params) mg base (cX l.prog w) true 10 fa fd ["_law_script"] (BG (K w.params))):
  W.WalkO q loose XP YP l.row.toRowW d [] (fun f vs=>PySem.call f vs):=
 L2.Hr (n:=63) (k:=10) (x:="_law_script") (CX:=fun w=>cX l.prog w) (sp:=fun w=>BG (K w.params)) hn (WV) Om ⟨(fun _=>rfl),WV,WV⟩ hY F (fun _ _ a ns hl _ hS=>⟨a,ns,rfl,hS,hl,fun _=>rfl⟩) fun _ _ _ _ _ z=>by obtain⟨_,_,_,_,_,_,_,_,_,_,_,_,_,z⟩:=z;exact z
end Uh
open PySem PySem.W PyProof.Rows
set_option maxRecDepth 100000 in
set_option maxHeartbeats 0 in
theorem PySem.Challenge.cw_quotefind_k24_round_about_holds : PySem.Challenge.rw_quotefind_k24_round_about.Holds := by
 w_on;refine holds_law HD.ws fun said=>?_;k_head
 (case hw=>w_witness2)
 refine Uh.walk (l:=PySem.Challenge.rw_quotefind_k24_round_about) rfl rfl (fun w h Y=>PySem.W.kIn_of Y) ?F
 case F=>
  intro w mg fa h KX G Oo
  refine' Uh.all_mk KX G Oo ?_ ?_ ?_ ?_ ?_ ?_ ?_ ?_ ?_ ?_ ?_ ?_ ?_ ?_ ?_ ?_ ?_ ?_ ?_ ?_ ?_ ?_ ?_ ?_ ?_ ?_ ?_ ?_ ?_ ?_ ?_ ?_ ?_ ?_ ?_ ?_ ?_ ?_ ?_ ?_ ?_ ?_ ?_ ?_ ?_ ?_ ?_ ?_ ?_ ?_ ?_ ?_ ?_ ?_ ?_ ?_ ?_ ?_ ?_ ?_ ?_ ?_ ?_ ?_ ?_ ?_ ?_ ?_ ?_ ?_ ?_ ?_ ?_ ?_ ?_ ?_ ?_ ?_ ?_ ?_ ?_ ?_ ?_ ?_ ?_ ?_ ?_ ?_ ?_ ?_ ?_ ?_ ?_ ?_ ?_ ?_ ?_ ?_ ?_ ?_ ?_ ?_ ?_ ?_ ?_ ?_ ?_ ?_ ?_ ?_ ?_ ?_ ?_ ?_ ?_ ?_ ?_ ?_ ?_ ?_ ?_ ?_ ?_ ?_ ?_ ?_ ?_ ?_ ?_ ?_ ?_ ?_ ?_ ?_ ?_ ?_ ?_ ?_ ?_ ?_ ?_ ?_ ?_ ?_ ?_ ?_ ?_ ?_ ?_ ?_ ?_ ?_ ?_ ?_ ?_
  all_goals first|k_is|(show(_:Prop);constructor<;>first|(show _=_;k_is)|k_exc|(constructor<;>(show _=_;k_is)))|skip
#print axioms PySem.Challenge.cw_quotefind_k24_round_about_holds
