import PyProof.Rows.All
import Wide.All
import OpenK.AllK
import Wide.FinOn
import Lean
import PyProof.EqAt
import PyProof.EqKinds
import PyProof.TupleCall
import PySem.Challenge.RW_quotefind_k20_none_better
set_option Elab.async false
set_option linter.all false
set_option maxRecDepth 100000
set_option hygiene false in
local macro_rules
|`(tactic|o_head $H)=>`(tactic|refine holds_open (q:=HD.q HD.pw) (loose:=HD.loose) (Xt:=HD.Xt HD.pw []) (XP:=XL (HD.q HD.pw) []) (Yf:=Hook.obs $H) (Ya:=Hook.val $H) (YP:=Hook.says $H) (d:=HD.d) (kwd:=[]) (N:=HD.JN) (HD.left HD.pw HD.Wc $H fun w os=>by kernel_rfl) (Hook.of $H) (Hook.keeps $H) (fun s e=>xl_of s (Bool.and_eq_true_iff.mp e).1) XL.keeps (by kernel_rfl) (by kernel_rfl) (by kernel_rfl) (fun s e=>recFacts_of (Bool.and_eq_true_iff.mp e).2) (by rfl) (by assumption) (by decide+kernel) ⟨rfl,rfl,rfl,rfl,rfl,by decide+kernel⟩ ?hw ?hc)
|`(Zx $a $b $c)=>`(@aG _ _ $a _ _ _ _ $b (by exact rfl) (Or.inl rfl) $c (by rfl) (by exact .inl rfl))
|`(Zy $a $b)=>`(@aJ _ _ $a _ $b (by exact rfl) (Or.inl rfl) (by first|exact .inl rfl|exact .inr rfl|assumption))
|`(Zz $a $b $c)=>`(@aN _ _ _ _ _ _ _ _ _ _ _ _ $a (hr.mono (by decide)) $b $c (by rfl) (by decide) (by rfl) (by rfl))
|`(ZA $a)=>`(@ak _ _ _ _ _ $a ai (by rfl))
|`(ZC $a $b)=>`(@aA _ _ _ _ _ _ _ (aq K) $a $b (fun _ _=>rfl))
|`(ZD $a $b $c)=>`(@aO _ _ _ _ _ _ _ _ _ $a (by exact rfl) $b PyProof.Rows.Boot.«len» $c (by decide) (by decide) (by rfl) (by rfl))
|`(ZE $a $b)=>`(@ak _ _ _ _ _ $a $b (by rfl))
|`(ZF $a)=>`(List.getElem?_eq_some_iff.mp $a)
|`(ZG $a)=>`(@aD _ $a _ _ _ _ (pv 0) (by rfl) (by rfl))
|`(ZH $a $b $c)=>`(@aH _ _ _ _ _ _ _ _ $a $b $c)
|`(ZI $a $b $c)=>`(@bf _ _ _ _ _ _ _ _ hX.own (by exact rfl) $a $b $c (by intro _;rfl))
|`(ZJ $a $b $c $d $e $f)=>`(@eO _ $a _ _ _ _ _ _ _ _ _ _ _ PySem.F.plainAttrs_list $b $c $d $e $f (by rfl) (by rfl) (by rfl) (by rfl) (by rfl) (by rfl))
|`(ZK $a $b)=>`(@aA _ _ _ _ _ _ _ $a (@aA _ _ _ _ _ _ _ (aq K) (pv 0) af (fun _ _=>rfl)) $b (fun _ _=>rfl))
|`(ZL $a $b)=>`(@aN _ _ _ _ _ _ _ _ _ _ _ _ $a (hr.mono (by decide)) $b (@ak _ _ _ _ _ (pv 0) (@ak _ _ _ _ _ af ai (by rfl)) (by rfl)) (by rfl) (by decide) (by rfl) (by rfl))
|`(ZM $a $b $c $d)=>`(@bN _ _ _ _ _ _ _ _ _ _ _ _ _ _ _ _ $a $b (hr.mono (by decide)) $c $d (by rfl) (by rfl) (by rfl))
|`(ZN $a)=>`(@d0 _ _ _ _ _ _ $a (by first|exact bp _ (by decide) (by decide)|rfl))
|`(ZO $a)=>`(@aj _ _ _ $a)
|`(ZP $a $b)=>`(@ax _ _ _ _ _ $a $b)
|`(ZQ $a $b $c)=>`(@aS _ _ _ _ _ _ _ _ $a $b $c (aT _))
|`(ZR $a $b)=>`(@aC _ _ _ _ _ $a $b)
|`(ZS $a)=>`(List.mem_of_getElem? $a)
|`(ZT $a $b $c)=>`(@aA _ _ _ _ _ _ _ $a $b $c (fun _ _=>rfl))
|`(ZU $a $b)=>`(@aO _ _ _ _ _ _ _ _ _ $a (by exact rfl) $b PyProof.Rows.Boot.«len» (@ak _ _ _ _ _ (@aA _ _ _ _ _ _ _ (aq K) (pv 0) af (fun _ _=>rfl)) ai (by rfl)) (by decide) (by decide) (by rfl) (by rfl))
|`(ZV $a)=>`(@ak _ _ _ _ _ $a (@ak _ _ _ _ _ (@aA _ _ _ _ _ _ _ (aq K) (@aA _ _ _ _ _ _ _ (aq K) (pv 0) af (fun _ _=>rfl)) af (fun _ _=>rfl)) (@ak _ _ _ _ _ (@aA _ _ _ _ _ _ _ (aq K) (pv 0) af (fun _ _=>rfl)) ai (by rfl)) (by rfl)) (by rfl))
|`(ZW $a $b)=>`(@a7 _ _ _ _ _ _ _ _ $a (@aj _ _ _ (@aM _ _ _ _ de)) $b)
|`(ZX $a $b $c $d $e)=>`(@bf _ _ _ _ _ _ _ _ $a $b (@cO _ _ _ _ _ _ (by exact rfl) T.dh (@ak _ _ _ _ _ (@aO _ _ _ _ _ _ _ _ _ (aK K) (by exact rfl) T.cK PyProof.Rows.Boot.«len» (@ak _ _ _ _ _ (@aA _ _ _ _ _ _ _ (aq K) (pv 0) af (fun _ _=>rfl)) ai (by rfl)) (by decide) (by decide) (by rfl) (by rfl)) ai (by rfl)) (by rfl)) $c $d $e)
|`(ZY $a)=>`(if_neg $a)
|`(ZZ $a)=>`(Heap.get?_push_of_some _ $a)
|`(Z0 $a $b)=>`(@aD _ $a _ _ _ _ $b (by rfl) (by rfl))
|`(Z1 $a)=>`(if_pos $a)
|`(Z2 $a $b)=>`(@cO _ _ _ _ _ _ $a $b (@ak _ _ _ _ _ (@aO _ _ _ _ _ _ _ _ _ (aK K) (by exact rfl) T.cK PyProof.Rows.Boot.«len» (@ak _ _ _ _ _ (@aA _ _ _ _ _ _ _ (aq K) (pv 0) af (fun _ _=>rfl)) ai (by rfl)) (by decide) (by decide) (by rfl) (by rfl)) ai (by rfl)) (by rfl))
|`(Z5 $a)=>`(@ak _ _ _ _ _ $a (@ak _ _ _ _ _ af ai (by rfl)) (by rfl))
|`(Z6 $a $b $c $d $e)=>`(@aO _ _ _ _ _ _ _ _ _ $a $b $c $d $e (by decide) (by decide) (by rfl) (by rfl))
|`(Z7 $a $b $c)=>`(@cj _ $a _ _ _ _ _ _ _ $b $c (by rfl) (by rfl))
|`(Z9 $a)=>`(@aM _ _ _ _ $a)
|`(Z_ $a)=>`(@ak _ _ _ _ _ $a (@ak _ _ _ _ _ (pv 3) ai (by rfl)) (by rfl))
|`(Z' $a)=>`(@bS _ _ _ $a (by intro _;rfl))
|`(Zu $a)=>`(Option.some.inj $a)
|`(Ι $a)=>`(List.getElem?_append_left $a)
|`(Ε $a)=>`(@a9 _ _ _ _ $a (by rfl))
|`(η $a)=>`(s.heap.update $a (Obj.mapSeq fun _=>(#[]:Array Value)))
|`(Δ $a $b $c)=>`(@a7 _ _ _ _ _ _ _ _ $a $b $c)
|`(Ο $a)=>`(List.getElem?_append_right $a)
|`(Ψ $a $b $c $d)=>`(PyProof.Rows.envOfC $a $b s.heap.objs.size $c $d)
|`(V1 $a)=>`(arrOf $a)
|`(Μ $a)=>`(List.mem_append_right _ $a)
|`(ω $a)=>`(@ak _ _ _ _ _ $a (@ak _ _ _ _ _ (@aA _ _ _ _ _ _ _ (aq K) (pv 0) af (fun _ _=>rfl)) ai (by rfl)) (by rfl))
|`(ι $a)=>`(@ak _ _ _ _ _ $a (@ak _ _ _ _ _ (pv 2) ai (by rfl)) (by rfl))
|`(Θ $a $b)=>`(@aZ _ $a _ _ _ $b (by rfl))
|`(YZ $a)=>`(wpAny_pure $a)
|`(Ν $a $b)=>`(@bh _ _ _ _ _ $a $b (by rfl))
|`(YX $a)=>`(pendingOf $a)
|`(Zk $a)=>`(wpAny_bind $a)
|`(Ρ $a)=>`(List.mem_cons_of_mem _ $a)
|`(μ $a $b $c)=>`(@iP _ _ _ _ _ _ $a (@aD _ K _ _ _ _ (pv 0) (by rfl) (by rfl)) $b $c)
|`(Α $a)=>`(Heap.lt_size $a)
|`(Χ $a)=>`(List.getElem?_eq_getElem $a)
|`(Y' $a)=>`(ar $a rfl)
|`(γ $a)=>`(absurd $a Bool.false_ne_true)
|`(θ $a $b $c $d)=>`(@gm _ $a _ _ _ $b _ $c $d (by rfl) (by rfl) (by rfl))
|`(Zv $a)=>`(List.range $a)
|`(ς $a)=>`(@ak _ _ _ _ _ $a (@ak _ _ _ _ _ af (@ak _ _ _ _ _ (@fM _ _ _ _ bQ (by rfl) (by decide)) ai (by rfl)) (by rfl)) (by rfl))
|`(ξ $a)=>`(@fM _ _ _ _ $a (by rfl) (by decide))
|`(ο $a $b $c $d $e)=>`(@gX _ _ _ _ _ _ _ _ _ $a $b $c $d $e (by decide) (by decide) (by rfl) (by rfl))
|`(υ $a $b)=>`(@a7 _ _ _ _ _ _ _ _ $a (@aj _ _ _ (@jj _ _ _ _ _ _ _ _ _ _ hX (by exact rfl) (by exact rfl) bZ.m bZ.e (@ak _ _ _ _ _ dZ ai (by rfl)) (by decide) (by rfl) (by rfl))) $b)
|`(Y7 $a $b)=>`(absurd $a $b)
|`(Zi $a)=>`(wpS_pure $a)
|`(χ $a)=>`(seqEpoch_at $a rfl (wpAny_bind (wpAny_newTuple (wpAny_bind (wpAny_newList (wpAny_holding ?_) (Nat.zero_le _))) (by show vs.length≤_;rw[sizeLine_eq];lia))))
|`(Ω $a $b)=>`(@pw_or _ _ _ _ _ _ _ $a $b)
set_option hygiene false in
local macro_rules
|`(YV $a)=>`(au.upd $a)
|`(ζ $a)=>`(List.pairwise_append.mpr $a)
|`(δ $a)=>`(List.mem_append_left _ $a)
|`(Η $a)=>`(@bH _ _ _ _ $a)
|`(Λ $a)=>`(gg (arrOf st) $a)
|`(Zd $a)=>`(Ne.symm $a)
|`(ε $a $b $c $d)=>`(envOfC $a $b s.heap.objs.size $c $d)
|`(τ $a $b $c $d $e $f)=>`(@jj _ _ _ _ _ _ _ _ _ _ $a $b $c $d $e $f (by decide) (by rfl) (by rfl))
|`(Κ $a)=>`(Nat.ne_of_lt $a)
set_option hygiene false in
local macro_rules
|`(IL)=>`((by lia))
|`(Xs)=>`((by simp))
|`(Y_)=>`((fun vs H Q E h=>?_))
|`(Β)=>`((Nat.le_refl _))
|`(Ζ)=>`((by exact rfl))
|`(ρ)=>`((gj X scope (ls++cs) s3 H3 s3.heap.objs.size fp (X.pn++pins)))
|`(Τ)=>`((bK I q (by simp)))
|`(Y0)=>`((pv 0))
|`(Y4)=>`((pv 1))
|`(Υ)=>`((beq_iff_eq.mpr z))
|`(Y9)=>`((pv 2))
|`(ν)=>`((gj X scope (ls++cs) dG e7 C fp pn))
|`(Ξ)=>`((by simp;lia))
|`(Γ)=>`(by omega)
|`(WD)=>`(by decide)
|`(YW)=>`(by rfl)
|`(XU)=>`(by simp)
set_option maxHeartbeats 4000000
namespace HD
open PySem PySem.W PyProof.Rows
noncomputable section
noncomputable abbrev pw:Program:=PySem.Challenge.pw_quotefind_k20_none_better
noncomputable abbrev pq:Program:=pw
theorem Wc:pw=pq:=rfl
def z0:Str:=⟨⟨[60,109,111,100,117,108,101,62]⟩⟩
def z1:Str:=⟨⟨[95,95,109,97,105,110,95,95]⟩⟩
def Um:Str:=⟨⟨[47,99,108,97,105,109,47,99,117,116,46,112,121]⟩⟩
noncomputable abbrev y0:String:=PySem.W.SL.s658472552662922059x5
noncomputable abbrev Wd:String:=PySem.W.SL.s5856160107412720595x4
noncomputable abbrev R(a:Addr):Value:= .ref a
noncomputable abbrev I(i:Int):Value:= .int i 0
noncomputable abbrev N:Value:= .none
noncomputable abbrev U(v:Value):Option Value:=some v
noncomputable abbrev B:=BT.node
noncomputable abbrev L:=BT.nil
noncomputable abbrev tu(l:List Value):Obj:=⟨.type "tuple",none, .seq ⟨l⟩ 0,⟨[]⟩⟩
noncomputable abbrev fi(l:List Value):Obj:=⟨.none,none, .fields ⟨l⟩,⟨[]⟩⟩
noncomputable abbrev cd(n:Str)(t:Nat)(l a f:Int)(r8:Addr)(b:Bool)(We:Addr)(Wf Wg Wh:Value)(t3:Int)(t4:Nat):Obj:=⟨.type Wd,none, .fields ⟨[.str n t, .str n (t+1), .str Um (t+2),I l,I a,I 0,I 0,I f,R r8, .bool b,I 181,R We,N,Wf,Wg,Wh,I t3,I l, .str Um t4]⟩,⟨[]⟩⟩
noncomputable def tp(p:Program)(i:Nat):Stmt:=p.main.body.getD i (.Pass ⟨0,0,0,0⟩)
noncomputable def b0(_:Program)(P:Params):Obj:=PySem.W.boot_o_0 P
noncomputable def b1(_:Program)(P:Params):Obj:=PySem.W.boot_o_1 P
noncomputable def b2(_:Program)(P:Params):Obj:=PySem.W.boot_o_2 P
noncomputable def b3(_:Program)(P:Params):Obj:=PySem.W.boot_o_3 P
noncomputable def b4(_:Program)(P:Params):Obj:=PySem.W.boot_o_4 P
noncomputable def b5(_:Program)(P:Params):Obj:=PySem.W.boot_o_5 P
noncomputable def b6(_:Program)(P:Params):Obj:=PySem.W.boot_o_6 P
noncomputable def b7(_:Program)(P:Params):Obj:=PySem.W.boot_o_7 P
noncomputable def b8(_:Program)(P:Params):Obj:=PySem.W.boot_o_8 P
noncomputable def b9(_:Program)(P:Params):Obj:=PySem.W.boot_o_9 P
noncomputable def Uo(_:Program)(P:Params):Obj:=PySem.W.boot_o_10 P
noncomputable def Up(p:Program)(P:Params):Obj:=tu []
noncomputable def Uq(p:Program)(P:Params):Obj:=fi []
noncomputable def Ur(p:Program)(P:Params):Obj:=cd z0 182 1 0 0 11 false 12 N N N 185 186
noncomputable def Us(p:Program)(P:Params):Obj:=⟨(.type y0),none,.plain,⟨[U (R 13),U (R 3),U (R 3),none,U (.str z1 164),none,U (R 0)]⟩⟩
noncomputable def La(p:Program)(P:Params):List Obj:=[b0 p P,b1 p P,b2 p P,b3 p P,b4 p P,b5 p P,b6 p P,b7 p P,b8 p P,b9 p P,Uo p P,Up p P,Uq p P,Ur p P,Us p P]
noncomputable def Ta(p:Program)(P:Params):BT:=(B (b0 p P) (B (b1 p P) (B (b3 p P) (B (b7 p P) L L) (B (Up p P) L L)) (B (b5 p P) (B (b9 p P) L L) (B (Ur p P) L L))) (B (b2 p P) (B (b4 p P) (B (b8 p P) L L) (B (Uq p P) L L)) (B (b6 p P) (B (Uo p P) L L) (B (Us p P) L L))))
noncomputable def keep:List Nat:=[0,2,3,4,5,7,8,9,11,12,13,14,16,17,19,20,21,22,23,24,25,27,28,29,31,32,33,34,35,36,37,38,40,41,42,43,44,45,46,47,48,49,50,51,52,53,54,55,56,57,58,59,60,61]
noncomputable def loose:List Str:=[]
noncomputable def env(p:Program):Env:={scope:=p.main.scope,locals:=mainNs,globals:=mainNs,cells:=[],code:=(R 13),frame:=some 14}
noncomputable def cE(p:Program):Code:= .body (behindTheImports p) (env p)
noncomputable def qP:Pos:=⟨0,0,0,0⟩
noncomputable def pP:Pos:=⟨0,0,0,0⟩
noncomputable def bP:Pos:=⟨0,0,0,0⟩
noncomputable def fP:Pos:=⟨450,0,463,15⟩
noncomputable def an:Option Value:=(some (R 6))
noncomputable abbrev MO:Nat:=61
noncomputable abbrev m0:Nat:=11
noncomputable abbrev MP:Nat:=12
noncomputable abbrev MQ:Nat:=1
noncomputable abbrev JL:Nat:=3834
noncomputable abbrev JM:Nat:=2
noncomputable abbrev JN:Nat:=8392
noncomputable abbrev nA:Nat:=15
noncomputable abbrev Wi:Nat:=187
noncomputable abbrev Wj:Nat:=187
end
end HD
namespace HD
open PySem PySem.W PyProof.Rows
noncomputable section
abbrev S0(w:World)(os:OsState):Shared:=⟨boot_heap w.params,⟨[]⟩,boot_drawn,boot_toks,os⟩
abbrev Sa(p:Program)(w:World)(os:OsState):Shared:=⟨⟨⟨La p w.params⟩,{}⟩,⟨[]⟩,{},Wi,os⟩
abbrev Sb(p:Program)(w:World)(os:OsState):SharedT:=⟨Ta p w.params,nA,{},⟨[]⟩,{},Wj,os⟩
abbrev q(p:Program):Program:=view p keep
abbrev Xt(p:Program)(R:WRecords):Shared→Bool:=fun s=>xlAt (q p) [] s&&recOk R s
theorem MR(w:World)(os:OsState):topGo treeTable pq w m0 an MP (S0 w os) (topStub pq)=some (Sa pq w os,⟨denote treeTable (cE pq),cE pq,pP,[topFrame qP]⟩):=by
 rewrite[Fast.te15667345088766844465,Fast.te14364793385576792824,Fast.te11892475500146522536];kernel_rfl
theorem MS(w:World)(os:OsState):segRun treeTable pq w m0 an 1 MQ (Sa pq w os) (blockOf (behindTheImports pq) (env pq) (cE pq) pP [topFrame qP])=some (.next,(Sb pq w os).abs,cE pq,bP):=by
 rewrite[Fast.te14374325043358763698,Fast.te14364793385576792824];kernel_rfl
def Rm(w:World)(os:OsState):=Fast.tw10110043849684766642 Fast.tw14364793385576792824 pq w m0 an 1 JL (Sb pq w os) (piecesOf (behindTheImports pq) (env pq) (cE pq) bP [topFrame qP])
def Sm(w:World)(os:OsState):SharedT:=match Rm w os with|some (_,s,_,_)=>s|none=>Sb pq w os
theorem MT(w:World)(os:OsState):segRunT treeTable pq w m0 an 1 JL (Sb pq w os) (piecesOf (behindTheImports pq) (env pq) (cE pq) bP [topFrame qP])=some (.next,Sm w os,cE pq,fP):=by
 rewrite[Fast.te10110043849684766642,Fast.te14364793385576792824];kernel_rfl
def Rf(w:World)(os:OsState):=Fast.tw14082659384304107361 Fast.tw14364793385576792824 pq w m0 an JM (Sm w os).abs ⟨doneF .next,cE pq,fP,[topFrame qP]⟩
def Sf(w:World)(os:OsState):Shared:=match Rf w os with|some s=>s|none=>S0 w os
theorem MU(w:World)(os:OsState):topRun treeTable pq w m0 an JM (Sm w os).abs ⟨doneF .next,cE pq,fP,[topFrame qP]⟩=some (Sf w os):=by
 rewrite[Fast.te14082659384304107361,Fast.te14364793385576792824];kernel_rfl
theorem JO(w:World):((boot_heap w.params).isNs mainGlobals&&(⟨[]⟩:Array GenState).size==0,(boot_heap w.params).objs.size,(boot_heap w.params).nsMap mainGlobals "__annotations__")=(true,m0,an):=by
 rewrite[Fast.te8920871248978507458];kernel_rfl
theorem JP:∀w:World,(fencedOpening treeTable pq w JN).map (fun s=>(s.heap,s.gens,s.drawn,s.toks))=some (boot_heap w.params,⟨[]⟩,boot_drawn,boot_toks):=
 boot_open (by kernel_rfl) (by kernel_rfl) (fun s=>by kernel_rfl)
theorem MV(w:World)(os:OsState):topRun treeTable pq w m0 an (MP+(MQ+(JL+JM))) (S0 w os) (topStub pq)=some (Sf w os):=by
 refine go_top (MR w os) (piece_block (MS w os) ?_);have h:=piece_app (rest:=[]) (segRun_of (MT w os)) (piece_nil (env:=env pq) (MU w os));rw[List.append_nil]at h;exact h
theorem DZ(w:World)(os:OsState):
 (staticsOk (importedModules pq.main.body) (boot_heap w.params) (Sf w os).heap&&namesBound pq (Sf w os).heap&&gensDone (Sf w os)&&laidKept (boot_heap w.params) (Sf w os).heap)=true
 ∧seen ((recsOf (q pq)).map (·.name)) (ownsOf (q pq)) [] {Sf w os with gens:=#[]}=expectedOf (q pq)
 ∧(Sf w os).heap.bltView=bltViewBooted:=by
 refine⟨?_,?_,?_⟩
 ·rewrite[Fast.te5923862056798008813];kernel_rfl
 ·rewrite[Fast.te5160383126252970620,Fast.te3399658132070893891,Fast.te5991557255702980513];kernel_rfl
 ·kernel_rfl
theorem JQ(w:World)(os:OsState):
 ((Sf w os).heap.keysOk (looseW (q pq) loose) ((recsOf (q pq)).map (·.name)) ((litsOf (q pq)).map (·.1)) ((clssOf (q pq) (looseW (q pq) loose)).map (·.name))&&(Sf w os).heap.accountedOkI (importedModules pq.main.body)&&(Sf w os).heap.isNs mainGlobals&&(Sf w os).heap.isNs builtinsNs&&tablesOk (q pq) (Sf w os).heap&&Xt pq [] (Sf w os)&&(if true then(Sf w os).gens.size==0 else !leftWithCleanup (Sf w os).gens))=true:=by
 rewrite[Fast.te10880121769531294198,Fast.te821141287760084731,Fast.te3399658132070893891,Fast.te7409074990110511671,Fast.te13664370479719496447,Fast.te14722251495701143533,Fast.te5923862056798008813,Fast.te10994771534591457954];kernel_rfl
theorem JR(w:World)(os:OsState):
 tabsOk (q pq) (Sf w os)=true
 ∧pinSeenD (q pq) (drecsOf (q pq)) (Sf w os)=pinGoodD (drecsOf (q pq))
 ∧plainSeenE (q pq) (looseW (q pq) loose) (Sf w os)=plainGoodE (q pq) (looseW (q pq) loose)
 ∧plainSeenD (q pq) loose (Sf w os)=plainGoodD (q pq) loose
 ∧wideSeen (q pq) (Sf w os)=wideGood (q pq)
 ∧clsSeenW (q pq) loose (Sf w os)=clsGoodW (q pq) loose:=by
 refine⟨?_,?_,?_,?_,?_,?_⟩
 ·rewrite[Fast.te479339242167458305];kernel_rfl
 ·rewrite[Fast.te16090120013241838585,Fast.te3247288618530077131];kernel_rfl
 ·rewrite[Fast.te2386780881361962483,Fast.te821141287760084731];kernel_rfl
 ·rewrite[Fast.te11698064438423848299];kernel_rfl
 ·rewrite[Fast.te7317090234206586261];kernel_rfl
 ·rewrite[Fast.te7369524293546568484];kernel_rfl
theorem lx{p q:Program}{lo:List Str}{Xt:Shared→Bool}{α:Type}{Yf:Shared→α}{a:α}{w:World}{N M n:Nat}{h:Heap}{gs:Array GenState}{dr:Drawn}{k:Nat}{an:Option Value}{g:OsState→Shared}
  (o:(fencedOpening treeTable p w N).map (fun s=>(s.heap,s.gens,s.drawn,s.toks))=some (h,gs,dr,k)) (z:(h.isNs mainGlobals&&gs.size==0,h.objs.size,h.nsMap mainGlobals "__annotations__")=(true,n,an))
  (r:∀os,topRun treeTable p w n an M ⟨h,gs,dr,k,os⟩ (topStub p)=some (g os)) (le:M≤N) (x1:∀os,(staticsOk (importedModules p.main.body) h (g os).heap&&namesBound p (g os).heap&&gensDone (g os)&&laidKept h (g os).heap)=true)
  (x2:∀os,openSeen q lo (importedModules p.main.body) Xt true (g os)=openGood q lo) (x3:∀os,Yf (g os)=a):(openEnds treeTable p w N).map (fun s=>(openSeen q lo (importedModules p.main.body) Xt true s,Yf s))=some (openGood q lo,a):=by
 obtain⟨⟨h,gs,dr,k,os⟩,e1,e2⟩:=Option.map_eq_some_iff.mp o;cases e2;obtain⟨y1,y2⟩:=Prod.mk.inj z;obtain⟨y2,y3⟩:=Prod.mk.inj y2;have t:=topRun_mono (N-M) _ _ _ _ (r os);rw[Nat.add_sub_cancel' le]at t;have f:topFrom treeTable p w N ⟨h,gs,dr,k,os⟩=some (g os):=by
  unfold topFrom;dsimp only;rw[y1,y2,y3,t];show(match staticsOk _ h (g os).heap&&namesBound p (g os).heap&&gensDone (g os)&&laidKept h (g os).heap with|true=>_|false=>_)=_;rw[x1 os]
 unfold openEnds;rw[e1,Option.bind_some,f];exact congrArg some (Prod.ext (x2 os) (x3 os))
theorem left(p:Program)(e:p=pq)(H:Hook)(hk:∀w os,H.obs (Sf w os)=H.val w):LeftO p (q p) loose (Xt p []) H.obs H.val JN:=by
 subst e;intro w;exact lx (g:=Sf w) (JP w) (JO w) (MV w) (WD) (fun os=>(DZ w os).1) (fun os=>let ⟨_,x2,x3⟩:=DZ w os;let ⟨x5,x6,x7,x8,x9,x0⟩:=JR w os;looks_pair x2 (looks_pair x3 (looks_pair (JQ w os) (looks_pair x5 (looks_pair x6 (looks_pair x7 (looks_pair x8 (looks_pair x9 x0)))))))) (hk w)
def d:DefRec:=match tp pw MO with
 | .FunctionDef n a b _ _ _ sc _ _ ps=>⟨n,a,b,sc,ps⟩
 | _=>⟨Str.empty,default,[],default,default⟩
end
end HD
namespace HD
theorem ws:PySem.W.OpenLaw.wellSaid PySem.Challenge.rw_quotefind_k20_none_better=true:=by
 rewrite[PySem.W.Fast.te9446332074065402090];kernel_rfl
end HD
namespace L2
open PySem PySem.Spec PyProof.Rows
abbrev Key:=Sum Int Str
def vC:Key→Value→Bool
 | .inl k,v=>Value.isInt k v
 | .inr x,v=>Value.isStrOf x v
def QV(w:World):Key→Int
 | .inl k=>hashInt k
 | .inr x=>hashStr w x
theorem c7:∀{k:Key}{v:Value},vC k v=true→(∃i t,k=Sum.inl i∧v=Value.int i t)∨(∃x t,k=Sum.inr x∧v=Value.str x t)
 | .inl i,v,h=>by
  obtain⟨t,e⟩:=Value.isInt_shape (k:=i) (v:=v) h;exact .inl ⟨i,t,rfl,e⟩
 | .inr x,v,h=>by
  obtain⟨t,e⟩:=Value.isStrOf_shape (x:=x) (v:=v) h;exact .inr ⟨x,t,rfl,e⟩
theorem Cp(i:Int)(t:Tok):vC (.inl i) (.int i t)=true:=by simp[vC,Value.isInt]
theorem Cq(x:Str)(t:Tok):vC (.inr x) (.str x t)=true:=by simp[vC,Value.isStrOf]
theorem JS(a b:Int):decide ((Sum.inl a:Key)=Sum.inl b)=(a==b):=by
 by_cases e:a=b
 ·subst e;simp
 ·have h:¬(Sum.inl a:Key)=Sum.inl b:=fun q=>e (Sum.inl.inj q)
  rw[decide_eq_false h];exact(beq_eq_false_iff_ne.mpr e).symm
theorem JT(a b:Str):decide ((Sum.inr a:Key)=Sum.inr b)=decide (a=b):=by
 by_cases e:a=b
 ·subst e;simp
 ·have h:¬(Sum.inr a:Key)=Sum.inr b:=fun q=>e (Sum.inr.inj q)
  rw[decide_eq_false h,decide_eq_false e]
theorem JU(a:Int)(b:Str):decide ((Sum.inl a:Key)=Sum.inr b)=false:=decide_eq_false (fun q=>nomatch q)
theorem JV(a:Str)(b:Int):decide ((Sum.inr a:Key)=Sum.inl b)=false:=decide_eq_false (fun q=>nomatch q)
def c_(prog:Program)(w:World):PySem.KeyKind prog w Key where
 is:=vC
 hash:=QV w
 inj:=fun v a b ha hb=>by
  rcases c7 ha with⟨i,t,rfl,rfl⟩|⟨x,t,rfl,rfl⟩
  ·rcases c7 hb with⟨j,u,rfl,e⟩|⟨y,u,rfl,e⟩
   ·injection e with e1 _;rw[e1]
   ·exact nomatch e
  ·rcases c7 hb with⟨j,u,rfl,e⟩|⟨y,u,rfl,e⟩
   ·exact nomatch e
   ·injection e with e1 _;rw[e1]
 byValue:=fun k v h=>by
  rcases c7 h with⟨i,t,rfl,rfl⟩|⟨x,t,rfl,rfl⟩<;>rfl
 pyHash:=fun hv h=>by
  rcases c7 hv with⟨i,t,rfl,rfl⟩|⟨x,t,rfl,rfl⟩
  ·exact wpAny_pyHash_int h
  ·exact wpAny_pyHash_str h
 eqBool:=fun hu hv h=>by
  rcases c7 hu with⟨i,t,rfl,rfl⟩|⟨x,t,rfl,rfl⟩
  ·rcases c7 hv with⟨j,u,rfl,rfl⟩|⟨y,u,rfl,rfl⟩
   ·rw[JS]at h;exact wpAny_eqBool_int h
   ·rw[JU]at h;exact SeqAt.EqAt.int_str i t y u _ _ _ _ h
  ·rcases c7 hv with⟨j,u,rfl,rfl⟩|⟨y,u,rfl,rfl⟩
   ·rw[JV]at h;exact SeqAt.EqAt.str_int x t j u _ _ _ _ h
   ·rw[JT]at h;exact wpAny_eqBool_str h
 «strs»:=fun k x t v h=>by
  rcases c7 h with⟨i,u,rfl,e⟩|⟨y,u,rfl,e⟩
  ·exact nomatch e
  ·injection e with e1 _;subst e1;cases v<;>rfl
theorem yp(prog:Program)(w:World)(i:Int)(t:Tok):(c_ prog w).is (.inl i) (.int i t)=true:=Cp i t
theorem yq(prog:Program)(w:World)(x:Str)(t:Tok):(c_ prog w).is (.inr x) (.str x t)=true:=Cq x t
inductive V where
 |cS|bl (b:Bool)|int (i:Int)|str (x:Str)|Cr (b:Array UInt8)|IC (b:UInt64)|ref (a:Addr)|ty (n:String)
 deriving DecidableEq
def RelV:V→Value→Prop
 | .cS,u=>u=Value.none
 | .bl b,u=>u=Value.bool b
 | .int i,u=>∃t,u=Value.int i t
 | .str x,u=>∃t,u=Value.str x t
 | .Cr b,u=>∃t,u=Value.bytes b t
 | .IC b,u=>∃t,u=Value.float b t
 | .ref a,u=>u=Value.ref a
 | .ty n,u=>u=Value.type n
abbrev Vals:List V→List Value→Prop:=Paired RelV
theorem Vals.length{xs:List V}{us:List Value}(r:Vals xs us):xs.length=us.length:=Paired.length r
theorem Vals.get:∀{xs:List V}{us:List Value}{i:Nat}{x:V},Vals xs us→xs[i]?=some x→∃u,us[i]?=some u∧RelV x u
 | _,_,_,_, .nil,e=>by simp at e
 | _,_,0,_, .cons r _,e=>by simp at e;subst e;exact⟨_,rfl,r⟩
 | _,_,i+1,x, .cons _ t,e=>by
  obtain⟨u,h1,h2⟩:=Vals.get (i:=i) (x:=x) t (by simpa using e);exact⟨u,by simpa using h1,h2⟩
theorem Vals.set{x:V}{u:Value}(r:RelV x u):∀{xs:List V}{us:List Value}(i:Nat),Vals xs us→Vals (xs.set i x) (us.set i u)
 | _,_,_, .nil=> .nil
 | _,_,0, .cons _ t=> .cons r t
 | _,_,i+1, .cons q t=> .cons q (Vals.set r i t)
theorem Vals.append:∀{xs ys:List V}{us ws:List Value},Vals xs us→Vals ys ws→Vals (xs++ys) (us++ws)
 | _,_,_,_, .nil,s=>s
 | _,_,_,_, .cons r t,s=> .cons r (Vals.append t s)
theorem Vals.take:∀{xs:List V}{us:List Value}(n:Nat),Vals xs us→Vals (xs.take n) (us.take n)
 | _,_,0,_=> .nil
 | _,_,_+1, .nil=> .nil
 | _,_,n+1, .cons r t=> .cons r (Vals.take n t)
theorem Vals.drop:∀{xs:List V}{us:List Value}(n:Nat),Vals xs us→Vals (xs.drop n) (us.drop n)
 | _,_,0,r=>r
 | _,_,_+1, .nil=> .nil
 | _,_,n+1, .cons _ t=>Vals.drop n t
def kG:Option V→Option Value→Prop
 |some v,some u=>RelV v u
 |none,none=>True
 | _,_=>False
def KV{κ:Type}:List (κ×V)→List (κ×Value)→Prop:=Paired fun(p:κ×V)(q:κ×Value)=>p.1=q.1∧RelV p.2 q.2
def kV:Key→V
 | .inl i=> .int i
 | .inr x=> .str x
inductive HO where
 |lst (xs:List V)
 |tup (xs:List V)
 |dK (kvs:List (Key×V))|dT (kvs:List (List Key×V))
 |set (S:Int→Bool) (n:Nat)
 |ins (C dx:Addr) (fs:List (Str×V))
 |own (x:Addr)
 |xd (fs:List (Str×V))
 |met (f x:Addr)
 |Pp (lo hi:Int)
 |sF (o:Obj) (u:HO)
 |Gz (ps:Array Value)
 |ext (φ:Heap→Prop)
abbrev Hp:=Addr→Option HO
def upd(H:Hp)(a:Addr)(o:HO):Hp:=fun b=>if b=a then some o else H b
theorem ae{H:Hp}{a:Addr}{o:HO}:upd H a o a=some o:=by unfold upd;rw[if_pos rfl]
theorem ao{H:Hp}{a b:Addr}{o:HO}(h:b≠a):upd H a o b=H b:=by unfold upd;rw[ZY h]
theorem gc{H:Hp}{a:Addr}{o u:HO}:upd (upd H a o) a u=upd H a u:=by
 funext b;unfold upd;split<;>rfl
theorem jf{H:Hp}{a b:Addr}{o u:HO}(h:H a=some o)(h':H b=some u)(d:o≠u):a≠b:=by
 intro e;subst e;rw[h]at h';exact d (Zu h')
theorem aF{H:Hp}{a b:Addr}{o:HO}(h:H a=some o)(h':H b=none):a≠b:=by
 intro e;subst e;rw[h]at h';cases h'
section
variable(P:Program)(w:World)
def cT(H:Hp)(h:Heap)(a:Addr):HO→Prop
 | .lst xs=>xs.length≤sizeLine∧∃(its:List Value)(n:Nat),Vals xs its∧h.get? a=some {cls:= .type "list",data:= .seq its.toArray n}
 | .tup xs=>xs.length≤sizeLine∧∃its:List Value,Vals xs its∧IsTup h a its.toArray
 | .dK kvs=>kvs.length≤sizeLine∧(a==sysModules)=false∧∃vs,KV kvs vs∧h.DictOf (c_ P w) a vs
 | .dT kvs=>kvs.length≤sizeLine∧(a==sysModules)=false∧∃xs:List (List Key×Addr×Value),
   Paired (fun(p:List Key×V)(q:List Key×Addr×Value)=>p.1=q.1∧H q.2.1=some (.tup (p.1.map kV))∧RelV p.2 q.2.2) kvs xs∧
   ∃o es ep,h.get? a=some o∧o.ExactDict∧o.data= .dict es ep∧es.toList=xs.map (entryOfKey (tupleKind (c_ P w)))∧(xs.map (·.1)).Nodup
 | .set S n=>h.SetOf (intKind P w) a S n
 | .ins C dx fs=>H dx=some (.own a)∧fs.length≤1000∧dx≠a∧h.get? a=some (PySem.W.instObj C dx)∧
   ∃mA,h.Ns1 dx mA∧(∀f,kG (fs.lookup f) (mA f))∧PySem.Within mA (fs.map (·.1))
 | .own _=>∃o,h.get? a=some o
 | .xd fs=>∃mA,h.Ns1 a mA∧∀f,kG (fs.lookup f) (mA f)
 | .Pp lo hi=>∃t u v,h.get? a=some {cls:= .type "range",data:= .fields #[.int lo t, .int hi u, .int 1 v]}
 | .sF o u=>h.get? a=some o∧cT H h a u
 | .Gz ps=>h.get? a=some {cls:= .none,data:= .fields ps}
 | .met f x=>h.get? a=some (PySem.W.methodObj (.ref f) (.ref x))
 | .ext φ=>φ h∧(∃o,h.get? a=some o)∧∀h1 h2:Heap,φ h1→(∀o,h1.get? a=some o→h2.get? a=some o)→φ h2
def lJ(H:Hp)(h:Heap):Prop:=∀a o,H a=some o→cT P w H h a o
end
section
variable{P:Program}{w:World}{H H':Hp}{h h':Heap}{a:Addr}{o:HO}
theorem cT.lt(x:cT P w H h a o):a<h.objs.size:=by
 cases o with
 |lst xs=>obtain⟨_,_,_,_,e⟩:=x;exact Α e
 |tup xs=>obtain⟨_,_,_,p⟩:=x;exact p.lt
 |dK kvs=>obtain⟨_,_,_,_,o,_,_,e,_⟩:=x;exact Α e
 |dT kvs=>obtain⟨_,_,_,_,o,_,_,e,_⟩:=x;exact Α e
 |set S n=>obtain⟨o,_,_,_,e,_⟩:=x;exact Α e
 |ins C dx fs=>obtain⟨_,_,_,e,_⟩:=x;exact Α e
 |own y=>obtain⟨_,e⟩:=x;exact Α e
 |xd fs=>obtain⟨_,⟨_,_,_,e,_⟩,_⟩:=x;exact Α e
 |Pp lo hi=>obtain⟨_,_,_,e⟩:=x;exact Α e
 |sF ob u=>obtain⟨e,_⟩:=x;exact Α e
 |Gz ps=>exact Α (show h.get? a=some _ from x)
 |met f y=>exact Α (show h.get? a=some _ from x)
 |ext φ=>obtain⟨_,⟨_,e⟩,_⟩:=x;exact Α e
theorem Paired.JW{α β:Type}{F G:α→β→Prop}:∀{MW:List α}{MY:List β},Paired F MW MY→(∀a b,F a b→G a b)→Paired G MW MY
 | _,_, .nil,_=> .nil
 | _,_, .cons r t,f=> .cons (f _ _ r) (Paired.JW t f)
theorem cT.wt(x:cT P w H h a o)(k:∀b u,(b=a∨H b=some (.own a))→h.get? b=some u→h'.get? b=some u)
  (ho:∀b,H b=some (.own a)→H' b=some (.own a)) (ht:∀b xs,H b=some (.tup xs)→H' b=some (.tup xs)):cT P w H' h' a o:=by
 induction o with
 |lst xs=>obtain⟨z,its,n,r,e⟩:=x;exact⟨z,its,n,r,k _ _ (.inl rfl) e⟩
 |tup xs=>obtain⟨z,its,r,ob,e,c⟩:=x;exact⟨z,its,r,ob,k _ _ (.inl rfl) e,c⟩
 |dK kvs=>obtain⟨z,y,vs,r,ob,es,ep,e,c⟩:=x;exact⟨z,y,vs,r,ob,es,ep,k _ _ (.inl rfl) e,c⟩
 |dT kvs=>
  obtain⟨z,y,xs,r,ob,es,ep,e,c⟩:=x;exact⟨z,y,xs,Paired.JW r fun p q z=>⟨z.1,ht _ _ z.2.1,z.2.2⟩,ob,es,ep,k _ _ (.inl rfl) e,c⟩
 |set S n=>obtain⟨ob,es,ep,t,e,c⟩:=x;exact⟨ob,es,ep,t,k _ _ (.inl rfl) e,c⟩
 |ins C dx fs=>
  obtain⟨d,z,ne,e,mA,⟨od,es,ep,e2,c⟩,r⟩:=x;exact⟨ho _ d,z,ne,k _ _ (.inl rfl) e,mA,⟨od,es,ep,k _ _ (.inr d) e2,c⟩,r⟩
 |own y=>obtain⟨ob,e⟩:=x;exact⟨ob,k _ _ (.inl rfl) e⟩
 |xd fs=>obtain⟨mA,⟨od,es,ep,e,c⟩,r⟩:=x;exact⟨mA,⟨od,es,ep,k _ _ (.inl rfl) e,c⟩,r⟩
 |Pp lo hi=>obtain⟨t,u,v,e⟩:=x;exact⟨t,u,v,k _ _ (.inl rfl) e⟩
 |sF ob u ih=>obtain⟨e,q⟩:=x;exact⟨k _ _ (.inl rfl) e,ih q⟩
 |Gz ps=>
  have e:h.get? a=some {cls:= .none,data:= .fields ps}:=x;show h'.get? a=some {cls:= .none,data:= .fields ps};exact k a _ (.inl rfl) e
 |met f y=>
  have e:h.get? a=some (PySem.W.methodObj (.ref f) (.ref y)):=x;show h'.get? a=some (PySem.W.methodObj (.ref f) (.ref y));exact k a _ (.inl rfl) e
 |ext φ=>obtain⟨p,⟨o,e⟩,st⟩:=x;exact⟨st _ _ p fun o q=>k _ _ (.inl rfl) q,⟨o,k _ _ (.inl rfl) e⟩,st⟩
theorem lJ.lt(x:lJ P w H h)(e:H a=some o):a<h.objs.size:=(x a o e).lt
theorem lJ.fresh(x:lJ P w H h)(e:h.objs.size≤a):H a=none:=by
 cases q:H a with
 |none=>rfl
 |some u=>exact Y7 (Nat.lt_of_lt_of_le (x.lt q) e) (Nat.lt_irrefl _)
theorem lJ.kept(x:lJ P w H h)(k:∀b u,h.get? b=some u→h'.get? b=some u):lJ P w H h':=fun a o e=>
 (x a o e).wt (fun b u _ q=>k b u q) (fun _ q=>q) fun _ _ q=>q
theorem lJ.laid(x:lJ P w H h)(k:∀b u,h.get? b=some u→h'.get? b=some u)(hp:h.objs.size≤a)(new:cT P w (upd H a o) h' a o):lJ P w (upd H a o) h':=fun b u e=>by
 have hn:=x.fresh hp;by_cases hb:b=a
 ·subst hb;rw[ae]at e;cases e;exact new
 ·rw[ao hb]at e;exact(x b u e).wt (fun c v _ q=>k c v q) (fun c q=>by rw[ao (aF q hn)];exact q) fun c xs q=>by rw[ao (aF q hn)];exact q
end
def Rd(H:Hp)(a:Addr)(u:HO):Prop:=H a=some u∨∃o,H a=some (.sF o u)
theorem Rd.of{H:Hp}{a:Addr}{u:HO}(h:H a=some u):Rd H a u:= .inl h
theorem Rd.ok{P:Program}{w:World}{H:Hp}{h:Heap}{a:Addr}{u:HO}(r:Rd H a u)(x:lJ P w H h):cT P w H h a u:=by
 rcases r with r|⟨o,r⟩
 ·exact x a u r
 ·obtain⟨_,q⟩:=x a _ r;exact q
def MZ:Option HO→Prop
 |some (.lst _)=>True
 |some (.dK _)=>True
 |some (.dT _)=>True
 |some (.set _ _)=>True
 |some (.ins _ _ _)=>True
 |some (.ext _)=>True
 | _=>False
section
variable{P:Program}{w:World}{H:Hp}{h h':Heap}{x e:Addr}{o':HO}
theorem lJ.write(ok:lJ P w H h)(mu:MZ (H x))(he:e=x∨H e=some (.own x))(k:∀b u,b≠e→h.get? b=some u→h'.get? b=some u)(L':∃u,h'.get? e=some u)
  (new:cT P w (upd H x o') h' x o'):lJ P w (upd H x o') h':=fun b u q=>by
 have M0:∀c y,H c=some (.own y)→c≠x:=fun c y r z=>by subst z;rw[r]at mu;exact mu
 have QW:∀c xs,H c=some (.tup xs)→c≠x:=fun c xs r z=>by subst z;rw[r]at mu;exact mu
 by_cases hb:b=x
 ·subst hb;rw[ae]at q;cases q;exact new
 ·rw[ao hb]at q;by_cases Bk:b=e
  ·have q':H b=some (.own x):=by
    rcases he with z|z
    ·exact Y7 (Bk.trans z) hb
    ·rw[Bk];exact z
   rw[q]at q';cases q';obtain⟨v,hv⟩:=L';exact⟨v,by rw[Bk];exact hv⟩
  ·refine(ok b u q).wt (fun c v hc r=>k c v ?_ r) (fun c r=>by rw[ao (M0 c b r)];exact r) fun c xs r=>by rw[ao (QW c xs r)];exact r
   rcases hc with rfl|hc
   ·exact Bk
   ·rintro rfl;rcases he with z|z
    ·exact M0 c b hc z
    ·rw[hc]at z;cases z;exact hb rfl
end
structure Un(fs ex:List Addr)(H H':Hp)(h h':Heap):Prop where
 keep:∀b o,h.get? b=some o→H b=none→b∉fs→b∉ex→h'.get? b=some o
 slot:∀b o,h.get? b=some o→H b=none→b∈fs→b∉ex→∃sl,h'.get? b=some {o with slots:=sl}
 free:∀b o,h.get? b=some o→H b=none→b∉ex→H' b=none
 there:∀b o,h.get? b=some o→b∉ex→∃o',h'.get? b=some o'
 cF:∀b xs,H b=some (.tup xs)→H' b=some (.tup xs)
 oC:∀b o u,H b=some (.sF o u)→H' b=some (.sF o u)
 rT:∀b ps,H b=some (.Gz ps)→∃more,H' b=some (.Gz (ps++more))
section
variable{fs Wl ex aaB:List Addr}{H H1 H2:Hp}{h h1 h2 h':Heap}{a x e:Addr}{o:HO}
theorem Un.any(u:Un fs ex H H1 h h1){b:Addr}{ob:Obj}(q:h.get? b=some ob)(n:H b=none)(hx:b∉ex):∃sl,h1.get? b=some {ob with slots:=sl}:=by
 by_cases hb:b∈fs
 ·exact u.slot b ob q n hb hx
 ·exact⟨ob.slots,u.keep b ob q n hb hx⟩
theorem Un.kept(k:∀b u,h.get? b=some u→h'.get? b=some u):Un fs ex H H h h':=
 ⟨fun b ob q _ _ _=>k b ob q,fun b ob q _ _ _=>⟨ob.slots,k b ob q⟩,fun _ _ _ n _=>n,fun b ob q _=>⟨ob,k b ob q⟩,fun _ _ q=>q,fun _ _ _ q=>q,fun _ ps q=>⟨#[],by rw[q];simp⟩⟩
theorem Un.refl:Un fs ex H H h h:=Un.kept fun _ _ q=>q
theorem Un.laid(k:∀b u,h.get? b=some u→h'.get? b=some u)(hp:h.objs.size≤a)(hn:H a=none):Un fs ex H (upd H a o) h h' where
 keep:=fun b u q _ _ _=>k b u q
 slot:=fun b u q _ _ _=>⟨u.slots,k b u q⟩
 free:=fun b u q n _=>by rw[ao (Κ (Nat.lt_of_lt_of_le (Α q) hp))];exact n
 there:=fun b u q _=>⟨u,k b u q⟩
 cF:=fun b xs q=>by rw[ao (aF q hn)];exact q
 oC:=fun b u xs q=>by rw[ao (aF q hn)];exact q
 rT:=fun b ps q=>⟨#[],by rw[ao (aF q hn),q];simp⟩
theorem Un.write(mu:MZ (H x))(he:e=x∨H e=some (.own x))(k:∀b u,b≠e→h.get? b=some u→h'.get? b=some u)(L':∃u,h'.get? e=some u):Un fs ex H (upd H x o) h h':=by
 have hx:∀b,H b=none→b≠x:=fun b n z=>by subst z;rw[n]at mu;exact mu
 have hb:∀b,H b=none→b≠e:=fun b n z=>by
  subst z;rcases he with r|r
  ·exact hx b n r
  ·rw[n]at r;cases r
 have hm:∀b u,H b=some u→¬MZ (some u)→b≠x:=fun b u q nm z=>by subst z;rw[q]at mu;exact nm mu
 refine⟨fun b u q n _ _=>k b u (hb b n) q,fun b u q n _ _=>⟨u.slots,k b u (hb b n) q⟩,fun b u q n _=>by rw[ao (hx b n)];exact n,fun b u q _=>?_,
  fun b xs q=>by rw[ao (hm b _ q fun z=>z)];exact q,fun b u xs q=>by rw[ao (hm b _ q fun z=>z)];exact q,fun b ps q=>⟨#[],by rw[ao (hm b _ q fun z=>z),q];simp⟩⟩
 by_cases Bk:b=e
 ·subst Bk;exact L'
 ·exact⟨u,k b u Bk q⟩
end
def Pq(h:Heap)(H:Hp):List Addr:=(Zv h.objs.size).filter fun a=>(H a).isSome
def wu(h:Heap)(H:Hp):Heap:=PySem.W.hideAll h (Pq h H)
theorem Cs(h:Heap)(H:Hp):(wu h H).objs.size=h.objs.size:=PySem.W.hideAll_size _ _
theorem D0{h:Heap}{H:Hp}{b:Addr}{o:Obj}(e:h.get? b=some o)(n:H b=none):(wu h H).get? b=some o:=
 PySem.W.hideAll_get _ e fun hm=>by
  have q:(H b).isSome=true:=(List.mem_filter.mp hm).2;rw[n]at q;simp at q
theorem GA{h:Heap}{H:Hp}{b:Addr}{o:Obj}(e:(wu h H).get? b=some o):h.get? b=some o∧H b=none:=by
 have e':h.get? b=some o:=PySem.W.of_hideAll (Pq h H) e;refine⟨e',?_⟩;cases q:H b with
 |none=>rfl
 |some x=>
  have hm:b∈Pq h H:=List.mem_filter.mpr ⟨List.mem_range.mpr (Α e'),by simp[q]⟩;have z:(wu h H).get? b=none:=PySem.W.hideAll_none (Pq h H) hm;rw[z]at e;cases e
def GB(g h:Heap)(L:Addr):List (Addr×Obj):=(Zv h.objs.size).filterMap fun a=>if a=L∨(g.get? a).isSome=true then none else(h.get? a).map fun o=>(a,o)
def rest(g h:Heap)(L d:Addr):List (Addr×Obj):=(GB g h L).filter fun p=>decide (p.1≠d)
structure Mod(K:PySem.W.Frag)(mg:Str→Option Value)(base:Heap):Prop where
 Ma:K.In base
 glob:base.Ns mainGlobals mg
 blt:∃mb,base.Ns builtinsNs mb∧∀x:Str,x≠"__name__"→mb x=bootBuiltins x
 nolimit:base.NoLimit
structure Cx where
 prog:Program
 w:World
 K:PySem.W.Frag
 mg:Str→Option Value
 base:Heap
 A:Around
 N:List Str
 dG:Shared
 e7:Hp
 env:Env
 outer:List Env
 stack:List Env
 ex:List Addr
 fn:Str→Bool
 calm:Bool
 pn:List (Addr×Obj)
 xe:Value→Shared→Prop
def oz(l:List Env):List Addr:=l.filterMap (·.frame)
abbrev Cx.fs(X:Cx):List Addr:=oz X.outer
def QX(sc:Scope)(x:Str):Prop:=sc.names.lookup x=some .local∨sc.names.lookup x=some .cell∨sc.names.lookup x=some .free
def Loc(sc:Scope)(x:Str):Prop:=sc.names.lookup x=some .local∨sc.names.lookup x=some .cell
def Look(env:Env)(h:Heap)(m:Str→Option Value)(x:Str)(u:Value):Prop:=
 (env.kindOf x=some .local∧m x=some u)∨((env.kindOf x=some .cell∨env.kindOf x=some .free)∧∃c,env.cells.lookup x=some c∧h.IsCell c (some u))
structure Cx.Ok(X:Cx):Prop where
 mod:Mod X.K X.mg X.base
 kind:X.env.scope.kind= .function
 glob:X.env.globals=mainGlobals
 blt:X.env.builtins=builtinsNs
 above:X.dG.heap.objs.size≤X.env.locals
 inj:∀x y c,X.env.cells.lookup x=some c→X.env.cells.lookup y=some c→x=y
 has:∀x,(X.env.kindOf x=some .cell∨X.env.kindOf x=some .free)→∃c,X.env.cells.lookup x=some c
 QY:∀x c,X.fn x=true→X.env.cells.lookup x=some c→X.dG.heap.objs.size≤c
 hd:X.calm=true→X.A.handled=none
 frames:X.A.frames=some X.stack
 Ut:X.stack=X.outer∨(X.stack=X.env::X.outer∧X.env.frame=some X.env.locals)
 aaI:∀b∈X.ex,b≠X.env.locals∧∀x c,X.env.cells.lookup x=some c→c≠b
 bs:∀b o,X.base.get? b=some o→X.dG.heap.get? b=some o∧X.e7 b=none
 JX:X.base.objs.size≤X.dG.heap.objs.size
 JY:∀b o,X.base.get? b=some o→b∉X.ex
 M4:∀b∈X.ex,b∉X.fs
 uL:X.dG.heap.FunFrames X.base X.outer
 M5:∀b∈X.fs,X.e7 b=none
structure Inv(X:Cx)(pins:List (Addr×Obj))(σ:List (Option V))(H:Hp)(s:Shared):Prop where
 ok:X.Ok
 os:s.os=X.dG.os
 bare:AllBare s.gens
 base:Un X.fs X.ex X.e7 H X.dG.heap s.heap
 loc:∃m,s.heap.Ns X.env.locals m∧∀(i:Nat)(x:Str)(v:V),X.N[i]?=some x→σ[i]?=some (some v)→QX X.env.scope x→∃u,RelV v u∧Look X.env s.heap m x u
 cell:∀x c,X.env.cells.lookup x=some c→∃v,s.heap.IsCell c v
 free:H X.env.locals=none
 m4:∀x c,X.env.cells.lookup x=some c→H c=none
 pin:∀p∈X.pn++pins,s.heap.get? p.1=some p.2∧H p.1=none∧p.1≠X.env.locals∧p.1∉X.fs∧∀v,p.2.data≠ .cell v
 bX:lJ X.prog X.w H s.heap
 len:σ.length=X.N.length
section
variable{X:Cx}{pins:List (Addr×Obj)}{σ:List (Option V)}{H H':Hp}{s:Shared}{h':Heap}
theorem Cx.Ok.QZ(ok:X.Ok){b:Addr}{o:Obj}(e:X.base.get? b=some o):b∉X.fs:=fun hb=>by
 have:=(ok.uL.mem hb).1;rw[e]at this;cases this
theorem Inv.bs(I:Inv X pins σ H s):∀b o,X.base.get? b=some o→s.heap.get? b=some o∧H b=none:=fun b o e=>
 ⟨I.base.keep b o (I.ok.bs b o e).1 (I.ok.bs b o e).2 (I.ok.QZ e) (I.ok.JY b o e),I.base.free b o (I.ok.bs b o e).1 (I.ok.bs b o e).2 (I.ok.JY b o e)⟩
theorem Inv.bk(I:Inv X pins σ H s):∀b o,X.base.get? b=some o→s.heap.get? b=some o:=fun b o e=>(I.bs b o e).1
theorem Inv.mod(I:Inv X pins σ H s):Mod X.K X.mg X.base:=I.ok.mod
theorem Inv.qg(I:Inv X pins σ H s):X.K.In s.heap:=I.ok.mod.Ma.keeps I.bk
theorem Inv.lt(I:Inv X pins σ H s):X.env.locals<s.heap.objs.size:=let ⟨_,hn,_⟩:=I.loc;hn.lt
theorem Inv.sz(I:Inv X pins σ H s):X.dG.heap.objs.size≤s.heap.objs.size:=Nat.le_trans I.ok.above (Nat.le_of_lt I.lt)
theorem Inv.Q0(I:Inv X pins σ H s){a:Addr}(h:s.heap.objs.size≤a):a∉X.fs:=fun hb=>by
 obtain⟨_,o,ho,_⟩:=I.ok.uL.mem hb;exact Y7 (Nat.lt_of_lt_of_le (Α ho) (Nat.le_trans I.sz h)) (Nat.lt_irrefl _)
theorem Inv.JZ(I:Inv X pins σ H s):∀x c,X.env.cells.lookup x=some c→c≠X.env.locals:=fun x c e z=>by
 obtain⟨v,o,ho,hd⟩:=I.cell x c e;obtain⟨m,⟨o',es,ep,J0,uH,_⟩,_⟩:=I.loc;rw[z,J0]at ho;cases ho;rw[uH]at hd;cases hd
theorem Inv.uL(I:Inv X pins σ H s):s.heap.FunFrames X.base X.outer:=by
 have all:∀(l:List Env),(∀b∈oz l,b∈X.fs)→X.dG.heap.FunFrames X.base l→s.heap.FunFrames X.base l:=by
  intro l
  induction l with
  |nil=>intro _ _;trivial
  |cons env r ih=>
   intro hs hl;obtain⟨hk,⟨L,o,hf,hn,ho,hd⟩,hr⟩:=hl;have hL:L∈X.fs:=hs L (by unfold oz;rw[List.filterMap_cons,hf];exact List.mem_cons_self);obtain⟨sl,e⟩:=I.base.slot L o ho (I.ok.M5 L hL) hL fun z=>I.ok.M4 L z hL
   exact⟨hk,⟨L,_,hf,hn,e,hd⟩,ih (fun b hb=>hs b (by unfold oz;rw[List.filterMap_cons,hf];exact Ρ hb)) hr⟩
 exact all X.outer (fun _ hb=>hb) I.ok.uL
theorem Inv.stack(I:Inv X pins σ H s):s.heap.FunFrames X.base X.stack:=by
 rcases I.ok.Ut with e|⟨e,hf⟩
 ·rw[e];exact I.uL
 ·rw[e];obtain⟨m,hn,_⟩:=I.loc;refine .cons (by rw[I.ok.kind];decide) hf hn ?_ I.uL;exact Heap.get?_none_of_le (Nat.le_trans I.ok.JX I.ok.above)
theorem Inv.sV(I:Inv X pins σ H s):∀b∈oz X.stack,b∈X.env.locals::X.fs:=fun b hb=>by
 rcases I.ok.Ut with e|⟨e,hf⟩
 ·rw[e]at hb;exact Ρ hb
 ·rw[e]at hb;unfold oz at hb;rw[List.filterMap_cons,hf]at hb;exact hb
theorem Inv.wz(I:Inv X pins σ H s):∀b∈oz X.stack,H b=none:=fun b hb=>by
 rcases List.mem_cons.mp (I.sV b hb)with e|hb
 ·rw[e];exact I.free
 ·obtain⟨_,o,ho,_⟩:=I.ok.uL.mem hb;exact I.base.free b o ho (I.ok.M5 b hb) fun z=>I.ok.M4 b z hb
theorem Inv.step{g':Array GenState}{t':Nat}{d':Drawn}{ch:List Addr}(I:Inv X pins σ H s)
  (Gi:∀b∈ch,(b∈X.ex∨X.dG.heap.objs.size≤b)∧b≠X.env.locals∧(∀x c,X.env.cells.lookup x=some c→c≠b)∧∀p∈X.pn++pins,p.1≠b)
  (keep:∀b o,b≠X.env.locals→b∉X.fs→b∉ch→s.heap.get? b=some o→H b=none→h'.get? b=some o)
  (slot:∀b o,b≠X.env.locals→b∈X.fs→b∉ch→s.heap.get? b=some o→H b=none→∃sl,h'.get? b=some {o with slots:=sl}) (free:∀b o,b∉ch→s.heap.get? b=some o→H b=none→H' b=none)
  (there:∀b o,b∉ch→s.heap.get? b=some o→∃o',h'.get? b=some o')
  (cF:∀b xs,H b=some (.tup xs)→H' b=some (.tup xs)) (oC:∀b o u,H b=some (.sF o u)→H' b=some (.sF o u)) (rT:∀b ps,H b=some (.Gz ps)→∃more,H' b=some (.Gz (ps++more)))
  (ns:∀m,s.heap.Ns X.env.locals m→h'.Ns X.env.locals m) (bX:lJ X.prog X.w H' h') (hg:AllBare g'):
  Inv X pins σ H' {s with heap:=h',gens:=g',drawn:=d',toks:=t'}:=by
 have Uu:∀b o,X.dG.heap.get? b=some o→b≠X.env.locals:=fun b o e=>Κ (Nat.lt_of_lt_of_le (Α e) I.ok.above)
 have Pt:∀b o,X.dG.heap.get? b=some o→b∉X.ex→b∉ch:=fun b o e hx hb=>by
  rcases(Gi b hb).1 with z|z
  ·exact hx z
  ·exact Y7 (Nat.lt_of_lt_of_le (Α e) z) (Nat.lt_irrefl _)
 have cellK:∀x c,X.env.cells.lookup x=some c→∀v,s.heap.IsCell c v→h'.IsCell c v:=fun x c e v ⟨o,ho,hd⟩=>by
  have M6:c∉ch:=fun z=>(Gi c z).2.2.1 x c e rfl
  by_cases hc:c∈X.fs
  ·obtain⟨sl,q⟩:=slot c o (I.JZ x c e) hc M6 ho (I.m4 x c e);exact⟨_,q,hd⟩
  ·exact⟨o,keep c o (I.JZ x c e) hc M6 ho (I.m4 x c e),hd⟩
 refine⟨I.ok,I.os,hg,⟨fun b o e n hb hx=>?_,fun b o e n hb hx=>?_,fun b o e n hx=>?_,fun b o e hx=>?_,fun b xs e=>cF b xs (I.base.cF b xs e),fun b o xs e=>oC b o xs (I.base.oC b o xs e),fun b ps e=>?_⟩,?_,fun x c e=>?_,?_,fun x c e=>?_,fun p hp=>?_,bX,I.len⟩
 ·exact keep b o (Uu b o e) hb (Pt b o e hx) (I.base.keep b o e n hb hx) (I.base.free b o e n hx)
 ·obtain⟨sl,e1⟩:=I.base.slot b o e n hb hx;obtain⟨Q2,e2⟩:=slot b _ (Uu b o e) hb (Pt b o e hx) e1 (I.base.free b o e n hx);exact⟨Q2,e2⟩
 ·obtain⟨o',e1⟩:=I.base.there b o e hx;exact free b o' (Pt b o e hx) e1 (I.base.free b o e n hx)
 ·obtain⟨o',e1⟩:=I.base.there b o e hx;exact there b o' (Pt b o e hx) e1
 ·obtain⟨m1,e1⟩:=I.base.rT b ps e;obtain⟨m2,e2⟩:=rT b _ e1;exact⟨m1++m2,by rw[e2,Array.append_assoc]⟩
 ·obtain⟨m,hn,hl⟩:=I.loc;refine⟨m,ns m hn,fun i x v e1 e2 e3=>?_⟩;obtain⟨u,r,l⟩:=hl i x v e1 e2 e3;refine⟨u,r,?_⟩;rcases l with l|⟨k,c,e,z⟩
  ·exact .inl l
  ·exact .inr ⟨k,c,e,cellK x c e _ z⟩
 ·obtain⟨v,z⟩:=I.cell x c e;exact⟨v,cellK x c e v z⟩
 ·obtain⟨m,⟨o,_,_,ho,_⟩,_⟩:=I.loc;exact free _ o (fun z=>(Gi _ z).2.1 rfl) ho I.free
 ·obtain⟨v,o,ho,hd⟩:=I.cell x c e;exact free c o (fun z=>(Gi c z).2.2.1 x c e rfl) ho (I.m4 x c e)
 ·obtain⟨e,n,ne,nf,d⟩:=I.pin p hp;have M6:p.1∉ch:=fun z=>(Gi p.1 z).2.2.2 p hp rfl
  exact⟨keep p.1 p.2 ne nf M6 e n,free p.1 p.2 M6 e n,ne,nf,d⟩
theorem Inv.un{t':Nat}(I:Inv X pins σ H s)(u:Un X.fs [] H H' s.heap h')(bX:lJ X.prog X.w H' h'):Inv X pins σ H' {s with heap:=h',toks:=t'}:=by
 obtain⟨m,⟨o,es,ep,ho,r⟩,_⟩:=id I.loc;obtain⟨sl,hL⟩:=u.any ho I.free Xs;exact I.step (g':=s.gens) (d':=s.drawn) (ch:=[]) (fun _ z=>nomatch z) (fun b o _ hb _ e n=>u.keep b o e n hb Xs) (fun b o _ hb _ e n=>u.slot b o e n hb Xs) (fun b o _ e n=>u.free b o e n (XU)) (fun b o _ e=>u.there b o e Xs) u.cF u.oC u.rT (fun m' hm=>by
  obtain⟨o',Pu,Px,J0,r'⟩:=hm;rw[ho]at J0;cases J0;exact⟨_,Pu,Px,hL,r'⟩) bX I.bare
theorem Inv.call{g':Array GenState}{t':Nat}{d':Drawn}{ch:List Addr}(I:Inv X pins σ H s)(u:Un (oz X.stack) ch H H' s.heap h')(bX:lJ X.prog X.w H' h')(hg:AllBare g')
  (Gi:∀b∈ch,(b∈X.ex∨X.dG.heap.objs.size≤b)∧b≠X.env.locals∧(∀x c,X.env.cells.lookup x=some c→c≠b)∧∀p∈X.pn++pins,p.1≠b):
  Inv X pins σ H' {s with heap:=h',gens:=g',drawn:=d',toks:=t'}:=by
 obtain⟨m,⟨o,es,ep,ho,r⟩,_⟩:=id I.loc;obtain⟨sl,hL⟩:=u.any ho I.free fun z=>(Gi _ z).2.1 rfl
 exact I.step (ch:=ch) Gi (fun b o hL hb hc e n=>u.keep b o e n (fun z=>(List.mem_cons.mp (I.sV b z)).elim hL hb) hc) (fun b o _ _ hc e n=>u.any e n hc) (fun b o hc e n=>u.free b o e n hc) (fun b o hc e=>u.there b o e hc) u.cF u.oC u.rT (fun m' hm=>by
  obtain⟨o',Pu,Px,J0,r'⟩:=hm;rw[ho]at J0;cases J0;exact⟨_,Pu,Px,hL,r'⟩) bX hg
theorem Inv.turned{t':Nat}{it:Addr}(I:Inv X pins σ H s)(k:∀b o,b≠it→s.heap.get? b=some o→h'.get? b=some o)(hn:H it=none)(hL:it≠X.env.locals)
  (h1:it∈X.ex∨X.dG.heap.objs.size≤it) (h2:∀x c,X.env.cells.lookup x=some c→c≠it) (h3:∀p∈X.pn++pins,p.1≠it):Inv X pins σ H {s with heap:=h',toks:=t'}:=by
 have ID:∀b u,H b=some u→b≠it:=fun b u e z=>by rw[z,hn]at e;cases e
 refine I.step (g':=s.gens) (d':=s.drawn) (ch:=[it]) (fun b hb=>?_) (fun b o _ _ hc e _=>k b o (fun z=>hc (by simp[z])) e) (fun b o _ _ hc e _=>⟨o.slots,k b o (fun z=>hc (by simp[z])) e⟩) (fun _ _ _ _ n=>n)
  (fun b o hc e=>⟨o,k b o (fun z=>hc (by simp[z])) e⟩) (fun _ _ e=>e) (fun _ _ _ e=>e) (fun b ps e=>⟨#[],by rw[e];simp⟩) (fun m hm=>?_) (fun b u e=>?_) I.bare
 ·have e:b=it:=by simpa using hb
  subst e;exact⟨h1,hL,h2,h3⟩
 ·obtain⟨o,es,ep,ho,r⟩:=hm;exact⟨o,es,ep,k _ o (Zd hL) ho,r⟩
 ·refine(I.bX b u e).wt (fun c v hc q=>k c v ?_ q) (fun _ q=>q) fun _ _ q=>q
  rcases hc with z|z
  ·rw[z];exact ID b u e
  ·exact ID c _ z
theorem Inv.tok(I:Inv X pins σ H s)(t:Nat):Inv X pins σ H {s with toks:=t}:=I.un (h':=s.heap) (t':=t) Un.refl I.bX
theorem Inv.kept{t':Nat}(I:Inv X pins σ H s)(k:∀b u,s.heap.get? b=some u→h'.get? b=some u):Inv X pins σ H {s with heap:=h',toks:=t'}:=I.un (Un.kept k) (I.bX.kept k)
theorem Inv.laid{a:Addr}{o:HO}{t':Nat}(I:Inv X pins σ H s)(k:∀b u,s.heap.get? b=some u→h'.get? b=some u)(hp:s.heap.objs.size≤a)(new:cT X.prog X.w (upd H a o) h' a o):
  Inv X pins σ (upd H a o) {s with heap:=h',toks:=t'}:=I.un (Un.laid k hp (I.bX.fresh hp)) (I.bX.laid k hp new)
theorem Inv.write{x e:Addr}{o:HO}{t':Nat}(I:Inv X pins σ H s)(mu:MZ (H x))(he:e=x∨H e=some (.own x))(k:∀b u,b≠e→s.heap.get? b=some u→h'.get? b=some u)(L':∃u,h'.get? e=some u)
  (new:cT X.prog X.w (upd H x o) h' x o):Inv X pins σ (upd H x o) {s with heap:=h',toks:=t'}:=I.un (Un.write mu he k L') (I.bX.write mu he k L' new)
theorem Inv.Bl{IE:List (Addr×Obj)}(I:Inv X pins σ H s)(h:∀p∈IE,s.heap.get? p.1=some p.2∧H p.1=none∧p.1≠X.env.locals∧p.1∉X.fs∧∀v,p.2.data≠ .cell v):Inv X IE σ H s:=
 ⟨I.ok,I.os,I.bare,I.base,I.loc,I.cell,I.free,I.m4,fun p hp=>(List.mem_append.mp hp).elim (fun z=>I.pin p (δ z)) (h p),I.bX,I.len⟩
theorem yr{N:List Str}(hN:N.Nodup){i j:Nat}{x:Str}(a:N[i]?=some x)(b:N[j]?=some x):i=j:=by
 obtain⟨h1,e1⟩:=ZF a;obtain⟨h2,e2⟩:=ZF b;exact(List.getElem_inj hN).mp (e1.trans e2.symm)
theorem vD{M:Model}{A:Around}{E:Value→Shared→Prop}{i:Nat}{x:Str}{v:V}{u:Value}{Q:Unit→Shared→Prop}(I:Inv X pins σ H s)(hN:X.N.Nodup)(hi:X.N[i]?=some x)(hx:Loc X.env.scope x)(r:RelV v u)
  (h:∀s',Inv X pins (σ.set i (some v)) H s'→(∃a,Heap.SameBut a s.heap s'.heap∧(a=X.env.locals∨X.env.cells.lookup x=some a))→Q () s') (hf:X.fn x=true∨X.env.scope.names.lookup x=some .local:=by first|exact .inl rfl|exact .inr rfl|assumption):wpAny M A (storeName X.env x u) Q E s:=by
 obtain⟨m,hn,hl⟩:=id I.loc;have Q3:(X.env.scope.kind== .class||(X.env.scope.kind== .module&&X.env.locals !=X.env.globals))=false:=by rw[I.ok.kind];rfl
 have M7:i<σ.length:=by rw[I.len];exact(ZF hi).1
 have JZ:=I.JZ;have tracked:∀{a:Addr}{h':Heap},(∃o,s.heap.get? a=some o∧H a=none)→Heap.SameBut a s.heap h'→lJ X.prog X.w H h':=fun{a h'} ha hs b ob e=>by
  obtain⟨_,_,Bm⟩:=ha;refine(I.bX b ob e).wt (fun c w' hc q=>(hs.2 c ?_).trans q) (fun _ q=>q) fun _ _ q=>q
  rintro rfl;rcases hc with rfl|hc
  ·rw[Bm]at e;cases e
  ·rw[Bm]at hc;cases hc
 rcases hx with hk|hk
 ·refine wpAny_storeName_local hk hn (fun h' D1 hs=>?_) Q3;obtain⟨oL,_,_,IF,_⟩:=id hn;refine h _ ⟨I.ok,I.os,I.bare,⟨fun b o e n hb hx=>?_,fun b o e n hb hx=>?_,I.base.free,fun b o e hx=>?_,I.base.cF,I.base.oC,I.base.rT⟩,⟨_,D1,fun j y v' e1 e2 e3=>?_⟩,fun y c e=>?_,I.free,I.m4,fun p hp=>?_,tracked ⟨oL,IF,I.free⟩ hs,by simpa using I.len⟩ ⟨_,hs, .inl rfl⟩
  ·exact(hs.2 b (Κ (Nat.lt_of_lt_of_le (Α e) I.ok.above))).trans (I.base.keep b o e n hb hx)
  ·obtain⟨sl,e1⟩:=I.base.slot b o e n hb hx;exact⟨sl,(hs.2 b (Κ (Nat.lt_of_lt_of_le (Α e) I.ok.above))).trans e1⟩
  ·obtain⟨o',e1⟩:=I.base.there b o e hx;exact⟨o',(hs.2 b (Κ (Nat.lt_of_lt_of_le (Α e) I.ok.above))).trans e1⟩
  ·by_cases hj:j=i
   ·subst hj;rw[hi]at e1;cases e1;rw[List.getElem?_set_self M7]at e2;cases e2;exact⟨u,r, .inl ⟨hk,XU⟩⟩
   ·rw[List.getElem?_set_ne (Zd hj)]at e2;obtain⟨u',r',q⟩:=hl j y v' e1 e2 e3;refine⟨u',r',?_⟩;rcases q with⟨k,e⟩|⟨k,c,e,z⟩
    ·refine .inl ⟨k,?_⟩;have:y≠x:=fun e=>hj (yr hN e1 (e▸hi))
     simp[this,e]
    ·exact .inr ⟨k,c,e,z.sameBut hs (JZ y c e)⟩
  ·obtain⟨w',z⟩:=I.cell y c e;exact⟨w',z.sameBut hs (JZ y c e)⟩
  ·obtain⟨e,n,ne,nf,d⟩:=I.pin p hp;exact⟨(hs.2 p.1 ne).trans e,n,ne,nf,d⟩
 ·have M8:X.fn x=true:=by
   rcases hf with z|z
   ·exact z
   ·rw[z]at hk;cases hk
  obtain⟨c,hc⟩:=I.ok.has x (.inl hk);obtain⟨w',z⟩:=I.cell x c hc;refine wpAny_storeName_cell I.ok.kind hk hc z (fun h' J1 hs=>?_);obtain⟨oc,Uv,Q4⟩:=id z;refine h {s with heap:=h'} ⟨I.ok,I.os,I.bare,⟨fun b o e n hb hx=>?_,fun b o e n hb hx=>?_,I.base.free,fun b o e hx=>?_,I.base.cF,I.base.oC,I.base.rT⟩,⟨m,hn.sameBut hs (Zd (JZ x c hc)),fun j y v' e1 e2 e3=>?_⟩,fun y c' e=>?_,I.free,I.m4,fun p hp=>?_,tracked ⟨oc,Uv,I.m4 x c hc⟩ hs,by simpa using I.len⟩ ⟨c,hs, .inr hc⟩
  ·exact(hs.2 b (Κ (Nat.lt_of_lt_of_le (Α e) (I.ok.QY x c M8 hc)))).trans (I.base.keep b o e n hb hx)
  ·obtain⟨sl,e1⟩:=I.base.slot b o e n hb hx;exact⟨sl,(hs.2 b (Κ (Nat.lt_of_lt_of_le (Α e) (I.ok.QY x c M8 hc)))).trans e1⟩
  ·obtain⟨o',e1⟩:=I.base.there b o e hx;exact⟨o',(hs.2 b (Κ (Nat.lt_of_lt_of_le (Α e) (I.ok.QY x c M8 hc)))).trans e1⟩
  ·by_cases hj:j=i
   ·subst hj;rw[hi]at e1;cases e1;rw[List.getElem?_set_self M7]at e2;cases e2;exact⟨u,r, .inr ⟨.inl hk,c,hc,J1⟩⟩
   ·rw[List.getElem?_set_ne (Zd hj)]at e2;obtain⟨u',r',q⟩:=hl j y v' e1 e2 e3;refine⟨u',r',?_⟩;rcases q with q|⟨k,c',e,z'⟩
    ·exact .inl q
    ·refine .inr ⟨k,c',e,z'.sameBut hs ?_⟩;rintro rfl;exact hj (yr hN e1 (I.ok.inj _ _ _ e hc▸hi))
  ·by_cases Uw:c'=c
   ·subst Uw;exact⟨_,J1⟩
   ·obtain⟨w2,z2⟩:=I.cell y c' e;exact⟨w2,z2.sameBut hs Uw⟩
  ·obtain⟨e,n,ne,nf,d⟩:=I.pin p hp;refine⟨(hs.2 p.1 ?_).trans e,n,ne,nf,d⟩;intro q;rw[q,Uv]at e;have q':oc=p.2:=Zu e;exact d w' (by rw[←q'];exact Q4)
theorem yt{M:Model}{A:Around}{E:Value→Shared→Prop}{i:Nat}{x:Str}{v:V}{u:Value}{Q:Unit→Shared→Prop}(I:Inv X pins σ H s)(hN:X.N.Nodup)(hi:X.N[i]?=some x)(hx:Loc X.env.scope x)(r:RelV v u)
  (h:∀s',Inv X pins (σ.set i (some v)) H s'→Q () s') (hf:X.fn x=true∨X.env.scope.names.lookup x=some .local:=by first|exact .inl rfl|exact .inr rfl|assumption):wpAny M A (storeName X.env x u) Q E s:=
 vD I hN hi hx r (fun s' I' _=>h s' I') hf
theorem Inv.M9{s':Shared}{ch:List Addr}(I:Inv X pins σ H s)(ho:s'.os=s.os)(u:Un (oz X.stack) ch H H' s.heap s'.heap)(bX:lJ X.prog X.w H' s'.heap)(hg:AllBare s'.gens)
  (Gi:∀b∈ch,(b∈X.ex∨X.dG.heap.objs.size≤b)∧b≠X.env.locals∧(∀x c,X.env.cells.lookup x=some c→c≠b)∧∀p∈X.pn++pins,p.1≠b):Inv X pins σ H' s':=by
 obtain⟨h',g',d',t',o'⟩:=s';have e:o'=s.os:=ho;subst e;exact I.call (g':=g') (t':=t') (d':=d') u bX hg Gi
end
abbrev XK:=Value→Option Addr→Hp→Prop
abbrev St:=List (Option V)
abbrev VK:=V→Hp→Prop
abbrev TE:=St→Hp→VK→Prop
abbrev TT:=St→Hp→(Bool→Hp→Prop)→Prop
abbrev TA:=St→Hp→(List V→Hp→Prop)→Prop
structure Ends where
 nx:St→Hp→Prop
 rt:VK
 bk:St→Hp→Prop:=fun _ _=>False
 ct:St→Hp→Prop:=fun _ _=>False
abbrev TS:=Ends→St→Hp→Prop
def EP(X:Cx)(pins:List (Addr×Obj))(σ:St)(Q:VK)(u:Value)(s':Shared):Prop:=∃v H',Inv X pins σ H' s'∧RelV v u∧Q v H'
def TP(X:Cx)(pins:List (Addr×Obj))(σ:St)(Q:Bool→Hp→Prop)(b:Bool)(s':Shared):Prop:=∃H',Inv X pins σ H' s'∧Q b H'
def AP(X:Cx)(pins:List (Addr×Obj))(σ:St)(Q:List V→Hp→Prop)(us:List Value)(s':Shared):Prop:=∃vs H',Inv X pins σ H' s'∧Vals vs us∧Q vs H'
def SP(X:Cx)(pins:List (Addr×Obj))(D:Ends)(f:Flow)(s':Shared):Prop:=
 match f with
 | .next=>∃bx H',Inv X pins bx H' s'∧D.nx bx H'
 | .brk=>∃bx H',Inv X pins bx H' s'∧D.bk bx H'
 | .cont=>∃bx H',Inv X pins bx H' s'∧D.ct bx H'
 | .ret u=>∃v bx H',Inv X pins bx H' s'∧RelV v u∧D.rt v H'
def PE(X:Cx)(e:Expr)(t:TE):Prop:=
 ∀(pins:List (Addr×Obj))(s:Shared)(σ:St)(H:Hp)(Q:VK),Inv X pins σ H s→t σ H Q→wpAny (model X.prog X.w) X.A (eval e X.env) (EP X pins σ Q) X.xe s
def PT(X:Cx)(e:Expr)(t:TT):Prop:=
 ∀(pins:List (Addr×Obj))(s:Shared)(σ:St)(H:Hp)(Q:Bool→Hp→Prop),Inv X pins σ H s→t σ H Q→wpAny (model X.prog X.w) X.A (isTrue e X.env (eval e X.env)) (TP X pins σ Q) X.xe s
def PW(X:Cx)(e:Expr)(t:TT):Prop:=
 ∀(whole:Sem Value)(pins:List (Addr×Obj))(s:Shared)(σ:St)(H:Hp)(Q:Bool→Hp→Prop),Inv X pins σ H s→t σ H Q→wpAny (model X.prog X.w) X.A (isTrue e X.env whole) (TP X pins σ Q) X.xe s
theorem PW.pt{X:Cx}{e:Expr}{t:TT}(h:PW X e t):PT X e t:=h _
def PA(X:Cx)(es:List Expr)(t:TA):Prop:=
 ∀(pos:Pos)(pins:List (Addr×Obj))(s:Shared)(σ:St)(H:Hp)(Q:List V→Hp→Prop),Inv X pins σ H s→t σ H Q→wpAny (model X.prog X.w) X.A (spliced (backTo pos (starEach es X.env))) (AP X pins σ Q) X.xe s
def PS(X:Cx)(st:Stmt)(t:TS):Prop:=
 ∀(pins:List (Addr×Obj))(s:Shared)(σ:St)(H:Hp)(D:Ends),Inv X pins σ H s→t D σ H→wpAny (model X.prog X.w) X.A (exec st X.env) (SP X pins D) X.xe s
def Ct(X:Cx)(st:List Stmt)(t:TS):Prop:=
 ∀(pins:List (Addr×Obj))(s:Shared)(σ:St)(H:Hp)(D:Ends),Inv X pins σ H s→t D σ H→wpAny (model X.prog X.w) X.A (execs st X.env) (SP X pins D) X.xe s
theorem cH{α:Type}{t:Sem α}{Q Q':α→Shared→Prop}{M:Model}{A:Around}{E:Value→Shared→Prop}{s:Shared}(h:wpAny M A t Q E s)(hQ:∀a s,Q a s→Q' a s):wpAny M A t Q' E s:=wpAny_mono h hQ fun _ _ x=>x
section
variable{X:Cx}
theorem bin{a b:Expr}{ta tb:TE}(ha:PE X a ta)(hb:PE X b tb){pins:List (Addr×Obj)}{s:Shared}{σ:St}{H:Hp}{R:V→V→Hp→Prop}(I:Inv X pins σ H s)(h:ta σ H fun x H1=>tb σ H1 fun y H2=>R x y H2)
  {α:Type} {Q:α→Shared→Prop} {f:Value→Value→Sem α}
  (hf:∀v u s2 x y H2,Inv X pins σ H2 s2→RelV x v→RelV y u→R x y H2→wpAny (model X.prog X.w) X.A (f v u) Q X.xe s2):
  wpAny (model X.prog X.w) X.A (eval a X.env) (fun v cf=>wpAny (model X.prog X.w) X.A (eval b X.env) (fun u qh=>wpAny (model X.prog X.w) X.A (f v u) Q X.xe qh) X.xe cf) X.xe s:=by
 refine cH (ha pins s σ H _ I h) fun v s1 ⟨x,H1,I1,r1,q1⟩=>?_
 refine cH (hb pins s1 σ H1 _ I1 q1) fun u s2 ⟨y,H2,I2,r2,q2⟩=>?_
 exact hf v u s2 x y H2 I2 r1 r2 q2
inductive J2(i:Nat)(σ:St)(H:Hp)(Q:VK):Prop
 |mk (v:_) (_:σ[i]?=some (some v)) (_:Q v H):J2 i σ H Q
def tC(v:V):TE:=fun _ H Q=>Q v H
theorem J3{i:Nat}{x:Str}{pos:Pos}(hN:X.N[i]?=some x)(hv:QX X.env.scope x)(hd:(x==("__debug__":Str))=false:=by decide)(Cu:(x==("__classdict__":Str))=false:=by decide):PE X (.Name x pos) (J2 i):=by
 intro pins s σ H Q I h;obtain⟨v,e,h⟩:=h;obtain⟨m,hn,hl⟩:=I.loc;obtain⟨u,r,l⟩:=hl i x v hN e hv;have fin:EP X pins σ Q u s:=⟨v,H,I,r,h⟩
 rcases l with⟨hk,hm⟩|⟨hk,c,hc,IG⟩
 ·exact wpAny_Name (wpAny_loadName_local I.ok.kind hk hn hm fin) hd
 ·rcases hk with hk|hk
  ·exact wpAny_Name (wpAny_loadName_cell I.ok.kind hk hc IG fin) hd
  ·exact wpAny_Name (wpAny_loadName_free I.ok.kind hk hc IG fin Cu) hd
theorem af{i j pos}:PE X (.Constant (.int i) j pos) (tC (.int i)):=fun _ _ _ H _ I h=>wpAny_Constant_int ⟨.int i,H,I.tok _,⟨_,rfl⟩,h⟩
theorem de{b j pos}:PE X (.Constant (.bool b) j pos) (tC (.bl b)):=fun _ _ _ H _ I h=>Constant_bool ⟨.bl b,H,I,rfl,h⟩
theorem jW{j pos}:PE X (.Constant .none j pos) (tC .cS):=fun _ _ _ H _ I h=>Constant_none ⟨.cS,H,I,rfl,h⟩
theorem dZ{x j pos}:PE X (.Constant (.str x) j pos) (tC (.str x)):=fun _ _ _ H _ I h=>Calls.Constant_str ⟨.str x,H,I.tok _,⟨_,rfl⟩,h⟩
def Gl(X:Cx)(x:Str):Prop:=X.env.kindOf x=some .globalImplicit
theorem oE{E:Value→Shared→Prop}{pins:List (Addr×Obj)}{s:Shared}{σ:St}{H:Hp}{x:Str}{u:Value}{pos:Pos}{Q:Value→Shared→Prop}(I:Inv X pins σ H s)(hg:Gl X x)(hm:X.mg x=some u)(h:Q u s)
  (hd:(x==("__debug__":Str))=false:=by decide):wpAny (model X.prog X.w) X.A (eval (.Name x pos) X.env) Q E s:=
 Calls.Name_function_global I.ok.kind hg (Calls.loadGlobal_global (by rw[I.ok.glob];exact I.mod.glob.keeps I.bk) hm h) hd
theorem kH{E:Value→Shared→Prop}{pins:List (Addr×Obj)}{s:Shared}{σ:St}{H:Hp}{x:Str}{u:Value}{pos:Pos}{Q:Value→Shared→Prop}(I:Inv X pins σ H s)(hg:Gl X x)(hm:X.mg x=none)(hv:bootBuiltins x=some u)(h:Q u s)
  (hn:x≠"__name__":=by decide) (hd:(x==("__debug__":Str))=false:=by decide):wpAny (model X.prog X.w) X.A (eval (.Name x pos) X.env) Q E s:=by
 obtain⟨mb,h1,h2⟩:=I.mod.blt;exact Calls.Name_function_global I.ok.kind hg (Calls.loadGlobal_builtin (by rw[I.ok.glob];exact I.mod.glob.keeps I.bk) hm (by rw[I.ok.blt];exact h1.keeps I.bk) ((h2 x hn).trans hv) h) hd
theorem Bn{x:Str}{v:V}{u:Value}{pos:Pos}(hg:Gl X x)(hm:X.mg x=some u)(r:RelV v u)(hd:(x==("__debug__":Str))=false:=by decide):PE X (.Name x pos) (tC v):=
 fun _ _ _ H _ I h=>oE I hg hm ⟨v,H,I,r,h⟩ hd
theorem mw{x:Str}{v:V}{u:Value}{pos:Pos}(hg:Gl X x)(hm:X.mg x=none)(hv:bootBuiltins x=some u)(r:RelV v u)(hn:x≠"__name__":=by decide)(hd:(x==("__debug__":Str))=false:=by decide):PE X (.Name x pos) (tC v):=
 fun _ _ _ H _ I h=>kH I hg hm hv ⟨v,H,I,r,h⟩ hn hd
variable{a b:Expr}{ta tb:TE}{pos:Pos}
def PC(X:Cx)(op:CmpOp)(a b:Expr)(t:TE):Prop:=
 ∀(pins:List (Addr×Obj))(s:Shared)(σ:St)(H:Hp)(Q:VK),Inv X pins σ H s→t σ H Q→
  wpAny (model X.prog X.w) X.A (eval a X.env) (fun v cf=>wpAny (model X.prog X.w) X.A (eval b X.env) (fun u qh=>wpAny (model X.prog X.w) X.A (compareOp op v u) (EP X pins σ Q) X.xe qh) X.xe cf) X.xe s
theorem bp(b:Expr){op:CmpOp}(h:op≠ .In)(h2:op≠ .NotIn):behindInMarks op b=false:=by
 have e1:(op==CmpOp.In)=false:=by cases op<;>first|rfl|exact absurd rfl h
 have e2:(op==CmpOp.NotIn)=false:=by cases op<;>first|rfl|exact absurd rfl h2
 cases b<;>simp[behindInMarks,e1,e2]
def Q5(ta:TE):TE:=fun σ H Q=>ta σ H fun x H1=>Q (.bl (decide (x= .cS))) H1
def M_(ta:TE):TE:=fun σ H Q=>ta σ H fun x H1=>Q (.bl (!decide (x= .cS))) H1
theorem RelV.yu{x:V}{v:Value}(r:RelV x v):(v==Value.none)=decide (x= .cS):=by
 cases x with
 |cS=>cases r;rfl
 |bl _=>cases r;rfl
 |int _=>obtain⟨t,rfl⟩:=r;rfl
 |str _=>obtain⟨t,rfl⟩:=r;rfl
 |Cr _=>obtain⟨t,rfl⟩:=r;rfl
 |IC _=>obtain⟨t,rfl⟩:=r;rfl
 |ref _=>cases r;rfl
 |ty _=>cases r;rfl
theorem lK{j pos'}(ha:PE X a ta):PC X .Is a (.Constant .none j pos') (Q5 ta):=by
 intro pins s σ H Q I h;refine cH (ha pins s σ H _ I h) fun v s1 ⟨x,H1,I1,r1,q1⟩=>?_
 exact Constant_none (is_none_gen ⟨.bl _,H1,I1,by rw[r1.yu];rfl,q1⟩)
theorem my{j pos'}(ha:PE X a ta):PC X .IsNot a (.Constant .none j pos') (M_ ta):=by
 intro pins s σ H Q I h;refine cH (ha pins s σ H _ I h) fun v s1 ⟨x,H1,I1,r1,q1⟩=>?_
 exact Constant_none (isnot_none_gen ⟨.bl _,H1,I1,by rw[r1.yu];rfl,q1⟩)
inductive Na(x:V)(H:Hp)(Q:Bool→Hp→Prop):Prop
 |mk (c:Bool) (_:x= .bl c) (_:Q c H):Na x H Q
def tB(t:TE):TT:=fun σ H Q=>t σ H fun x H1=>Na x H1 Q
theorem zW{op:CmpOp}{t:TE}(h:PC X op a b t)(h1:behindInMarks op b=false:=by first|exact bp _ (WD) (WD)|rfl):PE X (.Compare a [op] [b] pos) t:=fun pins s σ H Q I hw=>wpAny_Compare1 (h pins s σ H Q I hw) h1
theorem d0{op:CmpOp}{t:TE}(h:PC X op a b t)(h1:behindInMarks op b=false:=by first|exact bp _ (WD) (WD)|rfl):PT X (.Compare a [op] [b] pos) (tB t):=by
 intro pins s σ H Q I hw;refine wpAny_isTrue_Compare1 (cH (h pins s σ H _ I hw) fun v s1 h1=>cH h1 fun u s2 h2=>cH h2 fun c s3 ⟨x,H1,I1,r1,q1⟩=>?_) h1;obtain⟨d,rfl,q⟩:=q1;cases r1;exact wpAny_truthy_bool ⟨H1,I1,q⟩
theorem bS{e:Expr}{t:TE}(h:PE X e t)(he:∀whole,isTrue e X.env whole=(do let v←whole;standAt e.pos;holding [v] (truthy v)):=by intro _;rfl):PT X e (tB t):=by
 intro pins s σ H Q I hw;refine isTrue_plain (cH (h pins s σ H _ I hw) fun v s1 ⟨x,H1,I1,r1,q1⟩=>?_) (he _);obtain⟨d,rfl,q⟩:=q1;cases r1;exact wpAny_truthy_bool ⟨H1,I1,q⟩
variable{tA Py:TT}{rest:List Expr}
def Q6(t u:TT):TT:=fun σ H Q=>t σ H fun c H1=>if c=true then u σ H1 Q else Q false H1
def Wm(t u:TT):TT:=fun σ H Q=>t σ H fun c H1=>if c=true then Q true H1 else u σ H1 Q
def Q7(t:TT):TT:=fun σ H Q=>t σ H fun c H1=>Q (!c) H1
theorem pw_and1(ha:PT X a tA):PW X (.BoolOp .And [a] pos) tA:=by
 intro wh pins s σ H Q I h;refine isTrue_and (cH (ha pins s σ H Q I h) fun c s1 e=>?_);cases c with
 |true=>exact isTrue_and_nil e
 |false=>exact e
theorem pw_or1(ha:PT X a tA):PW X (.BoolOp .Or [a] pos) tA:=by
 intro wh pins s σ H Q I h;refine isTrue_or (cH (ha pins s σ H Q I h) fun c s1 e=>?_);cases c with
 |false=>exact isTrue_or_nil e
 |true=>exact e
theorem pw_and(ha:PT X a tA)(hb:PW X (.BoolOp .And (b::rest) pos) Py):PW X (.BoolOp .And (a::b::rest) pos) (Q6 tA Py):=by
 intro wh pins s σ H Q I h;refine isTrue_and (cH (ha pins s σ H _ I h) fun c s1 ⟨H1,I1,q1⟩=>?_);cases c with
 |true=>exact hb wh pins s1 σ H1 Q I1 q1
 |false=>exact⟨H1,I1,q1⟩
theorem pw_or(ha:PT X a tA)(hb:PW X (.BoolOp .Or (b::rest) pos) Py):PW X (.BoolOp .Or (a::b::rest) pos) (Wm tA Py):=by
 intro wh pins s σ H Q I h;refine isTrue_or (cH (ha pins s σ H _ I h) fun c s1 ⟨H1,I1,q1⟩=>?_);cases c with
 |true=>exact⟨H1,I1,q1⟩
 |false=>exact hb wh pins s1 σ H1 Q I1 q1
theorem cU(ha:PT X a tA):PT X (.UnaryOp .Not a pos) (Q7 tA):=by
 intro pins s σ H Q I h;exact isTrue_not (ha pins s σ H (fun c H1=>Q (!c) H1) I h)
def Nb(ta tb:TE):TE:=fun σ H Q=>ta σ H fun x H1=>∃c,x= .bl c∧if c=true then tb σ H1 Q else Q (.bl false) H1
def Q8(ta tb:TE):TE:=fun σ H Q=>ta σ H fun x H1=>∃c,x= .bl c∧if c=true then Q (.bl true) H1 else tb σ H1 Q
def Nc(ta:TE):TE:=fun σ H Q=>ta σ H fun x H1=>∃c,x= .bl c∧Q (.bl (!c)) H1
theorem kI{op}{t:TE}(h:PE X a t):PE X (.BoolOp op [a] pos) t:=fun pins s σ H Q I hw=>BoolOp_one (h pins s σ H Q I hw)
theorem sW(ha:PE X a ta)(hb:PE X (.BoolOp .And (b::rest) pos) tb):PE X (.BoolOp .And (a::b::rest) pos) (Nb ta tb):=by
 intro pins s σ H Q I h;refine BoolOp_and (cH (ha pins s σ H _ I h) fun v s1 ⟨x,H1,I1,r1,q1⟩=>?_);obtain⟨c,rfl,q1⟩:=q1;cases r1;refine wpAny_truthy_bool ?_;cases c with
 |true=>exact hb pins s1 σ H1 Q I1 q1
 |false=>exact⟨.bl false,H1,I1,rfl,q1⟩
theorem Bo(ha:PE X a ta)(hb:PE X (.BoolOp .Or (b::rest) pos) tb):PE X (.BoolOp .Or (a::b::rest) pos) (Q8 ta tb):=by
 intro pins s σ H Q I h;refine BoolOp_or (cH (ha pins s σ H _ I h) fun v s1 ⟨x,H1,I1,r1,q1⟩=>?_);obtain⟨c,rfl,q1⟩:=q1;cases r1;refine wpAny_truthy_bool ?_;cases c with
 |false=>exact hb pins s1 σ H1 Q I1 q1
 |true=>exact⟨.bl true,H1,I1,rfl,q1⟩
theorem D5(ha:PE X a ta):PE X (.UnaryOp .Not a pos) (Nc ta):=by
 intro pins s σ H Q I h;refine UnaryOp_ (cH (ha pins s σ H _ I h) fun v s1 ⟨x,H1,I1,r1,q1⟩=>?_);obtain⟨c,rfl,q1⟩:=q1;cases r1;exact not_of (wpAny_truthy_bool ⟨.bl (!c),H1,I1,rfl,q1⟩)
def Wn(t:TT)(ta tb:TE):TE:=fun σ H Q=>t σ H fun c H1=>if c=true then ta σ H1 Q else tb σ H1 Q
theorem oF{c:Expr}(hc:PT X c tA)(ha:PE X a ta)(hb:PE X b tb):PE X (.IfExp c a b pos) (Wn tA ta tb):=by
 intro pins s σ H Q I h;refine wpAny_IfExp (cH (hc pins s σ H _ I h) fun d s1 ⟨H1,I1,q1⟩=>?_);cases d with
 |true=>exact ha pins s1 σ H1 Q I1 q1
 |false=>exact hb pins s1 σ H1 Q I1 q1
end
def iK(K:PySem.W.Frag)(H:Hp)(a:Addr)(xs:List V):Prop:=
 Rd H a (.lst xs)∨
  ∃(o:Obj)(its:Array Value)(n:Nat),K.lookup a=some o∧o.cls= .type "list"∧o.dict=none∧o.data= .seq its n∧its.size≤sizeLine∧Vals xs its.toList
def D6(K:PySem.W.Frag)(H:Hp)(a:Addr)(xs:List V):Prop:=
 Rd H a (.tup xs)∨
  ∃(o:Obj)(its:Array Value)(n:Nat),K.lookup a=some o∧o.cls= .type "tuple"∧o.data= .seq its n∧its.size≤sizeLine∧Vals xs its.toList
def Q9:Value→Option V
 | .none=>some .cS
 | .bool b=>some (.bl b)
 | .int i _=>some (.int i)
 | .str x _=>some (.str x)
 | .bytes b _=>some (.Cr b)
 | .float b _=>some (.IC b)
 | .ref a=>some (.ref a)
 | .type n=>some (.ty n)
 | _=>none
theorem RelV.abs{x:V}{u:Value}(r:RelV x u):Q9 u=some x:=by
 cases x with
 |cS=>cases r;rfl
 |bl _=>cases r;rfl
 |int _=>obtain⟨t,rfl⟩:=r;rfl
 |str _=>obtain⟨t,rfl⟩:=r;rfl
 |Cr _=>obtain⟨t,rfl⟩:=r;rfl
 |IC _=>obtain⟨t,rfl⟩:=r;rfl
 |ref _=>cases r;rfl
 |ty _=>cases r;rfl
theorem RelV.inj{x y:V}{u:Value}(r:RelV x u)(q:RelV y u):x=y:=Zu (r.abs.symm.trans q.abs)
theorem Vals.inj:∀{xs ys:List V}{us:List Value},Vals xs us→Vals ys us→xs=ys
 | _,_,_, .nil, .nil=>rfl
 | _,_,_, .cons r t, .cons r' t'=>by rw[r.inj r',Vals.inj t t']
section
variable{X:Cx}{pins:List (Addr×Obj)}{σ:St}{H:Hp}{s:Shared}{a:Addr}{xs ys:List V}
theorem iK.of{K:PySem.W.Frag}(h:H a=some (.lst xs)):iK K H a xs:= .inl (.inl h)
theorem D6.of{K:PySem.W.Frag}(h:H a=some (.tup xs)):D6 K H a xs:= .inl (.inl h)
theorem Inv.list(I:Inv X pins σ H s)(h:iK X.K H a xs):∃its:List Value,Vals xs its∧PlainL s.heap a its.toArray∧xs.length≤sizeLine:=by
 rcases h with h|⟨o,its,n,hk,hc,hd,hs,hz,r⟩
 ·obtain⟨z,its,n,r,e⟩:=h.ok I.bX;exact⟨its,r,⟨_,n,e,rfl,rfl,rfl⟩,z⟩
 ·refine⟨its.toList,r,⟨o,n,I.qg a o hk,hc,hd,by simpa using hs⟩,?_⟩;have e:=r.length;simp only[Array.length_toList]at e;omega
theorem Inv.tuple(I:Inv X pins σ H s)(h:D6 X.K H a xs):∃its:List Value,Vals xs its∧IsTup s.heap a its.toArray∧xs.length≤sizeLine:=by
 rcases h with h|⟨o,its,n,hk,hc,hs,hz,r⟩
 ·obtain⟨z,its,r,p⟩:=h.ok I.bX;exact⟨its,r,p,z⟩
 ·refine⟨its.toList,r,⟨o,I.qg a o hk,hc,n,by simpa using hs⟩,?_⟩;have e:=r.length;simp only[Array.length_toList]at e;omega
theorem Inv.yv(I:Inv X pins σ H s)(h:iK X.K H a xs)(h':iK X.K H a ys):xs=ys:=by
 obtain⟨its,r,⟨o,n,e,_,_,d⟩,_⟩:=I.list h;obtain⟨its',r',⟨o',n',e',_,_,d'⟩,_⟩:=I.list h';rw[e]at e';cases e';rw[d]at d';injection d' with d1 _;have:its=its':=by simpa using congrArg Array.toList d1
 subst this;exact r.inj r'
end
abbrev Cx.Wo(X:Cx)(E:Value→Shared→Prop):Cx:={X with xe:=E}
section
variable{X:Cx}{pins:List (Addr×Obj)}{σ:St}{H:Hp}{s:Shared}{E:Value→Shared→Prop}
end
section
variable{X:Cx}{st:Stmt}{rest:List Stmt}{t u:TS}{e:Expr}{te:TE}{pos:Pos}
def Nd:TS:=fun D σ H=>D.nx σ H
def Q_(t u:TS):TS:=fun D σ H=>t {D with nx:=u D} σ H
theorem aP:Ct X [] Nd:=fun _ _ σ H _ I h=>wpAny_execs_nil ⟨σ,H,I,h⟩
theorem ax(h1:PS X st t)(h2:Ct X rest u):Ct X (st::rest) (Q_ t u):=by
 intro pins s σ H D I h;refine wpAny_execs_cons (cH (h1 pins s σ H {D with nx:=u D} I h) fun f s1 q=>?_);cases f with
 |next=>
  obtain⟨bx,H',I',q⟩:=q;exact h2 pins s1 bx H' D I' q
 |ret v=>exact q
 |brk=>exact q
 |cont=>exact q
theorem aj(h1:PS X st t):Ct X [st] t:=by
 intro pins s σ H D I h;refine wpAny_execs_cons (cH (h1 pins s σ H D I h) fun f s1 q=>?_);cases f with
 |next=>exact wpAny_execs_nil q
 |ret v=>exact q
 |brk=>exact q
 |cont=>exact q
theorem Inv.quiet{pins:List (Addr×Obj)}{σ:St}{H:Hp}{s:Shared}(I:Inv X pins σ H s):interactive X.env=false:=by simp[interactive,I.ok.kind]
def Nf(te:TE):TS:=fun D σ H=>te σ H fun _ H1=>D.nx σ H1
theorem a9(he:PE X e te)(hs:swapsWith e none pos.line X.env=pure false:=by rfl):PS X (.Expr e pos) (Nf te):=by
 intro pins s σ H D I h;exact wpAny_Expr_any (cH (he pins s σ H _ I h) fun v s1 ⟨x,H1,I1,r1,q1⟩=>⟨σ,H1,I1,q1⟩) I.quiet hs
def Ra(te:TE):TS:=fun D σ H=>te σ H D.rt
theorem aM(he:PE X e te):PS X (.Return (some e) pos) (Ra te):=by
 intro pins s σ H D I h;exact wpAny_Return_some (cH (he pins s σ H _ I h) fun v s1 ⟨x,H1,I1,r1,q1⟩=>⟨x,σ,H1,I1,r1,q1⟩)
def Rb(c:TT)(t u:TS):TS:=fun D σ H=>c σ H fun b H1=>if b=true then t D σ H1 else u D σ H1
theorem a7{c:Expr}{a b:List Stmt}{tc:TT}(hc:PT X c tc)(ha:Ct X a t)(hb:Ct X b u):PS X (.If c a b pos) (Rb tc t u):=by
 intro pins s σ H D I h;refine wpAny_If (cH (hc pins s σ H _ I h) fun d s1 ⟨H1,I1,q1⟩=>?_);cases d with
 |true=>exact ha pins s1 σ H1 D I1 q1
 |false=>exact hb pins s1 σ H1 D I1 q1
end
abbrev TG:=V→St→Hp→(St→Hp→Prop)→Prop
abbrev IH:=List V→St→Hp→(St→Hp→Prop)→Prop
def PG(X:Cx)(target:Expr)(t:TG):Prop:=
 ∀(pins:List (Addr×Obj))(s:Shared)(σ:St)(H:Hp)(v:V)(u:Value)(Q:St→Hp→Prop),Inv X pins σ H s→RelV v u→t v σ H Q→
  wpAny (model X.prog X.w) X.A (assign target X.env u) (fun _ s'=>∃bx H',Inv X pins bx H' s'∧Q bx H') X.xe s
def Ng(X:Cx)(ts:List Expr)(t:IH):Prop:=
 ∀(pins:List (Addr×Obj))(s:Shared)(σ:St)(H:Hp)(vs:List V)(us:List Value)(Q:St→Hp→Prop),Inv X pins σ H s→Vals vs us→t vs σ H Q→
  wpAny (model X.prog X.w) X.A (assignInOrder ((assignEach ts X.env).map (·.2)) us) (fun _ s'=>∃bx H',Inv X pins bx H' s'∧Q bx H') X.xe s
abbrev J4:=V→V→V→Hp→(Hp→Prop)→Prop
def Nh(X:Cx)(t:J4):Prop:=
 ∀(pins:List (Addr×Obj))(s:Shared)(σ:St)(H:Hp)(o i v:V)(ov iv u:Value)(Q:Hp→Prop),Inv X pins σ H s→RelV o ov→RelV i iv→RelV v u→t o i v H Q→
  wpAny (model X.prog X.w) X.A (setItem ov iv u) (fun _ s'=>∃H',Inv X pins σ H' s'∧Q H') X.xe s
section
variable{X:Cx}{pos:Pos}
def Bp(i:Nat):TG:=fun v σ H Q=>Q (σ.set i (some v)) H
theorem aJ{i:Nat}{x:Str}(hN:X.N.Nodup)(hi:X.N[i]?=some x)(hx:Loc X.env.scope x)(hf:X.fn x=true∨X.env.scope.names.lookup x=some .local:=by first|exact .inl rfl|exact .inr rfl|assumption):PG X (.Name x pos) (Bp i):=by
 intro pins s σ H v u Q I r h;exact wpAny_assign_Name (yt I hN hi hx r (fun s' I'=>⟨_,H,I',h⟩) hf)
def Rg:IH:=fun vs σ H Q=>vs=[]∧Q σ H
def Ni(t:TG)(u:IH):IH:=fun vs σ H Q=>∃v r,vs=v::r∧t v σ H fun bx H'=>u r bx H' Q
theorem gf:Ng X [] Rg:=by
 intro pins s σ H vs us Q I r h;obtain⟨e,h⟩:=h;subst e;cases r;exact assignInOrder_nil ⟨σ,H,I,h⟩
theorem bh{e:Expr}{es:List Expr}{t:TG}{u:IH}(h1:PG X e t)(h2:Ng X es u)
  (hs:(assignEach (e::es) X.env).map (·.2)=assign e X.env::(assignEach es X.env).map (·.2):=by rfl):Ng X (e::es) (Ni t u):=by
 intro pins s σ H vs us Q I r h;obtain⟨v,vr,e1,h⟩:=h;subst e1;cases r with
 |cons r rr=>
  rw[hs];refine assignInOrder_cons (cH (h1 pins s σ H _ _ _ I r h) fun _ s1 ⟨Mb,H1,I1,q1⟩=>?_);exact h2 pins s1 Mb H1 _ _ Q I1 rr q1
inductive J5(K:PySem.W.Frag)(n:Nat)(t:IH)(v:V)(σ:St)(H:Hp)(Q:St→Hp→Prop):Prop
 |mk (a:_) (xs:_) (_:v= .ref a) (_:D6 K H a xs) (_:xs.length=n) (_:t xs σ H Q):J5 K n t v σ H Q
theorem J6{es:List Expr}{k:Nat}{t:IH}{n:Nat}(hc:X.calm=true)(h:Ng X es t)
  (hn:(assignEach es X.env).length=n:=by rfl) (mz:(assignEach es X.env).findIdx? (·.1)=none:=by rfl):PG X (.Tuple es k pos) (J5 X.K n t):=by
 intro pins s σ H v u Q I r hw;obtain⟨a,xs,e1,hq,hl,hw⟩:=hw;subst e1;cases r;obtain⟨its,rv,ht,hz⟩:=I.tuple hq;refine assign_Tuple_tuple (I.ok.hd hc) ht (by simp[hn,←hl,rv.length]) mz fun h' hx=>?_
 have I1:Inv X pins σ H {s with heap:=h'}:=I.kept (t':=s.toks) fun b o e=>hx b o (Κ (Α e)) e
 exact h pins _ σ H xs _ Q I1 (by simpa using rv) hw
def Rh(to ti:TE)(t:J4):TG:=fun v σ H Q=>to σ H fun o H1=>ti σ H1 fun i H2=>t o i v H2 fun H3=>Q σ H3
theorem J7{o i:Expr}{to ti:TE}{t:J4}(ho:PE X o to)(hi:PE X i ti)(hs:Nh X t)
  (ha:∀v,assign (.Subscript o i pos) X.env v=(do
   let ov←holding [v] (eval o X.env)
   let iv←holding [v,ov] (eval i X.env)
   standAt pos
   holding [v,ov,iv] (setItem ov iv v)
   release [v,ov,iv] []):=by intro _;rfl):PG X (.Subscript o i pos) (Rh to ti t):=by
 intro pins s σ H v u Q I r h;rw[ha];refine wpAny_bind (wpAny_holding (cH (ho pins s σ H _ I h) fun ov s1 ⟨x,H1,I1,r1,q1⟩=>?_));refine wpAny_bind (wpAny_holding (cH (hi pins s1 σ H1 _ I1 q1) fun iv s2 ⟨y,H2,I2,r2,q2⟩=>?_));refine wpAny_bind (wpAny_standAt (Zk (wpAny_holding (cH (hs pins s2 σ H2 x y v ov iv u _ I2 r1 r2 r q2) fun _ s3 ⟨H3,I3,q3⟩=>?_))));exact wpAny_release ⟨σ,H3,I3,q3⟩
def J8(te:TE)(g:TG):TS:=fun D σ H=>te σ H fun x H1=>g x σ H1 D.nx
theorem zX{tg e:Expr}{te:TE}{g:TG}(he:PE X e te)(hg:PG X tg g)(hs:swapsWithSole [tg] e pos.line X.env=pure false:=by rfl)(hw:swappedStores [tg] e X.env=pure none:=by rfl)
  (h1:(assignEach [tg] X.env).map (·.2)=[assign tg X.env]:=by rfl):PS X (.Assign [tg] e pos) (J8 te g):=by
 intro pins s σ H D I h;refine wpAny_Assign_stores (cH (he pins s σ H _ I h) fun v s1 ⟨x,H1,I1,r1,q1⟩=>?_) hs hw;rw[h1];exact cH (hg pins s1 σ H1 x v _ I1 r1 q1) fun _ s2 q=>q
theorem aG{i:Nat}{x:Str}{e:Expr}{te:TE}{pos':Pos}(hN:X.N.Nodup)(hi:X.N[i]?=some x)(hx:Loc X.env.scope x)(he:PE X e te)(hs:swapsWith e (some (.Name x pos')) pos.line X.env=pure false:=by rfl)(hf:X.fn x=true∨X.env.scope.names.lookup x=some .local:=by first|exact .inl rfl|exact .inr rfl|assumption):
  PS X (.Assign [.Name x pos'] e pos) (J8 te (Bp i)):=by
 intro pins s σ H D I h;refine wpAny_Assign_Name (cH (he pins s σ H _ I h) fun v s1 ⟨y,H1,I1,r1,q1⟩=>?_) hs;exact yt I1 hN hi hx r1 (fun s2 I2=>⟨_,H1,I2,q1⟩) hf
end
section
variable{X:Cx}{pos:Pos}
def J9(c:TT)(tb:TS):TS:=fun D σ H=>∃W:Nat→St→Hp→Prop,(∃m,W m σ H)∧∀m σ H,W m σ H→
 c σ H fun b H1=>if b=true then ∃N:St→Hp→Prop,(∀bx H',N bx H'→∃m',m'<m∧W m' bx H')∧tb {D with nx:=N,ct:=N,bk:=D.nx} σ H1 else D.nx σ H1
theorem sX{c:Expr}{body:List Stmt}{tc:TT}{tb:TS}(hp:PassesOwn (model X.prog X.w) X.A X.env X.xe)(hc:PT X c tc)(hb:Ct X body tb):PS X (.While c body [] pos) (J9 tc tb):=by
 intro pins s σ H D I h;obtain⟨W,⟨m0,w0⟩,turn⟩:=h;refine wpAny_While (codeAny_whileLoop (fun n s'=>∃bx H',Inv X pins bx H' s'∧W n bx H') ?_ m0 ⟨σ,H,I,w0⟩);rintro n s1 ⟨Mb,H1,I1,w1⟩;refine wpAny_passesOwn hp (cH (hc pins s1 Mb H1 _ I1 (turn n Mb H1 w1)) fun b s2 ⟨H2,I2,q2⟩=>?_);cases b with
 |true=>
  obtain⟨N,hN,q2⟩:=q2;rw[if_pos rfl];refine wpAny_passesOwn hp (cH (hb pins s2 Mb H2 _ I2 q2) fun f s3 q3=>?_);cases f with
  |next=>
   obtain⟨D7,H3,I3,n3⟩:=q3;obtain⟨m',hm,w3⟩:=hN D7 H3 n3;exact⟨m',hm,D7,H3,I3,w3⟩
  |cont=>
   obtain⟨D7,H3,I3,n3⟩:=q3;obtain⟨m',hm,w3⟩:=hN D7 H3 n3;exact⟨m',hm,D7,H3,I3,w3⟩
  |brk=>exact q3
  |ret v=>exact q3
 |false=>
  rw[ZY Bool.false_ne_true];exact wpAny_execs_nil ⟨Mb,H2,I2,q2⟩
end
structure It where
 go:Nat→Hp→Prop
 GC:Nat→Hp→V→Hp→Prop
 stop:Nat→Hp→Prop
def iE(X:Cx)(pins:List (Addr×Obj))(H:Hp)(b:Addr):Prop:=
 H b=none∧b≠X.env.locals∧b∉X.fs∧(b∈X.ex∨X.dG.heap.objs.size≤b)∧(∀x c,X.env.cells.lookup x=some c→c≠b)∧∀p∈X.pn++pins,p.1≠b
theorem Inv.uM{X:Cx}{pins:List (Addr×Obj)}{σ:St}{H H':Hp}{s:Shared}{b:Addr}(I:Inv X pins σ H s)(hb:s.heap.objs.size≤b)(hn:H' b=none):iE X pins H' b:=by
 refine⟨hn,Nat.ne_of_gt (Nat.lt_of_lt_of_le I.lt hb),I.Q0 hb, .inr (Nat.le_trans I.sz hb),fun x c e z=>?_,fun p hp z=>?_⟩
 ·obtain⟨v,q⟩:=I.cell x c e;exact Y7 (Nat.lt_of_lt_of_le q.lt (by rw[z];exact hb)) (Nat.lt_irrefl _)
 ·exact Y7 (Nat.lt_of_lt_of_le (Α (I.pin p hp).1) (by rw[z];exact hb)) (Nat.lt_irrefl _)
structure Turn(P:Program)(w:World)(K:PySem.W.Frag)(tg:Expr)(J:It)(fp:List Addr)(it:Addr)(tn:Nat→Heap→Prop):Prop where
 mem:it∈fp
 obj:∀i h,tn i h→∀b∈fp,∃o,h.get? b=some o∧∀v,o.data≠ .cell v
 keep:∀i h h',tn i h→(∀b∈fp,∀o,h.get? b=some o→h'.get? b=some o)→tn i h'
 item:∀(X:Cx),X.prog=P→X.w=w→X.K=K→X.calm=true→∀(i:Nat)(pins:List (Addr×Obj))(s:Shared)(σ:St)(H:Hp)(E:Value→Shared→Prop),Inv X pins σ H s→(∀b∈fp,iE X pins H b)→tn i s.heap→J.go i H→
  wpAny (model P w) X.A (pyNext (.ref it)) (fun r s1=>∃u,r=some u∧
   wpAny (model P w) X.A (letOwnedTupleGo tg (.ref it) u) (fun _ s2=>∃x H',Inv X pins σ H' s2∧RelV x u∧J.GC i H x H'∧tn (i+1) s2.heap∧∀b∈fp,H' b=none) E s1) E s
 done:∀(X:Cx),X.prog=P→X.w=w→X.K=K→X.calm=true→∀(i:Nat)(pins:List (Addr×Obj))(s:Shared)(σ:St)(H:Hp)(E:Value→Shared→Prop),Inv X pins σ H s→(∀b∈fp,iE X pins H b)→tn i s.heap→J.stop i H→
  wpAny (model P w) X.A (pyNext (.ref it)) (fun r s1=>r=none∧Inv X pins σ H s1) E s
 self:∀(A:Around)(i:Nat)(s:Shared)(Q:Value→Shared→Prop)(E:Value→Shared→Prop),tn i s.heap→Q (.ref it) s→wpAny (model P w) A (pyIter (.ref it)) Q E s
abbrev TI:=St→Hp→(It→Hp→Prop)→Prop
def Ri(X:Cx)(pins:List (Addr×Obj))(σ:St)(tg:Expr)(R:It→Hp→Prop)(Rj:Value)(s2:Shared):Prop:=
 ∃(it:Addr)(fp:List Addr)(tn:Nat→Heap→Prop)(J:It)(H':Hp),Rj= .ref it∧Inv X pins σ H' s2∧Turn X.prog X.w X.K tg J fp it tn∧tn 0 s2.heap∧(∀b∈fp,iE X pins H' b)∧R J H'
def PI(X:Cx)(tg iter:Expr)(wi:TI):Prop:=
 ∀(pins:List (Addr×Obj))(s:Shared)(σ:St)(H:Hp)(R:It→Hp→Prop),Inv X pins σ H s→wi σ H R→
  wpAny (model X.prog X.w) X.A (eval iter X.env) (fun v s1=>wpAny (model X.prog X.w) X.A (pyIter v) (Ri X pins σ tg R) X.xe s1) X.xe s
theorem yw{M:Model}{A:Around}{E:Value→Shared→Prop}{s:Shared}{tg:Expr}{it:Addr}{u:Value}{o:Obj}{n:String}{vs:Array Value}{Q:Unit→Shared→Prop}(ho:s.heap.get? it=some o)(hc:o.cls= .type n)(hd:o.data= .fields vs)
  (hn:["enumerate","zip","dict_itemiterator","dict_reverseitemiterator","odict_iterator","itertools.zip_longest","itertools.pairwise"].contains n=false) (hQ:Q () s):wpAny M A (letOwnedTupleGo tg (.ref it) u) Q E s:=by
 unfold letOwnedTupleGo;cases tg<;>first
  |exact YZ hQ
  |(cases u<;>first
    |exact YZ hQ
    |(refine wpAny_bind (wpAny_load ho ?_)
      rw[hc,hd];show wpAny M A (if (["enumerate","zip","dict_itemiterator","dict_reverseitemiterator","odict_iterator","itertools.zip_longest","itertools.pairwise"].contains n&&vs[0]?==some (rawInt _))=true then _ else _) Q E s;rw[ZY (by intro h;rw[hn,Bool.false_and]at h;cases h)];exact YZ hQ))
def Mc(K:PySem.W.Frag)(a:Addr):It:=
 ⟨fun i H=>∃xs x,iK K H a xs∧xs[i]?=some x,fun i H x H'=>H'=H∧∀xs,iK K H a xs→xs[i]?=some x,fun i H=>∃xs,iK K H a xs∧xs.length≤i⟩
def II(lo:Int)(n:Nat):It:=⟨fun i _=>i<n,fun i H x H'=>H'=H∧x= .int (lo+i),fun i _=>n≤i⟩
theorem Cv{P:Program}{w:World}{K:PySem.W.Frag}{tg:Expr}(a it:Addr):Turn P w K tg (Mc K a) [it] it (fun i h=>h.IsListIter it a i) where
 mem:=XU
 obj:=fun i h st b hb=>by
  have e:b=it:=by simpa using hb
  subst e;obtain⟨o,e,c,d⟩:=st;exact⟨o,e,fun v z=>by rw[d]at z;cases z⟩
 keep:=fun i h h' st k=>st.at fun o e=>k it (XU) o e
 item:=by
  intro X hP hw hK hc i pins s σ H E I hf st hg;subst hP hw hK;obtain⟨xs,x,hq,hx⟩:=hg;obtain⟨its,rv,p,hz⟩:=I.list hq;obtain⟨u,hu,ru⟩:=rv.get hx;obtain⟨f0,f1,f2,f3,f4,f5⟩:=hf it (XU);refine wpAny_pyNext_list_item st p.isList (x:=u) (by simpa using hu) fun h' aU sb=>?_
  have I1:Inv X pins σ H {s with heap:=h'}:=I.turned (t':=s.toks) (fun b o hb e=>(sb.2 b hb).trans e) f0 f1 f3 f4 f5;obtain⟨o,e,c,d⟩:=id aU;exact⟨u,rfl,yw (s:={s with heap:=h'}) e c d (WD) ⟨x,H,I1,ru,⟨rfl,fun ys hy=>by rw[I.yv hy hq];exact hx⟩,aU,fun b hb=>(hf b hb).1⟩⟩
 done:=by
  intro X hP hw hK hc i pins s σ H E I hf st hg;subst hP hw hK;obtain⟨xs,hq,hx⟩:=hg;obtain⟨its,rv,p,hz⟩:=I.list hq;obtain⟨f0,f1,f2,f3,f4,f5⟩:=hf it (XU);have hl:=rv.length;exact wpAny_pyNext_list_end (I.ok.hd hc) st p.isList (by simp;omega) fun h' eb=>⟨rfl,I.turned (t':=s.toks) (fun b o hb e=>eb b o hb e) f0 f1 f3 f4 f5⟩
 self:=fun _ _ _ _ _ st h=>wpAny_pyIter_listiter st h
theorem zY{P:Program}{w:World}{K:PySem.W.Frag}{tg:Expr}(it:Addr)(lo:Int)(n:Nat):Turn P w K tg (II lo n) [it] it (fun i h=>IsRangeIter h it (lo+(i:Nat)*1) ((n:Int)-(i:Nat)) 1) where
 mem:=XU
 obj:=fun i h st b hb=>by
  have e:b=it:=by simpa using hb
  subst e;exact⟨_,st,fun v z=>by
   have z':Data.fields _=Data.cell v:=z;cases z'⟩
 keep:=fun i h h' st k=>k it (XU) _ st
 item:=by
  intro X hP hw hK hc i pins s σ H E I hf st hg;subst hP hw hK;obtain⟨f0,f1,f2,f3,f4,f5⟩:=hf it (XU);have W:=Walks.range (prog:=X.prog) (w:=X.w) (I.ok.hd hc) it lo 1 n;refine W.item i s _ _ hg st fun v h' tk hv aU kk=>?_
  obtain⟨t,rfl⟩:=hv;have I1:Inv X pins σ H {s with heap:=h',toks:=tk}:=I.turned (fun b o hb e=>kk b o (by simpa using hb) e) f0 f1 f3 f4 f5;refine⟨_,rfl,yw (s:={s with heap:=h',toks:=tk}) (n:="range_iterator") aU rfl rfl (WD) ⟨.int (lo+i),H,I1,⟨t,?_⟩,⟨rfl,rfl⟩,aU,fun b hb=>(hf b hb).1⟩⟩;rw[Int.mul_one]
 done:=by
  intro X hP hw hK hc i pins s σ H E I hf st hg;subst hP hw hK;obtain⟨f0,f1,f2,f3,f4,f5⟩:=hf it (XU);exact wpAny_pyNext_range_end (I.ok.hd hc) st (by have:n≤i:=hg;omega) fun h' eb=>⟨rfl,I.turned (t':=s.toks) (fun b o hb e=>eb b o hb e) f0 f1 f3 f4 f5⟩
 self:=fun _ _ _ _ _ st h=>wpAny_pyIter_rangeiter st h
section
variable{X:Cx}{tg:Expr}
def IJ(K:PySem.W.Frag)(tl:TE):TI:=fun σ H R=>tl σ H fun x H1=>∃a,x= .ref a∧(∃xs,iK K H1 a xs)∧R (Mc K a) H1
theorem GD{l:Expr}{tl:TE}(hl:PE X l tl):PI X tg l (IJ X.K tl):=by
 intro pins s σ H R I h;refine cH (hl pins s σ H _ I h) fun v s1 ⟨x,H1,I1,r1,q1⟩=>?_
 obtain⟨a,e,⟨xs,hq⟩,q⟩:=q1;subst e;cases r1;obtain⟨its,rv,p,hz⟩:=I1.list hq;refine wpAny_pyIter_list p.isList ?_;refine⟨s1.heap.objs.size,[s1.heap.objs.size],_,_,H1,rfl,I1.kept (t':=s1.toks) fun b o e=>ZZ e,Cv a _,⟨_,Heap.get?_push_size _ rfl,rfl,rfl⟩,fun b hb=>?_,q⟩;have e:b=s1.heap.objs.size:=by simpa using hb
 subst e;exact I1.uM Β (I1.bX.fresh Β)
theorem yx{pins:List (Addr×Obj)}{σ:St}{H:Hp}{s:Shared}{R:It→Hp→Prop}{E:Value→Shared→Prop}{lo hi:Int}{t u v:Tok}{tk:Nat}(I:Inv X pins σ H s)(h1:-(2^62)≤lo)(h2:lo<2^62)(h3:-(2^62)≤hi)(h4:hi<2^62)
  (q:R (II lo (hi-lo).toNat) H):wpAny (model X.prog X.w) X.A (pyIter (.ref s.heap.objs.size)) (Ri X pins σ tg R) E {s with heap:=s.heap.push {cls:= .type "range",data:= .fields #[.int lo t, .int hi u, .int 1 v]},toks:=tk}:=by
 refine wpAny_pyIter_range (IsRange.new ..) (small_one h1 h2 h3 h4) ?_;have I1:Inv X pins σ H {s with heap:=s.heap.push {cls:= .type "range",data:= .fields #[.int lo t, .int hi u, .int 1 v]},toks:=tk}:=I.kept fun b o e=>ZZ e
 refine⟨(s.heap.push {cls:= .type "range",data:= .fields #[.int lo t, .int hi u, .int 1 v]}).objs.size,[(s.heap.push {cls:= .type "range",data:= .fields #[.int lo t, .int hi u, .int 1 v]}).objs.size],_,_,H,rfl,
  I1.kept (t':=tk) fun b o e=>ZZ e,zY _ lo (hi-lo).toNat,?_,fun b hb=>?_,q⟩
 ·have e1:lo+((0:Nat):Int)*1=lo:=XU;have e2:(((hi-lo).toNat:Nat):Int)-((0:Nat):Int)=Builtin.Range.rangeSize lo hi 1:=by rw[rangeSize_one];split<;>omega
  show IsRangeIter _ _ (lo+((0:Nat):Int)*1) ((((hi-lo).toNat:Nat):Int)-((0:Nat):Int)) 1;rw[e1,e2];exact Heap.get?_push_size _ rfl
 ·have e:b=(s.heap.push {cls:= .type "range",data:= .fields #[.int lo t, .int hi u, .int 1 v]}).objs.size:=by simpa using hb
  subst e;exact I1.uM Β (I1.bX.fresh Β)
def Nj(ta:TA):TI:=fun σ H R=>ta σ H fun vs H1=>∃j:Int,vs=[.int j]∧-(2^62)≤j∧j<2^62∧R (II 0 j.toNat) H1
def Nk(ta:TA):TI:=fun σ H R=>ta σ H fun vs H1=>∃i j:Int,vs=[.int i, .int j]∧(-(2^62)≤i∧i<2^62∧-(2^62)≤j∧j<2^62)∧R (II i (j-i).toNat) H1
theorem cO{a:Expr}{ta:TA}{p pos:Pos}(hg:Gl X "range")(hm:X.mg "range"=none)(ha:PA X [a] ta)(hs:starEach [a] X.env=[(false,eval a X.env)]:=by rfl):PI X tg (.Call (.Name "range" p) [a] [] pos) (Nj ta):=by
 intro pins s σ H R I h;refine Call_ (kH I hg hm boot_range (PyProof.Rows.callWith_type1 (cH (ha pos pins s σ H _ I h) fun us s1 ⟨vs,H1,I1,r1,q1⟩=>?_) hs rfl));obtain⟨j,e,q1,q2,q⟩:=q1;subst e;cases r1 with
 |cons r rr=>
  cases rr;obtain⟨t,rfl⟩:=r;exact call_range_1 (yx I1 (Γ) (Γ) q1 q2 (by simpa using q))
theorem vE{a b:Expr}{ta:TA}{p pos:Pos}(hg:Gl X "range")(hm:X.mg "range"=none)(ha:PA X [a,b] ta)(hs:starEach [a,b] X.env=[(false,eval a X.env),(false,eval b X.env)]:=by rfl)(Gj:starEach [b] X.env=[(false,eval b X.env)]:=by rfl):
  PI X tg (.Call (.Name "range" p) [a,b] [] pos) (Nk ta):=by
 intro pins s σ H R I h;refine Call_ (kH I hg hm boot_range (PyProof.Rows.callWith_type1 (cH (ha pos pins s σ H _ I h) fun us s1 ⟨vs,H1,I1,r1,q1⟩=>?_) (by rw[hs,Gj]) (by rw[Gj];rfl)));obtain⟨i,j,e,⟨q1,q2,q3,q4⟩,q⟩:=q1;subst e;cases r1 with
 |cons r rr=>
  cases rr with
  |cons r' rr=>
   cases rr;obtain⟨t,rfl⟩:=r;obtain⟨t',rfl⟩:=r';exact call_range_2 (yx I1 q1 q2 q3 q4 q)
def Rk(wi:TI)(g:TG)(tb:TS):TS:=fun D σ H=>wi σ H fun J H1=>∃W:Nat→Nat→St→Hp→Prop,(∃m,W 0 m σ H1)∧∀i m σ H,W i m σ H→
 (J.stop i H∧D.nx σ H)∨(J.go i H∧∃N:St→Hp→Prop,(∀bx H',N bx H'→∃m',m'<m∧W (i+1) m' bx H')∧∀x H',J.GC i H x H'→g x σ H' fun f' H2=>tb {D with nx:=N,ct:=N,bk:=D.nx} f' H2)
def sY(fp:List Addr)(h:Heap):List (Addr×Obj):=fp.filterMap fun b=>(h.get? b).map fun o=>(b,o)
theorem gW{fp:List Addr}{h:Heap}{b:Addr}{o:Obj}(hb:b∈fp)(e:h.get? b=some o):(b,o)∈sY fp h:=List.mem_filterMap.mpr ⟨b,hb,by rw[e];rfl⟩
theorem Cw{fp:List Addr}{h:Heap}{p:Addr×Obj}(hp:p∈sY fp h):p.1∈fp∧h.get? p.1=some p.2:=by
 obtain⟨b,hb,e⟩:=List.mem_filterMap.mp hp;cases q:h.get? b with
 |none=>rw[q]at e;cases e
 |some o=>
  rw[q]at e;have e':(b,o)=p:=Zu e;subst e';exact⟨hb,q⟩
theorem Inv.pinned{pins:List (Addr×Obj)}{σ:St}{H:Hp}{s:Shared}{fp:List Addr}(I:Inv X pins σ H s)(hf:∀b∈fp,iE X pins H b)(ho:∀b∈fp,∃o,s.heap.get? b=some o∧∀v,o.data≠ .cell v):Inv X (pins++sY fp s.heap) σ H s:=
 I.Bl fun p hp=>(List.mem_append.mp hp).elim (fun z=>I.pin p (Μ z)) fun z=>by
  obtain⟨hb,e⟩:=Cw z;obtain⟨f0,f1,f2,_⟩:=hf p.1 hb;obtain⟨o,e',d⟩:=ho p.1 hb;rw[e]at e';cases e';exact⟨e,f0,f1,f2,d⟩
theorem Inv.lL{pins pl:List (Addr×Obj)}{σ:St}{H:Hp}{s:Shared}(I:Inv X (pins++pl) σ H s):Inv X pins σ H s:=I.Bl fun p hp=>I.pin p (Μ (δ hp))
theorem bf{iter:Expr}{body:List Stmt}{wi:TI}{g:TG}{tb:TS}{pos:Pos}(hp:PassesOwn (model X.prog X.w) X.A X.env X.xe)(hc:X.calm=true)(hi:PI X tg iter wi)(hg:PG X tg g)(hb:Ct X body tb)
  (hs:∀x,foldedSetIterable iter X.env x=pure x:=by intro _;rfl):PS X (.For tg iter body [] pos) (Rk wi g tb):=by
 intro pins s σ H D I h;refine wpAny_For (cH (hi pins s σ H _ I h) fun v s1 h1=>cH h1 fun Rj s2 h2=>?_) hs;obtain⟨it,fp,tn,J,H2,e,I2,T,dU,f2,W,⟨m0,w0⟩,turn⟩:=h2;subst e;have zZ:∀{H':Hp},(∀b∈fp,H' b=none)→∀b∈fp,iE X pins H' b:=fun hn b hb=>⟨hn b hb,(f2 b hb).2⟩
 refine codeAny_forLoop_any (fun n s'=>∃i bx H',Inv X pins bx H' s'∧tn i s'.heap∧(∀b∈fp,H' b=none)∧W i n bx H') ?_ m0 ⟨0,σ,H2,I2,dU,fun b hb=>(f2 b hb).1,w0⟩;rintro n s3 ⟨i,D7,H3,I3,D8,Md,w3⟩;rcases turn i n D7 H3 w3 with⟨stop,qn⟩|⟨go,N,hN,step⟩
 ·refine wpAny_passesOwn hp (cH (T.done X rfl rfl rfl hc i pins s3 D7 H3 X.xe I3 (zZ Md) D8 stop) fun r s4 ⟨hr,I4⟩=>?_);subst hr;exact wpAny_execs_nil ⟨D7,H3,I4,qn⟩
 ·refine wpAny_passesOwn hp (cH (T.item X rfl rfl rfl hc i pins s3 D7 H3 X.xe I3 (zZ Md) D8 go) fun r s4 ⟨u,hr,h4⟩=>?_);subst hr;refine wpAny_passesOwn hp (cH h4 fun _ s5 ⟨x,H5,I5,r5,y5,Me,Pz⟩=>?_);have Wq:=I5.pinned (zZ Pz) (T.obj _ _ Me);refine wpAny_passesOwn hp (cH (hg _ s5 D7 H5 x u _ Wq r5 (step x H5 y5)) fun _ s6 ⟨Wr,H6,I6,q6⟩=>?_);refine wpAny_passesOwn hp (cH (hb _ s6 Wr H6 _ I6 q6) fun f s7 q7=>?_);have again:∀{D9:St}{H7:Hp},Inv X (pins++sY fp s5.heap) D9 H7 s7→N D9 H7→∃m,m<n∧∃i bx H',Inv X pins bx H' s7∧tn i s7.heap∧(∀b∈fp,H' b=none)∧W i m bx H':=fun{D9 H7} I7 n7=>by
   obtain⟨m',hm,w7⟩:=hN D9 H7 n7;refine⟨m',hm,i+1,D9,H7,I7.lL,T.keep _ _ _ Me fun b hb o e=>(I7.pin (b,o) (Μ (Μ (gW hb e)))).1,fun b hb=>?_,w7⟩;obtain⟨o,e,d⟩:=T.obj _ _ Me b hb;exact(I7.pin (b,o) (Μ (Μ (gW hb e)))).2.1
  cases f with
  |next=>obtain⟨D9,H7,I7,n7⟩:=q7;exact again I7 n7
  |cont=>obtain⟨D9,H7,I7,n7⟩:=q7;exact again I7 n7
  |brk=>obtain⟨D9,H7,I7,q7⟩:=q7;exact⟨D9,H7,I7.lL,q7⟩
  |ret v=>obtain⟨x7,D9,H7,I7,r7,q7⟩:=q7;exact⟨x7,D9,H7,I7.lL,r7,q7⟩
end
theorem bG{K:PySem.W.Frag}{a:Addr}{xs:List V}{g:TG}{tb:TS}{D:Ends}{σ:St}{H:Hp}(Pv:Nat→St→Hp→Prop)(h0:Pv 0 σ H)(hl:∀i σ H,i≤xs.length→Pv i σ H→iK K H a xs)
  (hs:∀i x σ H,xs[i]?=some x→Pv i σ H→g x σ H fun f' H2=>tb {D with nx:=Pv (i+1),ct:=Pv (i+1),bk:=D.nx} f' H2) (hd:∀σ H,Pv xs.length σ H→D.nx σ H):
  ∃W:Nat→Nat→St→Hp→Prop,(∃m,W 0 m σ H)∧∀i m σ H,W i m σ H→
   ((Mc K a).stop i H∧D.nx σ H)∨((Mc K a).go i H∧∃N:St→Hp→Prop,(∀bx H',N bx H'→∃m',m'<m∧W (i+1) m' bx H')∧∀x H',(Mc K a).GC i H x H'→g x σ H' fun f' H2=>tb {D with nx:=N,ct:=N,bk:=D.nx} f' H2):=by
 refine⟨fun i m σ H=>m=xs.length-i∧i≤xs.length∧Pv i σ H,⟨xs.length,XU,Nat.zero_le _,h0⟩,?_⟩;rintro i m σ H ⟨rfl,hi,p⟩;have q:=hl i σ H hi p;by_cases hG:i<xs.length
 ·refine .inr ⟨⟨xs,xs[i],q,by simp[hG]⟩,Pv (i+1),fun bx H' p'=>⟨xs.length-(i+1),Γ,rfl,hG,p'⟩,fun x H' y=>?_⟩;obtain⟨e,y⟩:=y;subst e;exact hs i x σ _ (y xs q) p
 ·have e:i=xs.length:=Γ;subst e;exact .inl ⟨⟨xs,q,Nat.le_refl _⟩,hd σ H p⟩
theorem cC{lo:Int}{n:Nat}{g:TG}{tb:TS}{D:Ends}{σ:St}{H:Hp}(Pv:Nat→St→Hp→Prop)(h0:Pv 0 σ H)
  (hs:∀i σ H,i<n→Pv i σ H→g (.int (lo+i)) σ H fun f' H2=>tb {D with nx:=Pv (i+1),ct:=Pv (i+1),bk:=D.nx} f' H2) (hd:∀σ H,Pv n σ H→D.nx σ H):
  ∃W:Nat→Nat→St→Hp→Prop,(∃m,W 0 m σ H)∧∀i m σ H,W i m σ H→
   ((II lo n).stop i H∧D.nx σ H)∨((II lo n).go i H∧∃N:St→Hp→Prop,(∀bx H',N bx H'→∃m',m'<m∧W (i+1) m' bx H')∧∀x H',(II lo n).GC i H x H'→g x σ H' fun f' H2=>tb {D with nx:=N,ct:=N,bk:=D.nx} f' H2):=by
 refine⟨fun i m σ H=>m=n-i∧i≤n∧Pv i σ H,⟨n,XU,Nat.zero_le _,h0⟩,?_⟩;rintro i m σ H ⟨rfl,hi,p⟩;by_cases hG:i<n
 ·refine .inr ⟨hG,Pv (i+1),fun bx H' p'=>⟨n-(i+1),Γ,rfl,hG,p'⟩,fun x H' y=>?_⟩;obtain⟨e,y⟩:=y;subst e y;exact hs i σ _ hG p
 ·have e:i=n:=Γ;subst e;exact .inl ⟨Nat.le_refl _,hd σ H p⟩
abbrev R2:=V→V→Hp→VK→Prop
def rz(X:Cx)(f:Value→Value→Sem Value)(r:R2):Prop:=
 ∀(pins:List (Addr×Obj))(s:Shared)(σ:St)(H:Hp)(x y:V)(v u:Value)(Q:VK),Inv X pins σ H s→RelV x v→RelV y u→r x y H Q→
  wpAny (model X.prog X.w) X.A (f v u) (EP X pins σ Q) X.xe s
def Rl(X:Cx)(f:Value→Sem Value)(r:V→Hp→VK→Prop):Prop:=
 ∀(pins:List (Addr×Obj))(s:Shared)(σ:St)(H:Hp)(x:V)(v:Value)(Q:VK),Inv X pins σ H s→RelV x v→r x H Q→
  wpAny (model X.prog X.w) X.A (f v) (EP X pins σ Q) X.xe s
def ir(X:Cx)(f:Value)(r:List V→Hp→VK→Prop):Prop:=
 ∀(pins:List (Addr×Obj))(s:Shared)(σ:St)(H:Hp)(xs:List V)(us:List Value)(Q:VK),Inv X pins σ H s→Vals xs us→r xs H Q→
  wpAny (model X.prog X.w) X.A (call f us) (EP X pins σ Q) X.xe s
def PB(r:R2)(ta tb:TE):TE:=fun σ H Q=>ta σ H fun x H1=>tb σ H1 fun y H2=>r x y H2 Q
def Ws(r:V→Hp→VK→Prop)(ta:TE):TE:=fun σ H Q=>ta σ H fun x H1=>r x H1 Q
inductive rI(C:Int→Int→Prop)(g:Int→Int→V)(x:V)(y:V)(H:Hp)(Q:VK):Prop
 |mk (i:_) (j:_) (_:x= .int i) (_:y= .int j) (_:C i j) (_:Q (g i j) H):rI C g x y H Q
inductive GF(g:Int→Int→V)(x:V)(y:V)(H:Hp)(Q:VK):Prop
 |mk (i:_) (j:_) (_:x= .int i) (_:y= .int j) (_:Q (g i j) H):GF g x y H Q
inductive rU(g:Int→V)(x:V)(H:Hp)(Q:VK):Prop
 |mk (i:_) (_:x= .int i) (_:Q (g i) H):rU g x H Q
section
variable{X:Cx}{a b c:Expr}{ta tb tc:TE}{pos:Pos}
theorem J_(ha:PE X a ta)(hb:PE X b tb){pins:List (Addr×Obj)}{s:Shared}{σ:St}{H:Hp}{R:V→V→Hp→Prop}(I:Inv X pins σ H s)
  (h:ta σ H fun x H1=>tb σ H1 fun y H2=>R x y H2) {Q:Value→Shared→Prop} {f:Value→Value→Sem Value}
  (hf:∀v u s2 x y H2,Inv X pins σ H2 s2→RelV x v→RelV y u→R x y H2→wpAny (model X.prog X.w) X.A (f v u) Q X.xe s2):
  wpAny (model X.prog X.w) X.A (eval a X.env) (fun v cf=>wpAny (model X.prog X.w) X.A (eval b X.env) (fun u qh=>wpAny (model X.prog X.w) X.A (f v u) Q X.xe qh) X.xe cf) X.xe s:=by
 refine cH (ha pins s σ H _ I h) fun v s1 ⟨x,H1,I1,r1,q1⟩=>?_
 refine cH (hb pins s1 σ H1 _ I1 q1) fun u s2 ⟨y,H2,I2,r2,q2⟩=>?_
 exact hf v u s2 x y H2 I2 r1 r2 q2
theorem aH{op:Operator}{r:R2}(ho:rz X (binaryOp op) r)(ha:PE X a ta)(hb:PE X b tb):PE X (.BinOp a op b pos) (PB r ta tb):=by
 intro pins s σ H Q I h;exact wpAny_BinOp (J_ ha hb I h fun v u s2 x y H2 I2 rx ry q=>ho pins s2 σ H2 x y v u Q I2 rx ry q)
theorem lu{op:UnaryOp}{r:V→Hp→VK→Prop}(ho:Rl X (unaryOp op) r)(ha:PE X a ta):PE X (.UnaryOp op a pos) (Ws r ta):=by
 intro pins s σ H Q I h;exact UnaryOp_ (cH (ha pins s σ H _ I h) fun v s1 ⟨x,H1,I1,r1,q1⟩=>ho pins s1 σ H1 x v Q I1 r1 q1)
theorem Ro{f:Value→Value→Sem Value}{C:Int→Int→Prop}{g:Int→Int→Int}
  (rule:∀(i j:Int)(t u:Tok)(s:Shared)(Q:Value→Shared→Prop)(E:Value→Shared→Prop),C i j→Q (.int (g i j) s.toks) {s with toks:=s.toks+1}→wpAny (model X.prog X.w) X.A (f (.int i t) (.int j u)) Q E s):
  rz X f (rI C fun i j=> .int (g i j)):=by
 intro pins s σ H x y v u Q I rx ry h;obtain⟨i,j,rfl,rfl,hc,q⟩:=h;obtain⟨t,rfl⟩:=rx;obtain⟨t',rfl⟩:=ry;exact rule i j t t' s _ _ hc ⟨.int (g i j),H,I.tok _,⟨_,rfl⟩,q⟩
theorem Nl{f:Value→Value→Sem Value}{g:Int→Int→Int}
  (rule:∀(i j:Int)(t u:Tok)(s:Shared)(Q:Value→Shared→Prop)(E:Value→Shared→Prop),Q (.int (g i j) s.toks) {s with toks:=s.toks+1}→wpAny (model X.prog X.w) X.A (f (.int i t) (.int j u)) Q E s):
  rz X f (GF fun i j=> .int (g i j)):=by
 intro pins s σ H x y v u Q I rx ry h;obtain⟨i,j,rfl,rfl,q⟩:=h;obtain⟨t,rfl⟩:=rx;obtain⟨t',rfl⟩:=ry;exact rule i j t t' s _ _ ⟨.int (g i j),H,I.tok _,⟨_,rfl⟩,q⟩
theorem GG{f:Value→Value→Sem Value}{g:Int→Int→Bool}
  (rule:∀(i j:Int)(t u:Tok)(s:Shared)(Q:Value→Shared→Prop)(E:Value→Shared→Prop),Q (.bool (g i j)) s→wpAny (model X.prog X.w) X.A (f (.int i t) (.int j u)) Q E s):
  rz X f (GF fun i j=> .bl (g i j)):=by
 intro pins s σ H x y v u Q I rx ry h;obtain⟨i,j,rfl,rfl,q⟩:=h;obtain⟨t,rfl⟩:=rx;obtain⟨t',rfl⟩:=ry;exact rule i j t t' s _ _ ⟨.bl (g i j),H,I,rfl,q⟩
def J'(i j:Int):Prop:=0<j∧j<1073741824
def Ka(i j:Int):Prop:=(-(2^64)<i∧i<2^64)∨(-(2^64)<j∧j<2^64)
theorem Ka.ok{i j:Int}(h:Ka i j):IntMulOk i j:=by
 rcases h with⟨h1,h2⟩|⟨h1,h2⟩
 ·exact .of_left (intBits_le_64 h1 h2)
 ·exact .of_right (intBits_le_64 h1 h2)
theorem bA:rz X (binaryOp .Add) (GF fun i j=> .int (i+j)):=Nl fun _ _ _ _ _ _ _ q=>add_int q
theorem cx:rz X (binaryOp .Sub) (GF fun i j=> .int (i-j)):=Nl fun _ _ _ _ _ _ _ q=>sub_int q
theorem nz:rz X (binaryOp .Mult) (rI Ka fun i j=> .int (i*j)):=Ro fun _ _ _ _ _ _ _ hc q=>mul_int q hc.ok
theorem dI:rz X (binaryOp .FloorDiv) (rI J' fun i j=> .int (i/j)):=Ro fun i j _ _ _ _ _ hc q=>by
 have h1:(0:Int)<j:=hc.1;have h2:j<1073741824:=hc.2;exact floordiv_int (Γ) (by rw[Int.fdiv_eq_ediv_of_nonneg i (Γ)];exact q) (.inl (PyProof.noPylong_small (Γ)))
theorem bM:rz X (binaryOp .Mod) (rI (fun _ j=>0<j) fun i j=> .int (i%j)):=Ro fun i j _ _ _ _ _ hc q=>by
 have h1:(0:Int)<j:=hc;exact mod_int' (Γ) (by rw[Int.fmod_eq_emod_of_nonneg i (Γ)];exact q)
theorem Wt{f:Value→Sem Value}{g:Int→Int}
  (rule:∀(i:Int)(t:Tok)(s:Shared)(Q:Value→Shared→Prop)(E:Value→Shared→Prop),Q (.int (g i) s.toks) {s with toks:=s.toks+1}→wpAny (model X.prog X.w) X.A (f (.int i t)) Q E s):
  Rl X f (rU fun i=> .int (g i)):=by
 intro pins s σ H x v Q I rx h;obtain⟨i,rfl,q⟩:=h;obtain⟨t,rfl⟩:=rx;exact rule i t s _ _ ⟨.int (g i),H,I.tok _,⟨_,rfl⟩,q⟩
theorem iF:Rl X (unaryOp .USub) (rU fun i=> .int (-i)):=Wt fun _ _ _ _ _ q=>neg_int q
end
def Nm:V→V→Bool
 | .cS, .cS=>true| .cS, .int _=>true| .int _, .cS=>true| .cS, .bl _=>true| .bl _, .cS=>true| .cS, .str _=>true| .str _, .cS=>true
 | .int _, .int _=>true| .bl _, .bl _=>true| .str _, .str _=>true| .Cr _, .Cr _=>true
 | .int _, .str _=>true| .str _, .int _=>true| .bl _, .str _=>true| .str _, .bl _=>true
 | _,_=>false
def Wu:R2:=fun x y H Q=>Nm x y=true∧Q (.bl (decide (x=y))) H
def Wv:R2:=fun x y H Q=>Nm x y=true∧Q (.bl (!decide (x=y))) H
theorem Br{i j:Int}:decide (V.int i=V.int j)=(i==j):=by
 rw[Bool.eq_iff_iff];simp
theorem D_{i j:Bool}:decide (V.bl i=V.bl j)=(i==j):=by
 rw[Bool.eq_iff_iff];simp
theorem Bs{i j:Str}:decide (V.str i=V.str j)=(i==j):=by
 rw[Bool.eq_iff_iff];simp
theorem Bt{i j:Array UInt8}:decide (V.Cr i=V.Cr j)=(i.toList==j.toList):=by
 rw[Bool.eq_iff_iff];cases i;cases j;simp
section
variable{X:Cx}{a b c:Expr}{ta tb tc:TE}{pos:Pos}
theorem bK{pins:List (Addr×Obj)}{σ:St}{H:Hp}{s:Shared}{Q:VK}{k k':Bool}(I:Inv X pins σ H s)(q:Q (.bl k) H)(e:k=k'):EP X pins σ Q (.bool k') s:=by
 subst e;exact⟨.bl k,H,I,rfl,q⟩
theorem jg:rz X (compareOp .Eq) Wu:=by
 intro pins s σ H x y v u Q I rx ry h;obtain⟨hs,q⟩:=h;cases x with
 |cS=>
  cases rx;cases y with
  |cS=>cases ry;exact PySem.EqNone.eq_none_none Τ
  |bl j=>cases ry;exact PySem.EqNone.eq_none_bool Τ
  |int j=>obtain⟨t',rfl⟩:=ry;exact PySem.EqNone.eq_none_int Τ
  |str j=>obtain⟨t',rfl⟩:=ry;exact PySem.EqNone.eq_none_str Τ
  | _=>exact γ (show false=true from hs)
 |bl i=>
  cases rx;cases y with
  |cS=>cases ry;exact PySem.EqNone.eq_bool_none Τ
  |bl j=>cases ry;exact eq_bool (bK I q D_)
  |str j=>obtain⟨t',rfl⟩:=ry;exact PySem.EqMixed.eq_bool_str Τ
  | _=>exact γ (show false=true from hs)
 |int i=>
  obtain⟨t,rfl⟩:=rx;cases y with
  |cS=>cases ry;exact PySem.EqNone.eq_int_none Τ
  |int j=>obtain⟨t',rfl⟩:=ry;exact eq_int (bK I q Br)
  |str j=>obtain⟨t',rfl⟩:=ry;exact PySem.EqMixed.eq_int_str Τ
  | _=>exact γ (show false=true from hs)
 |str i=>
  obtain⟨t,rfl⟩:=rx;cases y with
  |cS=>cases ry;exact PySem.EqNone.eq_str_none Τ
  |bl j=>cases ry;exact PySem.EqMixed.eq_str_bool Τ
  |int j=>obtain⟨t',rfl⟩:=ry;exact PySem.EqMixed.eq_str_int Τ
  |str j=>obtain⟨t',rfl⟩:=ry;exact eq_str (bK I q Bs)
  | _=>exact γ (show false=true from hs)
 |Cr i=>
  obtain⟨t,rfl⟩:=rx;cases y with
  |Cr j=>obtain⟨t',rfl⟩:=ry;exact PySem.W.eq_bytes (bK I q Bt)
  | _=>exact γ (show false=true from hs)
 | _=>cases y<;>exact γ (show false=true from hs)
theorem Bu:rz X (compareOp .NotEq) Wv:=by
 intro pins s σ H x y v u Q I rx ry h;obtain⟨hs,q⟩:=h;cases x with
 |cS=>
  cases rx;cases y with
  |cS=>cases ry;exact PySem.EqNone.ne_none_none Τ
  |bl j=>cases ry;exact PySem.EqNone.ne_none_bool Τ
  |int j=>obtain⟨t',rfl⟩:=ry;exact PySem.EqNone.ne_none_int Τ
  |str j=>obtain⟨t',rfl⟩:=ry;exact PySem.EqNone.ne_none_str Τ
  | _=>exact γ (show false=true from hs)
 |bl i=>
  cases rx;cases y with
  |cS=>cases ry;exact PySem.EqNone.ne_bool_none Τ
  |bl j=>cases ry;exact ne_bool (bK I q (congrArg not D_))
  |str j=>obtain⟨t',rfl⟩:=ry;exact PySem.EqMixed.ne_bool_str Τ
  | _=>exact γ (show false=true from hs)
 |int i=>
  obtain⟨t,rfl⟩:=rx;cases y with
  |cS=>cases ry;exact PySem.EqNone.ne_int_none Τ
  |int j=>obtain⟨t',rfl⟩:=ry;exact ne_int (bK I q (congrArg not Br))
  |str j=>obtain⟨t',rfl⟩:=ry;exact PySem.EqMixed.ne_int_str Τ
  | _=>exact γ (show false=true from hs)
 |str i=>
  obtain⟨t,rfl⟩:=rx;cases y with
  |cS=>cases ry;exact PySem.EqNone.ne_str_none Τ
  |bl j=>cases ry;exact PySem.EqMixed.ne_str_bool Τ
  |int j=>obtain⟨t',rfl⟩:=ry;exact PySem.EqMixed.ne_str_int Τ
  |str j=>obtain⟨t',rfl⟩:=ry;exact ne_str (bK I q (congrArg not Bs))
  | _=>exact γ (show false=true from hs)
 |Cr i=>
  obtain⟨t,rfl⟩:=rx;cases y with
  |Cr j=>obtain⟨t',rfl⟩:=ry;exact PySem.W.ne_bytes (bK I q (congrArg not Bt))
  | _=>exact γ (show false=true from hs)
 | _=>cases y<;>exact γ (show false=true from hs)
theorem jD:rz X (compareOp .Lt) (GF fun i j=> .bl (decide (i<j))):=GG fun _ _ _ _ _ _ _ q=>lt_int q
theorem yy:rz X (compareOp .LtE) (GF fun i j=> .bl (decide (i≤j))):=GG fun _ _ _ _ _ _ _ q=>le_int q
theorem lz:rz X (compareOp .Gt) (GF fun i j=> .bl (decide (j<i))):=GG fun _ _ _ _ _ _ _ q=>gt_int q
theorem Bv:rz X (compareOp .GtE) (GF fun i j=> .bl (decide (j≤i))):=GG fun _ _ _ _ _ _ _ q=>ge_int q
theorem aT(b:Expr){op:CmpOp}(h:op≠ .In:=by decide)(h2:op≠ .NotIn:=by decide):behindInMarks op b=false:=by
 have e1:(op==CmpOp.In)=false:=by cases op<;>first|rfl|exact absurd rfl h
 have e2:(op==CmpOp.NotIn)=false:=by cases op<;>first|rfl|exact absurd rfl h2
 cases b<;>simp[behindInMarks,e1,e2]
theorem d6{op:CmpOp}{r:R2}(ho:rz X (compareOp op) r)(ha:PE X a ta)(hb:PE X b tb)(hm:behindInMarks op b=false):PE X (.Compare a [op] [b] pos) (PB r ta tb):=by
 intro pins s σ H Q I h;exact wpAny_Compare1 (J_ ha hb I h fun v u s2 x y H2 I2 rx ry q=>ho pins s2 σ H2 x y v u Q I2 rx ry q) hm
def Nn(t:TE):TT:=fun σ H Q=>t σ H fun x H'=>∃k,x= .bl k∧Q k H'
theorem aS{op:CmpOp}{r:R2}(ho:rz X (compareOp op) r)(ha:PE X a ta)(hb:PE X b tb)(hm:behindInMarks op b=false):PT X (.Compare a [op] [b] pos) (Nn (PB r ta tb)):=by
 intro pins s σ H Q I h;refine wpAny_isTrue_Compare1 (cH (ha pins s σ H _ I h) fun v s1 ⟨x,H1,I1,r1,q1⟩=>cH (hb pins s1 σ H1 _ I1 q1) fun u s2 ⟨y,H2,I2,r2,q2⟩=>
  cH (ho pins s2 σ H2 x y v u _ I2 r1 r2 q2) fun c s3 ⟨z,H3,I3,r3,k,e,q3⟩=>?_) hm
 subst e;cases r3;exact wpAny_truthy_bool ⟨H3,I3,q3⟩
theorem qi:(sizeLine:Nat)<2^63:=by rw[sizeLine_eq];decide
theorem nB:rz X (binaryOp .Add) (fun x y H Q=>∃i j,x= .str i∧y= .str j∧i.length+j.length≤sizeLine∧Q (.str (i++j)) H):=by
 intro pins s σ H x y v u Q I rx ry h;obtain⟨i,j,rfl,rfl,hz,q⟩:=h;obtain⟨t,rfl⟩:=rx;obtain⟨t',rfl⟩:=ry;exact add_str (fun t' tk=>⟨.str (i++j),H,I.tok _,⟨_,rfl⟩,q⟩) hz
theorem vals1{x:V}{us:List Value}(r:Vals [x] us):∃u,us=[u]∧RelV x u:=by
 cases r with
 |cons r1 r2=>cases r2;exact⟨_,rfl,r1⟩
theorem vals2{x y:V}{us:List Value}(r:Vals [x,y] us):∃u w',us=[u,w']∧RelV x u∧RelV y w':=by
 cases r with
 |cons r1 r2=>
  cases r2 with
  |cons r3 r4=>cases r4;exact⟨_,_,rfl,r1,r3⟩
theorem Cy(hc:X.calm=true):ir X (.builtin "max") (fun xs H Q=>∃i j,xs=[.int i, .int j]∧Q (.int (if j>i then j else i)) H):=by
 intro pins s σ H xs us Q I r h;obtain⟨i,j,rfl,q⟩:=h;obtain⟨u,w',rfl,⟨t,rfl⟩,⟨t',rfl⟩⟩:=vals2 r;refine max_two_ints (I.ok.hd hc) fun h' tk k=>⟨_,H,I.kept k,?_,q⟩
 by_cases hj:j>i
 ·rw[Z1 hj,Z1 hj];exact⟨_,rfl⟩
 ·rw[ZY hj,ZY hj];exact⟨_,rfl⟩
theorem qj(hc:X.calm=true):ir X (.builtin "min") (fun xs H Q=>∃i j,xs=[.int i, .int j]∧Q (.int (if j<i then j else i)) H):=by
 intro pins s σ H xs us Q I r h;obtain⟨i,j,rfl,q⟩:=h;obtain⟨u,w',rfl,⟨t,rfl⟩,⟨t',rfl⟩⟩:=vals2 r;refine min_two_ints (I.ok.hd hc) fun h' tk k=>⟨_,H,I.kept k,?_,q⟩
 by_cases hj:j<i
 ·rw[Z1 hj,Z1 hj];exact⟨_,rfl⟩
 ·rw[ZY hj,ZY hj];exact⟨_,rfl⟩
theorem qk:ir X (.type "int") (fun xs H Q=>(∃i,xs=[.int i]∧Q (.int i) H)∨∃k,xs=[.bl k]∧Q (.int (if k then 1 else 0)) H):=by
 intro pins s σ H xs us Q I r h;rcases h with⟨i,rfl,q⟩|⟨k,rfl,q⟩
 ·obtain⟨u,rfl,t,rfl⟩:=vals1 r;exact call_int_int ⟨.int i,H,I,⟨_,rfl⟩,q⟩
 ·obtain⟨u,rfl,r1⟩:=vals1 r;cases r1;exact call_int_bool ⟨.int (if k then 1 else 0),H,I.tok _,⟨_,rfl⟩,q⟩
end
structure z9(h:Heap)(x dx C:Addr)(mA:Str→Option Value):Prop where
 obj:h.get? x=some (PySem.W.instObj C dx)
 ns:h.Ns1 dx mA
 ne:dx≠x
theorem Cz{h:Heap}{dx:Addr}{mA:Str→Option Value}(n:h.Ns1 dx mA):∃od,h.get? dx=some od∧∀name,PySem.W.lookIn name od=some (mA name):=by
 obtain⟨o,es,ep,ho,hd,hk,_,hm⟩:=n;refine⟨o,ho,fun name=>?_⟩;have e:=hm name;unfold nsFind findBy at e;rw[←Array.find?_toList]at e;unfold PySem.W.lookIn;rw[hd];dsimp only;split
 ·rename_i y q
  rw[q]at e;exact congrArg some e
 ·rename_i q
  rw[q]at e;have a:es.toList.any (·.refKey)=false:=by
   rw[List.any_eq_false];intro y hy;obtain⟨z,t,oG⟩:=hk y (Array.mem_toList_iff.mp hy);simp[DictEntry.refKey,oG]
  have a':¬es.toList.any (·.refKey)=true:=by rw[a];exact Bool.false_ne_true
  rw[ZY a'];exact congrArg some e
theorem z9.look{h:Heap}{x dx C:Addr}{mA:Str→Option Value}(I:z9 h x dx C mA):∃od,PySem.W.InstAt h x (PySem.W.instObj C dx) C (some od)∧∀name,PySem.W.lookIn name od=some (mA name):=
 let ⟨od,ho,hl⟩:=Cz I.ns
 ⟨od,⟨I.obj,rfl,rfl,ho⟩,hl⟩
section
variable{prog:Program}{w:World}{A:Around}{E:Value→Shared→Prop}{s:Shared}{K:PySem.W.Frag}{x dx C f:Addr}{mA:Str→Option Value}{name:Str}{v:Value}
theorem get_map{expr:Bool}{Q:Value→Shared→Prop}(X:K.In s.heap)(I:z9 s.heap x dx C mA)(hg:PySem.W.plainGet K C name=true)(hh:PySem.W.hasDictIn K C=true)
  (ha:PySem.W.findIn K (.ref C) name=some none) (hv:mA name=some v) (Np:PySem.W.handedIn v=true) (h:Q v {s with toks:=s.toks+1}):
  wpAny (model prog w) A (getAttr (.ref x) name expr) Q E s:=by
 obtain⟨od,J,hl⟩:=I.look;exact PySem.W.get_value X J (PySem.W.plainGet_of hg).1 (PySem.W.findObj_own hh ha rfl (by rw[hl,hv])) Np h
theorem Ea{pl:Sem Bool}{Q:Value×List Value→Shared→Prop}(X:K.In s.heap)(I:z9 s.heap x dx C mA)(hg:PySem.W.plainGet K C name=true)
  (hf:PySem.W.findIn K (.ref C) name=some (some (.ref f))) (ht:PySem.W.isFn K (.ref f)=true) (hv:mA name=none) (h:Q (.ref f,[.ref x]) s):
  wpAny (model prog w) A (getMethod (.ref x) name pl) Q E s:=by
 obtain⟨od,J,hl⟩:=I.look;exact PySem.W.method_fn X J (PySem.W.plainGet_of hg).1 (PySem.W.plainGet_of hg).2 hf (beq_iff_eq.mp ht) (by show(PySem.W.lookIn name od).map (·.isSome)=some false;rw[hl,hv];rfl) h
theorem GH{ns:List Str}{Q:Unit→Shared→Prop}(X:K.In s.heap)(I:z9 s.heap x dx C mA)
  (hs:PySem.W.findIn K (.ref C) "__setattr__"=some (some (.builtin "object.__setattr__"))) (hp:PySem.W.plainOver K C=true) (ht:PySem.W.takerIn K C name=some none) (hh:PySem.W.hasDictIn K C=true)
  (hw:PySem.Within mA ns) (hsz:ns.length≤sizeLine)
  (h:∀h',z9 h' x dx C (fun y=>if y=name then some v else mA y)→Heap.SameBut dx s.heap h'→Q () {s with heap:=h',toks:=s.toks+2}):
  wpAny (model prog w) A (setAttr (.ref x) name v) Q E s:=by
 obtain⟨od,J,hl⟩:=I.look;refine PySem.W.set_plain X J hs (PySem.W.osa_open (s:={s with toks:=s.toks+1}) (r:=none) X J hp ht fun b=>?_);obtain⟨cd,hc,uH⟩:=PySem.W.any_some hh;have hx:s.heap.get? x=some ⟨.ref C,some dx, .plain,#[]⟩:=I.obj;refine wpAny_bind (YZ (Zk (Zk (wpAny_loadPart hx (Zk (PySem.W.Looks.here (s:={s with toks:=s.toks+1}) (PySem.W.looks_clsIn X hc) ?_))))));rw[uH];refine wpAny_pure (a:=some dx) (Zk (YZ (Zk ?_)));refine wpAny_nsSet1 (s:={s with toks:=s.toks+1}) I.ns fun h' vF Gj=>?_
 obtain⟨oD,aaF,YY,Ww,Wx,Wz⟩:=vF.count (PySem.Within.cons name v hw);refine wpAny_bind (wpAny_lookBehind Ww (by rw[Wx];exact pastItsLine_dict (Nat.le_trans Wz (by rw[List.length_cons];omega))) ?_);exact YZ (h _ ⟨(Gj.2 _ (Zd I.ne)).trans I.obj,vF,I.ne⟩ Gj)
theorem Eb{R:Result→Shared→Prop}{vs:List Value}{kw:List (Str×Value)}(X:K.In s.heap)(hm:PySem.W.makesIn K C=true)
  (hi:PySem.W.findIn K (.ref C) "__init__"=some (some (.ref f))) (hf:PySem.W.typeIn K (.ref f)=some (.type "function"))
  (h:codeAny (model prog w) (A.under (.builtin "type.__call__" ⟨.ref C::vs,kw⟩)) (.call (.ref f) ⟨.ref (s.heap.objs.size+1)::vs,kw⟩) (PySem.W.InitBack (s.heap.objs.size+1) R)
   {s with heap:=(s.heap.push PySem.W.emptyDict).push (PySem.W.instObj C s.heap.objs.size)}):
  codeAny (model prog w) A (.call (.ref C) ⟨vs,kw⟩) R s:=by
 obtain⟨hh,g,d,t,os⟩:=s;exact PySem.W.make_core (PySem.W.makes_of X hm) (PySem.W.looks_findIn X hi) (fun self=>PySem.W.bind_fn X self hf) (.inl rfl) h
end
def bu(f:Str)(v:V):List (Str×V)→List (Str×V)
 |[]=>[(f,v)]
 |(g,x)::r=>if g=f then(g,v)::r else(g,x)::bu f v r
theorem rA(f g:Str)(v:V):∀fs:List (Str×V),(bu f v fs).lookup g=if g=f then some v else fs.lookup g
 |[]=>by
  show List.lookup g [(f,v)]=_;by_cases h:g=f
  ·have hb:(g==f)=true:=beq_iff_eq.mpr h;simp only[List.lookup,hb,Z1 h]
  ·have hb:(g==f)=false:=beq_eq_false_iff_ne.mpr h;simp only[List.lookup,hb,ZY h]
 |(k,x)::r=>by
  have ih:=rA f g v r;rw[show bu f v ((k,x)::r)=(if k=f then(k,v)::r else(k,x)::bu f v r)from rfl];by_cases hk:k=f
  ·rw[Z1 hk];by_cases h:g=k
   ·have hb:(g==k)=true:=beq_iff_eq.mpr h;simp only[List.lookup,hb,Z1 (h.trans hk)]
   ·have hb:(g==k)=false:=beq_eq_false_iff_ne.mpr h;simp only[List.lookup,hb,ZY (fun e:g=f=>h (e.trans hk.symm))]
  ·rw[ZY hk];by_cases h:g=k
   ·have hb:(g==k)=true:=beq_iff_eq.mpr h;simp only[List.lookup,hb,ZY (fun e:g=f=>hk (h.symm.trans e))]
   ·have hb:(g==k)=false:=beq_eq_false_iff_ne.mpr h;simp only[List.lookup,hb];exact ih
theorem qm(f:Str)(v:V):∀fs:List (Str×V),f∈(bu f v fs).map (·.1)∧∀g,g∈fs.map (·.1)→g∈(bu f v fs).map (·.1)
 |[]=>⟨by simp[bu],fun g h=>by simp at h⟩
 |(k,x)::r=>by
  obtain⟨i1,i2⟩:=qm f v r;rw[show bu f v ((k,x)::r)=(if k=f then(k,v)::r else(k,x)::bu f v r)from rfl];by_cases hk:k=f
  ·rw[Z1 hk];subst hk;exact⟨XU,fun g h=>by simpa using h⟩
  ·rw[ZY hk];refine⟨?_,fun g h=>?_⟩
   ·rw[List.map_cons];exact Ρ i1
   ·rw[List.map_cons]at h⊢;rcases List.mem_cons.mp h with e|e
    ·exact List.mem_cons.mpr (.inl e)
    ·exact Ρ (i2 g e)
theorem aW(f:Str)(v:V):∀fs:List (Str×V),(bu f v fs).length≤fs.length+1
 |[]=>by simp[bu]
 |(k,x)::r=>by
  have ih:=aW f v r;rw[show bu f v ((k,x)::r)=(if k=f then(k,v)::r else(k,x)::bu f v r)from rfl];by_cases hk:k=f
  ·rw[Z1 hk,List.length_cons,List.length_cons];omega
  ·rw[ZY hk,List.length_cons,List.length_cons];omega
theorem kG.some_of{v:V}{o:Option Value}(r:kG (some v) o):∃u,o=some u∧RelV v u:=by
 cases o with
 |none=>exact(show False from r).elim
 |some u=>exact⟨u,rfl,r⟩
theorem kG.none_of{o:Option Value}(r:kG none o):o=none:=by
 cases o with
 |none=>rfl
 |some u=>exact(show False from r).elim
theorem CA{v:V}{u:Value}(r:RelV v u):PySem.W.handedIn u=true:=by
 cases v with
 |cS=>cases(show u=Value.none from r);rfl
 |bl b=>cases(show u=Value.bool b from r);rfl
 |int i=>obtain⟨t,e⟩:=(show ∃t,u=Value.int i t from r);cases e;rfl
 |str x=>obtain⟨t,e⟩:=(show ∃t,u=Value.str x t from r);cases e;rfl
 |Cr b=>obtain⟨t,e⟩:=(show ∃t,u=Value.bytes b t from r);cases e;rfl
 |IC b=>obtain⟨t,e⟩:=(show ∃t,u=Value.float b t from r);cases e;rfl
 |ref a=>cases(show u=Value.ref a from r);rfl
 |ty n=>cases(show u=Value.type n from r);rfl
section
variable{P:Program}{w:World}{H H':Hp}{h h':Heap}{a C dx:Addr}{fs Wl:List (Str×V)}
theorem sG(bX:lJ P w H h)(e:H a=some (.ins C dx fs)):∃mA,z9 h a dx C mA∧(∀f,kG (fs.lookup f) (mA f))∧PySem.Within mA (fs.map (·.1))∧fs.length≤1000∧H dx=some (.own a):=by
 obtain⟨d,z,ne,ob,mA,n,r,q⟩:=(show cT P w H h a (.ins C dx fs)from bX a _ e)
 exact⟨mA,⟨ob,n,ne⟩,r,q,z,d⟩
end
structure wA(K:PySem.W.Frag)(C:Addr):Prop where
 pg:PySem.W.plainGet K C Str.empty=true
 hd:PySem.W.hasDictIn K C=true
 po:PySem.W.plainOver K C=true
 sa:PySem.W.findIn K (.ref C) "__setattr__"=some (some (.builtin "object.__setattr__"))
theorem wA.get{K:PySem.W.Frag}{C:Addr}(c:wA K C)(f:Str):PySem.W.plainGet K C f=true:=c.pg
def bY(K:PySem.W.Frag)(C:Addr)(f:Str):Prop:=PySem.W.findIn K (.ref C) f=some none
theorem bY.Nq{K:PySem.W.Frag}{C:Addr}{f:Str}(n:bY K C f):PySem.W.takerIn K C f=some none:=by
 unfold PySem.W.takerIn;rw[show PySem.W.findIn K (.ref C) f=some none from n];rfl
structure Ec(K:PySem.W.Frag)(C:Addr)(f:Str)(v:V)(u:Value):Prop where
 at_:PySem.W.findIn K (.ref C) f=some (some u)
 rel:RelV v u
 get:PySem.W.specialIn K u "__get__"=some none
 cp:PySem.W.copiedNames.contains f=false
structure Meth(K:PySem.W.Frag)(C:Addr)(m:Str)(f:Addr):Prop where
 at_:PySem.W.findIn K (.ref C) m=some (some (.ref f))
 fn:PySem.W.isFn K (.ref f)=true
 kp:PySem.W.keepIn K (.ref f)=true
section
variable{X:Cx}{pins:List (Addr×Obj)}{σ:St}{H:Hp}{s:Shared}{a C dx:Addr}{fs:List (Str×V)}{f:Str}{v:V}{A:Around}{E:Value→Shared→Prop}
theorem z_{b:Bool}{Q:Value→Shared→Prop}(I:Inv X pins σ H s)(e:H a=some (.ins C dx fs))(c:wA X.K C)(n:bY X.K C f)(l:fs.lookup f=some v)
  (h:∀u s',Inv X pins σ H s'→RelV v u→Q u s'):wpAny (model X.prog X.w) A (getAttr (.ref a) f b) Q E s:=by
 obtain⟨mA,O,r,_,_,_⟩:=sG I.bX e;obtain⟨u,hu,ru⟩:=kG.some_of (v:=v) (o:=mA f) (by rw[←l];exact r f);exact get_map I.qg O (c.get f) c.hd n hu (CA ru) (h u _ (I.tok _) ru)
theorem nC{m:Str}{g:Addr}{pl:Sem Bool}{Q:Value×List Value→Shared→Prop}(I:Inv X pins σ H s)(e:H a=some (.ins C dx fs))(c:wA X.K C)(k:Meth X.K C m g)(l:fs.lookup m=none)
  (h:Q (.ref g,[.ref a]) s):wpAny (model X.prog X.w) A (getMethod (.ref a) m pl) Q E s:=by
 obtain⟨mA,O,r,_,_,_⟩:=sG I.bX e;have hn:mA m=none:=kG.none_of (by rw[←l];exact r m);exact Ea I.qg O (c.get m) k.at_ k.fn hn h
theorem Aa{y:V}{u:Value}{Q:Unit→Shared→Prop}(I:Inv X pins σ H s)(e:H a=some (.ins C dx fs))(c:wA X.K C)(n:bY X.K C f)(hl:fs.length<1000)(ry:RelV y u)
  (h:∀s',Inv X pins σ (upd H a (.ins C dx (bu f y fs))) s'→Q () s'):wpAny (model X.prog X.w) A (setAttr (.ref a) f u) Q E s:=by
 obtain⟨mA,O,r,wi,_,ho⟩:=sG I.bX e;have hz:(fs.map (·.1)).length≤sizeLine:=by rw[List.length_map,sizeLine_eq];omega
 refine GH I.qg O c.sa c.po n.Nq c.hd wi hz fun h' O' sb=>h _ ?_
 have hd:∃o,h'.get? dx=some o:=let ⟨o,_,_,e',_⟩:=O'.ns;⟨o,e'⟩
 refine I.write (x:=a) (e:=dx) (by rw[e];exact True.intro) (.inr ho) (fun b q hb z=>(sb.2 b hb).trans z) hd ?_;refine⟨by rw[ao O.ne];exact ho,?_,O.ne,O'.obj,_,O'.ns,fun g=>?_,fun g hg=>?_⟩
 ·have:=aW f y fs;omega
 ·show kG ((bu f y fs).lookup g) (if g=f then some u else mA g);rw[rA];by_cases q:g=f
  ·rw[Z1 q,Z1 q];exact ry
  ·rw[ZY q,ZY q];exact r g
 ·by_cases q:g=f
  ·rw[q];exact(qm f y fs).1
  ·refine(qm f y fs).2 g (wi g fun z=>hg ?_);show(if g=f then some u else mA g)=none;rw[ZY q];exact z
theorem Inv.made(I:Inv X pins σ H s):Inv X pins σ (upd (upd H s.heap.objs.size (.own (s.heap.objs.size+1))) (s.heap.objs.size+1) (.ins C s.heap.objs.size []))
  {s with heap:=(s.heap.push PySem.W.emptyDict).push (PySem.W.instObj C s.heap.objs.size)}:=by
 have e1:(s.heap.push PySem.W.emptyDict).get? s.heap.objs.size=some PySem.W.emptyDict:=Heap.get?_push_size s.heap rfl;have e2:((s.heap.push PySem.W.emptyDict).push (PySem.W.instObj C s.heap.objs.size)).get? (s.heap.objs.size+1)=some (PySem.W.instObj C s.heap.objs.size):=by
  have:=Heap.get?_push_size (s.heap.push PySem.W.emptyDict) (o:=PySem.W.instObj C s.heap.objs.size) rfl;rwa[Heap.size_push]at this
 have e3:(s.heap.push PySem.W.emptyDict).Ns s.heap.objs.size (fun _=>none):=⟨PySem.W.emptyDict,#[],_,e1,rfl,(fun e he=>absurd he Xs),fun _=>rfl⟩
 have I1:=I.laid (a:=s.heap.objs.size) (o:= .own (s.heap.objs.size+1)) (h':=s.heap.push PySem.W.emptyDict) (t':=s.toks) (fun b u q=>ZZ q) (Nat.le_refl _) ⟨_,e1⟩;refine I1.laid (a:=s.heap.objs.size+1) (o:= .ins C s.heap.objs.size []) (t':=s.toks) (fun b u q=>ZZ q) (Nat.le_of_eq (Heap.size_push _ _)) ?_;have ne:s.heap.objs.size≠s.heap.objs.size+1:=Κ (Nat.lt_succ_self _);refine⟨by rw[ao ne,ae],Nat.zero_le _,ne,e2,fun _=>none,(Heap.Ns1.of_empty e3).at fun o q=>ZZ q,fun _=>True.intro,fun y hy=>absurd rfl hy⟩
theorem GI{prog:Program}{w:World}{env:Env}{e:Expr}{f:Str}{pos:Pos}{s:Shared}{Q:Value→Shared→Prop}(hb:attributeBase e f env (eval e env)=eval e env)
  (h:wpAny (model prog w) A (eval e env) (fun o cf=>wpAny (model prog w) A (getAttr o f true) Q E cf) E s):wpAny (model prog w) A (eval (.Attribute e f pos) env) Q E s:=
 Attribute_any_ h (by rw[arm_eval_Attribute,hb])
end
inductive IK(K:PySem.W.Frag)(f:Str)(x:V)(H1:Hp)(Q:VK):Prop
 |mk (a:Addr) (C:Addr) (dx:Addr) (fs:List (Str×V)) (v:V) (_:x= .ref a) (_:H1 a=some (.ins C dx fs)) (_:wA K C) (_:bY K C f) (_:fs.lookup f=some v) (_:Q v H1):IK K f x H1 Q
def Nr(K:PySem.W.Frag)(ta:TE)(f:Str):TE:=fun σ H Q=>ta σ H fun x H1=>IK K f x H1 Q
def Nt(K:PySem.W.Frag)(ta tv:TE)(f:Str):TS:=fun D σ H=>tv σ H fun y H1=>ta σ H1 fun x H2=>∃a C dx fs,x= .ref a∧H2 a=some (.ins C dx fs)∧wA K C∧bY K C f∧fs.length<1000∧
 D.nx σ (upd H2 a (.ins C dx (bu f y fs)))
section
variable{X:Cx}{o e value:Expr}{f:Str}{pos pos' Rp:Pos}{ta tv:TE}
theorem Kb(he:PE X e ta)(hb:attributeBase e f X.env (eval e X.env)=eval e X.env):PE X (.Attribute e f pos) (Nr X.K ta f):=by
 intro pins s σ H Q I h;refine GI hb (cH (he pins s σ H _ I h) fun u s1 ⟨x,H1,I1,rx,a,C,dx,fs,v,ex,ea,c,n,l,q⟩=>?_);subst ex;obtain rfl:u=Value.ref a:=rx;exact z_ I1 ea c n l fun u' s2 I2 ru=>⟨v,H1,I2,ru,q⟩
theorem Kc(ha:PE X o ta)(hv:PE X value tv)(hs:swapsWith value (some (.Attribute o f pos')) pos.line X.env=pure false):PS X (.Assign [.Attribute o f pos'] value pos) (Nt X.K ta tv f):=by
 intro pins s σ H D I h;refine plainObj_wpAny_Assign_Attribute (cH (hv pins s σ H _ I h) fun u s1 ⟨y,H1,I1,ry,q⟩=>cH (ha pins s1 σ H1 _ I1 q) fun ov s2 ⟨x,H2,I2,rx,a,C,dx,fs,ex,ea,c,n,l,q2⟩=>?_) hs;subst ex;obtain rfl:ov=Value.ref a:=rx;exact Aa I2 ea c n l ry fun s3 I3=>⟨σ,_,I3,q2⟩
theorem aaA{pl:Sem Bool}{m:Str}{apos:Pos}{args:List Expr}{pins:List (Addr×Obj)}{s:Shared}{σ:St}{H:Hp}{Q:Value→Shared→Prop}{te:TE}(he:PE X e te)(I:Inv X pins σ H s)
  (h:te σ H fun x H1=>∃a C dx fs g,x= .ref a∧H1 a=some (.ins C dx fs)∧wA X.K C∧Meth X.K C m g∧fs.lookup m=none∧
   ∀s1,Inv X pins σ H1 s1→wpAny (model X.prog X.w) X.A (callWith pos (.ref g) [.ref a] (backTo pos (starEach args X.env)) (backToKw pos (keywordEach [] X.env))) Q X.xe s1)
  (ht:eval (.Call (.Attribute e m apos) args [] pos) X.env=(do
   let ov←eval e X.env
   standAt apos.atName
   let (f,first)←holding [ov] (getMethod ov m pl)
   callWith pos f first (backTo pos (starEach args X.env)) (backToKw pos (keywordEach [] X.env)))):
  wpAny (model X.prog X.w) X.A (eval (.Call (.Attribute e m apos) args [] pos) X.env) Q X.xe s:=by
 refine PySem.W.methodCall_KW (pl:=pl) (cH (he pins s σ H _ I h) fun u s1 ⟨x,H1,I1,rx,a,C,dx,fs,g,ex,ea,c,k,l,q⟩=>?_) ht;subst ex;obtain rfl:u=Value.ref a:=rx;exact nC I1 ea c k l (q s1 I1)
end
section
variable{X:Cx}{pins:List (Addr×Obj)}{σ:St}{H:Hp}{s:Shared}{A:Around}{E:Value→Shared→Prop}{Q:Value→Shared→Prop}{c:Value}{b:Bool}
inductive qo(K:PySem.W.Frag)(H:Hp):V→Value→Prop where
 |cS:qo K H .cS (.type "NoneType")
 |bl (x:Bool):qo K H (.bl x) (.type "bool")
 |int (i:Int):qo K H (.int i) (.type "int")
 |str (x:Str):qo K H (.str x) (.type "str")
 |IC (x:UInt64):qo K H (.IC x) (.type "float")
 |lst {a:Addr} {xs:List V} (e:H a=some (.lst xs)):qo K H (.ref a) (.type "list")
 |sF {a:Addr} {o:Obj} {xs:List V} (e:H a=some (.sF o (.lst xs))):qo K H (.ref a) (.type "list")
 |tup {a:Addr} {xs:List V} (e:H a=some (.tup xs)):qo K H (.ref a) (.type "tuple")
 |dK {a:Addr} {kvs:List (Key×V)} (e:H a=some (.dK kvs)):qo K H (.ref a) (.type "dict")
 |dT {a:Addr} {kvs:List (List Key×V)} (e:H a=some (.dT kvs)):qo K H (.ref a) (.type "dict")
 |ins {a C dx:Addr} {fs:List (Str×V)} (e:H a=some (.ins C dx fs)) (cl:wA K C) (ha:PySem.W.findIn K (.ref C) "__class__"=some (some (.builtin "object.__class__")))
   (hn:PySem.W.specialIn K (.builtin "object.__class__") "__get__"=some (some (.builtin "getset_descriptor.__get__"))) (Ux:PySem.W.takesIn K (.builtin "object.__class__")=some true)
   (hm:PySem.W.mroIn K C (.type "object")=some true):qo K H (.ref a) (.ref C)
theorem CB{x:V}{u t:Value}(I:Inv X pins σ H s)(rx:RelV x u)(ty:qo X.K H x t)(e:PySem.W.kitOne X.K t c=some b)(h:∀tk,Q (.bool b) {s with toks:=tk}):
  wpAny (model X.prog X.w) A (call (.builtin "isinstance") [u,c]) Q E s:=by
 cases ty with
 |cS=>cases(show u=Value.none from rx);exact PySem.W.kia_one PySem.W.kitx_none I.qg True.intro e (fun z=>nomatch z) h
 |bl y=>cases(show u=Value.bool y from rx);exact PySem.W.kia_one PySem.W.kitx_bool I.qg True.intro e (fun z=>nomatch z) h
 |int i=>obtain⟨t,q⟩:=(show ∃t,u=Value.int i t from rx);cases q;exact PySem.W.kia_one PySem.W.kitx_int I.qg True.intro e (fun z=>nomatch z) h
 |str y=>obtain⟨t,q⟩:=(show ∃t,u=Value.str y t from rx);cases q;exact PySem.W.kia_one PySem.W.kitx_str I.qg True.intro e (fun z=>nomatch z) h
 |IC y=>obtain⟨t,q⟩:=(show ∃t,u=Value.float y t from rx);cases q;exact PySem.W.kia_one PySem.W.kitx_float I.qg True.intro e (fun z=>nomatch z) h
 |@lst a xs ea=>
  cases(show u=Value.ref a from rx);obtain⟨_,_,n,_,h1⟩:=(show cT X.prog X.w H s.heap a (.lst xs)from I.bX a _ ea)
  exact PySem.W.kia_one PySem.W.kitx_list I.qg ⟨_,h1,rfl⟩ e (fun z=>nomatch z) h
 |@sF a ob xs ea=>
  cases(show u=Value.ref a from rx);obtain⟨_,_,_,n,_,h1⟩:=(show cT X.prog X.w H s.heap a (.sF ob (.lst xs))from I.bX a _ ea)
  exact PySem.W.kia_one PySem.W.kitx_list I.qg ⟨_,h1,rfl⟩ e (fun z=>nomatch z) h
 |@tup a xs ea=>
  cases(show u=Value.ref a from rx);obtain⟨_,_,_,p⟩:=(show cT X.prog X.w H s.heap a (.tup xs)from I.bX a _ ea)
  obtain⟨o,h1,h2,_⟩:=p;exact PySem.W.kia_one PySem.W.kitx_tuple I.qg ⟨o,h1,h2⟩ e (fun z=>nomatch z) h
 |@dK a kvs ea=>
  cases(show u=Value.ref a from rx);obtain⟨_,_,vs,_,p⟩:=(show cT X.prog X.w H s.heap a (.dK kvs)from I.bX a _ ea)
  obtain⟨o,es,ep,h1,h2,_⟩:=p;exact PySem.W.kia_one PySem.W.kitx_dict I.qg ⟨o,h1,h2.1⟩ e (fun z=>nomatch z) h
 |@dT a kvs ea=>
  cases(show u=Value.ref a from rx);obtain⟨_,_,xs,_,o,es,ep,h1,h2,_⟩:=(show cT X.prog X.w H s.heap a (.dT kvs)from I.bX a _ ea)
  exact PySem.W.kia_one PySem.W.kitx_dict I.qg ⟨o,h1,h2.1⟩ e (fun z=>nomatch z) h
 |@ins a C dx fs ea cl ha hn Ux hm=>
  cases(show u=Value.ref a from rx);obtain⟨mA,O,_⟩:=sG I.bX ea;obtain⟨od,J,_⟩:=O.look;exact PySem.W.kia_one (PySem.W.kitx_own (cl.get _) cl.hd ha hn Ux hm) I.qg J e (fun z=>nomatch z) h
end
structure eZ(cm:Bool)(k:Nat)(A:Around):Prop where
 hd:cm=true→A.handled=none
 dp:A.depth+3*k+5<recursionLimit
 un:A.units+16*k+200<cLine
theorem eZ.mono{cm:Bool}{j k:Nat}{A:Around}(r:eZ cm k A)(h:j≤k):eZ cm j A:=⟨r.hd,by have:=r.dp;omega,by have:=r.un;omega⟩
theorem eZ.deeper{cm:Bool}{k:Nat}{A:Around}(r:eZ cm (k+1) A)(env:Env):eZ cm k (A.deeper env):=
 ⟨r.hd,by have:=r.dp;show A.depth+1+3*k+5<_;omega,by have:=r.un;show A.units+3+16*k+200<_;omega⟩
theorem Ab{A:Around}{C:Addr}{us:List Value}{kw:List (Str×Value)}:(A.under (.builtin "type.__call__" ⟨.ref C::us,kw⟩)).depth=A.depth+1:=by
 first|rfl|simp[Around.under,Code.weight,Code.isCreation,Code.isGuard,Code.isCaller,Code.frames,Code.isFrame,guardIds]
theorem Ac{A:Around}{C:Addr}{us:List Value}{kw:List (Str×Value)}:(A.under (.builtin "type.__call__" ⟨.ref C::us,kw⟩)).units=A.units+1:=by
 first|rfl|simp[Around.under,Code.cUnits,Code.frames,Code.isFrame]
theorem eZ.make{cm:Bool}{k:Nat}{A:Around}(r:eZ cm (k+1) A)(C:Addr)(us:List Value)(kw:List (Str×Value)):eZ cm k (A.under (.builtin "type.__call__" ⟨.ref C::us,kw⟩)):=
 ⟨r.hd,by have:=r.dp;rw[Ab];omega,by have:=r.un;rw[Ac];omega⟩
theorem eZ.depth{cm:Bool}{k:Nat}{A:Around}(r:eZ cm k A):A.depth<recursionLimit:=by have:=r.dp;omega
theorem eZ.units{cm:Bool}{k:Nat}{A:Around}(r:eZ cm k A):A.units+64<cLine:=by have:=r.un;omega
def Ed:TA:=fun _ H Q=>Q [] H
def IM(ta:TE)(tr:TA):TA:=fun σ H Q=>ta σ H fun x H1=>tr σ H1 fun xs H2=>Q (x::xs) H2
section
variable{X:Cx}{e:Expr}{es:List Expr}{te:TE}{t:TA}{pos:Pos}
theorem ai:PA X [] Ed:=fun _ _ _ _ H Q I h=>Calls.spliced_nil ⟨[],H,I, .nil,h⟩
theorem GJ(ha:PE X e te)(hr:PA X es t)(hs:starEach (e::es) X.env=(false,eval e X.env)::starEach es X.env:=by rfl):PA X (e::es) (IM te t):=by
 intro pos pins s σ H Q I h;rw[hs];show wpAny _ _ (spliced ((false,eval e X.env)::backTo pos (starEach es X.env))) _ _ s;refine Calls.spliced_cons (cH (ha pins s σ H _ I h) fun u s1 ⟨x,H1,I1,r1,q1⟩=>?_);exact cH (hr pos pins s1 σ H1 _ I1 q1) fun us s2 ⟨xs,H2,I2,r2,q2⟩=>⟨x::xs,H2,I2, .cons r1 r2,q2⟩
def Rq(t:TA):TE:=fun σ H Q=>t σ H fun xs H1=>xs.length≤sizeLine∧∀p,H1 p=none→Q (.ref p) (upd H1 p (.tup xs))
def Rr(t:TA):TE:=fun σ H Q=>t σ H fun xs H1=>xs.length≤sizeLine∧∀p,H1 p=none→Q (.ref p) (upd H1 p (.lst xs))
theorem e8{x1}(h:PA X es t):PE X (.Tuple es x1 pos) (Rq t):=by
 intro pins s σ H Q I hq;refine wpAny_Tuple_spliced (cH (h pos pins s σ H _ I hq) fun us s1 ⟨xs,H1,I1,r,z,q⟩=>⟨by rw[←r.length];exact z,?_⟩);have hf:H1 s1.heap.objs.size=none:=I1.bX.fresh Β;refine⟨.ref s1.heap.objs.size,upd H1 s1.heap.objs.size (.tup xs),I1.laid (t':=s1.toks) (fun b u e=>ZZ e) (Nat.le_refl _) ?_,rfl,q _ hf⟩;exact⟨z,us,r,⟨_,Heap.get?_push_size _ rfl,rfl,_,rfl⟩⟩
theorem bH(h:PA X es t):PE X (.List es pos) (Rr t):=by
 intro pins s σ H Q I hq;refine wpAny_List_spliced (cH (h pos pins s σ H _ I hq) fun us s1 ⟨xs,H1,I1,r,z,q⟩=>⟨by rw[←r.length];exact z,?_⟩);have hf:H1 s1.heap.objs.size=none:=I1.bX.fresh Β;refine⟨.ref s1.heap.objs.size,upd H1 s1.heap.objs.size (.lst xs),I1.laid (t':=s1.toks) (fun b u e=>ZZ e) (Nat.le_refl _) ?_,rfl,q _ hf⟩;exact⟨z,us,0,r,Heap.get?_push_size _ rfl⟩
end
abbrev Sp:=List V→Hp→VK→XK→Prop
abbrev Ee:=List Env→Hp→Shared→XK→Value→Shared→Prop
structure Ad(P:Program)(w:World)(K:PySem.W.Frag)(mg:Str→Option Value)(base:Heap)(A:Around)(outer:List Env)(s:Shared)(H:Hp):Prop where
 frames:A.frames=some outer
 mod:Mod K mg base
 bs:∀b o,base.get? b=some o→s.heap.get? b=some o∧H b=none
 JX:base.objs.size≤s.heap.objs.size
 uL:s.heap.FunFrames base outer
 M5:∀b∈oz outer,H b=none
 bX:lJ P w H s.heap
 bare:AllBare s.gens
def CE(outer:List Env)(P:Program)(w:World)(H:Hp)(s:Shared)(Q:VK)(u:Value)(s':Shared):Prop:=
 ∃v H',s'.os=s.os∧AllBare s'.gens∧Un (oz outer) [] H H' s.heap s'.heap∧lJ P w H' s'.heap∧RelV v u∧Q v H'
def CR(CX:Ee)(outer:List Env)(P:Program)(w:World)(H:Hp)(s:Shared)(Q:VK)(E:XK)(r:Result)(s':Shared):Prop:=
 match r with
 | .ok (.ret u)=>CE outer P w H s Q u s'
 | .ok _=>False
 | .error e=>CX outer H s E e s'
structure a8(P:Program)(w:World)(K:PySem.W.Frag)(mg:Str→Option Value)(base:Heap)(CX:Ee)(cm:Bool)(k:Nat)(f:Addr)(fd:FuncData)(ps:List Str)(sp:Sp):Prop where
 len:∀vs H Q E,sp vs H Q E→vs.length=ps.length
 run:∀(A:Around)(outer:List Env)(s:Shared)(H:Hp)(args:Args)(us:List Value)(vs:List V)(Q:VK)(E:XK),eZ cm k A→Ad P w K mg base A outer s H→BindsTo s fd args (ps.zip us)→Vals vs us→sp vs H Q E→
  codeAny (model P w) A (.call (.ref f) args) (CR CX outer P w H s Q E) s
theorem Ad.make{P:Program}{w:World}{K:PySem.W.Frag}{mg:Str→Option Value}{base:Heap}{A:Around}{outer:List Env}{s:Shared}{H:Hp}(e:Ad P w K mg base A outer s H)(C:Addr)(us:List Value)(kw:List (Str×Value)):
  Ad P w K mg base (A.under (.builtin "type.__call__" ⟨.ref C::us,kw⟩)) outer s H:=⟨by first|exact e.frames|(simpa[Around.under,Code.envs,Code.isFrame,pushEnvs]using e.frames),e.mod,e.bs,e.JX,e.uL,e.M5,e.bX,e.bare⟩
section
variable{X:Cx}{pins:List (Addr×Obj)}{σ:St}{H:Hp}{s s':Shared}
theorem Inv.Kd(I:Inv X pins σ H s):Ad X.prog X.w X.K X.mg X.base X.A X.stack s H:=
 ⟨I.ok.frames,I.ok.mod,I.bs,Nat.le_trans I.ok.JX I.sz,I.stack,I.wz,I.bX,I.bare⟩
theorem Inv.after{Q:VK}{u:Value}(I:Inv X pins σ H s)(h:CE X.stack X.prog X.w H s Q u s'):EP X pins σ Q u s':=by
 obtain⟨v,H',os,bare,un,bX,r,q⟩:=h;obtain⟨hh,g,d,t,WA⟩:=s';obtain rfl:WA=s.os:=os;exact⟨v,H',I.call (h':=hh) (g':=g) (d':=d) (t':=t) (ch:=[]) un bX bare (fun b z=>absurd z Xs),r,q⟩
end
def IP(sp:Sp)(mB:List V)(E:St→XK)(t:TA):TE:=fun σ H Q=>t σ H fun vs H1=>sp (vs++mB) H1 Q (E σ)
def Bw(C:Addr)(m:Str)(sp:Sp)(mB:List V)(E:St→XK)(ta:TE)(t:TA):TE:=fun σ H Q=>ta σ H fun x H1=>∃a dx fs,x= .ref a∧H1 a=some (.ins C dx fs)∧fs.lookup m=none∧
 t σ H1 fun vs H2=>sp (x::(vs++mB)) H2 Q (E σ)
def Bx(C:Addr)(sp:Sp)(mB:List V)(E:St→XK)(t:TA):TE:=fun σ H Q=>t σ H fun vs H1=>∀x dx,H1 x=none→H1 dx=none→dx≠x→
 sp (.ref x::(vs++mB)) (upd (upd H1 dx (.own x)) x (.ins C dx [])) (fun v H2=>v= .cS∧Q (.ref x) H2) (E σ)
def Binds(K:PySem.W.Frag)(fd:FuncData)(ps:List Str)(ds:List Value):Prop:=
 ∀(s:Shared)(us:List Value),K.In s.heap→(us++ds).length=ps.length→BindsTo s fd ⟨us,[]⟩ (ps.zip (us++ds))
theorem Binds.all{K:PySem.W.Frag}{fd:FuncData}{ps:List Str}(h:∀us:List Value,us.length=ps.length→bindArgs fd ⟨us,[]⟩=pure (ps.zip us)):Binds K fd ps []:=fun s us _ hl=>by
 rw[List.append_nil]at hl⊢;exact .of_eq (h us hl)
def Passes(CX:Ee)(X:Cx)(E:St→XK):Prop:=∀(pins:List (Addr×Obj))(σ:St)(H:Hp)(s:Shared)(e:Value)(s':Shared),Inv X pins σ H s→CX X.stack H s (E σ) e s'→X.xe e s'
section
variable{X:Cx}{CX:Ee}{cm:Bool}{k:Nat}{f C:Addr}{fd:FuncData}{ps:List Str}{sp:Sp}{mB:List V}{ds:List Value}{E:St→XK}{x m:Str}{p pos apos:Pos}{e o:Expr}{es:List Expr}{ta:TE}{t:TA}
theorem Ae{pins:List (Addr×Obj)}{σ:St}{H:Hp}{s:Shared}{Q:VK}{us:List Value}{vs:List V}(F:a8 X.prog X.w X.K X.mg X.base CX cm k f fd ps sp)(hr:eZ cm k X.A)(hb:Binds X.K fd ps ds)(hd:Vals mB ds)(hx:Passes CX X E)
  (I:Inv X pins σ H s) (r:Vals vs us) (h:sp (vs++mB) H Q (E σ)):wpAny (model X.prog X.w) X.A (call (.ref f) us) (EP X pins σ Q) X.xe s:=by
 have r2:Vals (vs++mB) (us++ds):=r.append hd;have hl:(us++ds).length=ps.length:=by rw[←r2.length];exact F.len _ _ _ _ h
 refine wpAny_call (codeAny_mono (F.run X.A X.stack s H ⟨us,[]⟩ (us++ds) (vs++mB) Q (E σ) hr I.Kd (hb s us I.qg hl) r2 h) fun r s' hq=>?_);cases r with
 |error e=>exact hx pins σ H s e s' I hq
 |ok fl=>
  cases fl with
  |ret u=>exact I.after hq
  |next=>exact False.elim hq
  |brk=>exact False.elim hq
  |cont=>exact False.elim hq
theorem GK(F:a8 X.prog X.w X.K X.mg X.base CX cm k f fd ps sp)(hr:eZ cm k X.A)(hg:Gl X x)(hm:X.mg x=some (.ref f))(hk:PySem.W.keepIn X.K (.ref f)=true)(hb:Binds X.K fd ps ds)(hd:Vals mB ds)(hx:Passes CX X E)
  (ha:PA X (e::es) t) (wB:(x==("__debug__":Str))=false:=by decide) (he:starEach (e::es) X.env=(false,eval e X.env)::starEach es X.env:=by rfl) (rB:(backTo pos (starEach es X.env)).any (·.1)=false:=by rfl):
  PE X (.Call (.Name x p) (e::es) [] pos) (IP sp mB E t):=by
 intro pins s σ H Q I h;refine wpAny_Call_Name_kw (oE I hg hm ?_ wB);refine PySem.W.callWith_K (h₀:=X.base) I.ok.mod.Ma hk (cH (ha pos pins s σ H _ I h) fun us s1 ⟨vs,H1,I1,r,q⟩=>⟨I1.qg,?_⟩) he rB;exact Ae F hr hb hd hx I1 r q
theorem GL{pl:Sem Bool}(he:PE X o ta)(c:wA X.K C)(hm:Meth X.K C m f)(F:a8 X.prog X.w X.K X.mg X.base CX cm k f fd ps sp)(hr:eZ cm k X.A)(hb:Binds X.K fd ps ds)(hd:Vals mB ds)(hx:Passes CX X E)(ha:PA X (e::es) t)
  (mz:starEach (e::es) X.env=(false,eval e X.env)::starEach es X.env:=by rfl) (rB:(backTo pos (starEach es X.env)).any (·.1)=false:=by rfl)
  (ht:eval (.Call (.Attribute o m apos) (e::es) [] pos) X.env=(do
   let ov←eval o X.env
   standAt apos.atName
   let (f,first)←holding [ov] (getMethod ov m pl)
   callWith pos f first (backTo pos (starEach (e::es) X.env)) (backToKw pos (keywordEach [] X.env))):=by rfl):
  PE X (.Call (.Attribute o m apos) (e::es) [] pos) (Bw C m sp mB E ta t):=by
 intro pins s σ H Q I h;refine PySem.W.methodCall_KW (pl:=pl) (cH (he pins s σ H _ I h) fun u s1 ⟨x,H1,I1,rx,a,dx,fs,ex,ea,l,q⟩=>?_) ht;subst ex;obtain rfl:u=Value.ref a:=rx;refine nC I1 ea c hm l ?_;refine PySem.W.callWith_K (first:=[.ref a]) (h₀:=X.base) I.ok.mod.Ma hm.kp (cH (ha pos pins s1 σ H1 _ I1 q) fun us s2 ⟨vs,H2,I2,r,q2⟩=>⟨I2.qg,?_⟩) mz rB;exact Ae (us:= .ref a::us) (vs:= .ref a::vs) F hr hb hd hx I2 (.cons rfl r) q2
theorem Ef{pl:Sem Bool}(he:PE X o ta)(c:wA X.K C)(hm:Meth X.K C m f)(F:a8 X.prog X.w X.K X.mg X.base CX cm k f fd ps sp)(hr:eZ cm k X.A)(hb:Binds X.K fd ps ds)(hd:Vals mB ds)(hx:Passes CX X E)
  (ht:eval (.Call (.Attribute o m apos) [] [] pos) X.env=(do
   let ov←eval o X.env
   standAt apos.atName
   let (f,first)←holding [ov] (getMethod ov m pl)
   callWith pos f first (backTo pos (starEach [] X.env)) (backToKw pos (keywordEach [] X.env))):=by rfl):
  PE X (.Call (.Attribute o m apos) [] [] pos) (Bw C m sp mB E ta Ed):=by
 intro pins s σ H Q I h;refine PySem.W.methodCall_KW (pl:=pl) (cH (he pins s σ H _ I h) fun u s1 ⟨x,H1,I1,rx,a,dx,fs,ex,ea,l,q⟩=>?_) ht;subst ex;obtain rfl:u=Value.ref a:=rx;refine nC I1 ea c hm l ?_;exact PySem.W.callWith_K0 (first:=[.ref a]) I1.qg hm.kp (Ae (us:=[.ref a]) (vs:=[.ref a]) F hr hb hd hx I1 (.cons rfl .nil) q)
structure Mk(K:PySem.W.Frag)(C f:Addr):Prop where
 makes:PySem.W.makesIn K C=true
 init:PySem.W.findIn K (.ref C) "__init__"=some (some (.ref f))
 fn:PySem.W.isFn K (.ref f)=true
 kp:PySem.W.keepIn K (.ref C)=true
theorem yz{pins:List (Addr×Obj)}{σ:St}{H:Hp}{s:Shared}{Q:VK}{us:List Value}{vs:List V}(M:Mk X.K C f)(F:a8 X.prog X.w X.K X.mg X.base CX cm k f fd ps sp)(hr:eZ cm (k+1) X.A)(hb:Binds X.K fd ps ds)(hd:Vals mB ds)
  (hx:Passes CX X E) (I:Inv X pins σ H s) (r:Vals vs us)
  (h:∀x dx,H x=none→H dx=none→dx≠x→sp (.ref x::(vs++mB)) (upd (upd H dx (.own x)) x (.ins C dx [])) (fun v H2=>v= .cS∧Q (.ref x) H2) (E σ)):
  wpAny (model X.prog X.w) X.A (call (.ref C) us) (EP X pins σ Q) X.xe s:=by
 have hq:=h (s.heap.objs.size+1) s.heap.objs.size (I.bX.fresh (Nat.le_succ _)) (I.bX.fresh Β) (Κ (Nat.lt_succ_self _));have I2:=Inv.made (C:=C) I;have r2:Vals (V.ref (s.heap.objs.size+1)::(vs++mB)) (Value.ref (s.heap.objs.size+1)::(us++ds)):= .cons rfl (r.append hd);have hl:(Value.ref (s.heap.objs.size+1)::us++ds).length=ps.length:=by
  have e:=r2.length;rw[F.len _ _ _ _ hq]at e;exact e.symm
 refine wpAny_call (Eb (f:=f) I.qg M.makes M.init (beq_iff_eq.mp M.fn) (codeAny_mono (F.run _ X.stack _ _ ⟨Value.ref (s.heap.objs.size+1)::us,[]⟩ (Value.ref (s.heap.objs.size+1)::(us++ds)) _ _ (E σ) (hr.make C us [])
  (I2.Kd.make C us []) (hb _ (Value.ref (s.heap.objs.size+1)::us) I2.qg hl) r2 hq) fun r s' yA=>?_))
 cases r with
 |error e=>exact hx pins σ _ _ e s' I2 yA
 |ok fl=>
  cases fl with
  |ret u=>
   obtain⟨v,H',I3,rv,ev,q3⟩:=I2.after yA;subst ev;exact⟨rv,⟨V.ref (s.heap.objs.size+1),H',I3,rfl,q3⟩⟩
  |next=>exact False.elim yA
  |brk=>exact False.elim yA
  |cont=>exact False.elim yA
theorem GN(M:Mk X.K C f)(F:a8 X.prog X.w X.K X.mg X.base CX cm k f fd ps sp)(hr:eZ cm (k+1) X.A)(hg:Gl X x)(hm:X.mg x=some (.ref C))(hb:Binds X.K fd ps ds)(hd:Vals mB ds)(hx:Passes CX X E)
  (ha:PA X (e::es) t) (wB:(x==("__debug__":Str))=false:=by decide) (he:starEach (e::es) X.env=(false,eval e X.env)::starEach es X.env:=by rfl) (rB:(backTo pos (starEach es X.env)).any (·.1)=false:=by rfl):
  PE X (.Call (.Name x p) (e::es) [] pos) (Bx C sp mB E t):=by
 intro pins s σ H Q I h;refine wpAny_Call_Name_kw (oE I hg hm ?_ wB);refine PySem.W.callWith_K (h₀:=X.base) I.ok.mod.Ma M.kp (cH (ha pos pins s σ H _ I h) fun us s1 ⟨vs,H1,I1,r,q⟩=>⟨I1.qg,?_⟩) he rB;exact yz M F hr hb hd hx I1 r q
theorem Eh(M:Mk X.K C f)(F:a8 X.prog X.w X.K X.mg X.base CX cm k f fd ps sp)(hr:eZ cm (k+1) X.A)(hg:Gl X x)(hm:X.mg x=some (.ref C))(hb:Binds X.K fd ps ds)(hd:Vals mB ds)(hx:Passes CX X E)
  (wB:(x==("__debug__":Str))=false:=by decide):PE X (.Call (.Name x p) [] [] pos) (Bx C sp mB E Ed):=by
 intro pins s σ H Q I h;refine wpAny_Call_Name_kw (oE I hg hm ?_ wB);exact PySem.W.callWith_K0 I.qg M.kp (yz (us:=[]) M F hr hb hd hx I .nil h)
end
section
variable{X:Cx}{CX:Ee}{cm:Bool}{k:Nat}{f C:Addr}{fd:FuncData}{ps ks:List Str}{sp:Sp}{E:St→XK}{x m:Str}{p pos apos WB:Pos}{e o:Expr}{es:List Expr}{aaH:List Keyword}{te ta:TE}{t tk:TA}{nm:Option Str}
variable{g:List Value→List Value→List Value}{gV:List V→List V→List V}
end
structure aL(N P:List Str)(sc:Scope):Prop where
 kind:sc.kind= .function
 co:sc.isCoroutine=false
 gen:sc.isGenerator=false
 nd:N.Nodup
 pre:N.take P.length=P
 par:∀x∈P,sc.names.lookup x=some .local∨sc.names.lookup x=some .cell
 Ke:∀y∈sc.names,y.2≠ .free
theorem vG{kindOf:Str→Option NameKind}{x:Str}:∀{binds:List (Str×Value)}{m:Str→Option Value},(∀v,(x,v)∉binds)→bindL kindOf binds m x=m x
 |[],_,_=>rfl
 |(n,v)::r,m,h=>by
  unfold bindL;rw[vG fun w hw=>h w (Ρ hw)];split
  ·have:x≠n:=by rintro rfl;exact h v List.mem_cons_self
   simp[this]
  ·rfl
theorem vH{kindOf:Str→Option NameKind}{x:Str}:∀{binds:List (Str×Value)}{m:Str→Option Value},(∀v,(x,v)∉binds)→bindC kindOf binds m x=m x
 |[],_,_=>rfl
 |(n,v)::r,m,h=>by
  unfold bindC;rw[vH fun w hw=>h w (Ρ hw)];split
  ·rfl
  ·have:x≠n:=by rintro rfl;exact h v List.mem_cons_self
   simp[this]
theorem vI{kindOf:Str→Option NameKind}{x:Str}{v:Value}:∀{P:List Str}{vs:List Value}{i:Nat}{m:Str→Option Value},P.Nodup→P[i]?=some x→vs[i]?=some v→kindOf x=some .local→
  bindL kindOf (P.zip vs) m x=some v
 |[],_,_,_,_,h,_,_=>by simp at h
 | _::_,[],_,_,_,_,h,_=>by simp at h
 |p::P,w::vs,0,m,nd,h1,h2,hk=>by
  simp at h1 h2;subst h1;subst h2;show bindL kindOf ((p,w)::P.zip vs) m p=_;unfold bindL;rw[vG fun v hv=>(List.nodup_cons.mp nd).1 (List.of_mem_zip hv).1,Z1 hk];simp
 |p::P,w::vs,i+1,m,nd,h1,h2,hk=>by
  show bindL kindOf ((p,w)::P.zip vs) m x=_;unfold bindL;exact vI (i:=i) (List.nodup_cons.mp nd).2 (by simpa using h1) (by simpa using h2) hk
theorem vJ{kindOf:Str→Option NameKind}{x:Str}{v:Value}:∀{P:List Str}{vs:List Value}{i:Nat}{m:Str→Option Value},P.Nodup→P[i]?=some x→vs[i]?=some v→kindOf x≠some .local→
  bindC kindOf (P.zip vs) m x=some v
 |[],_,_,_,_,h,_,_=>by simp at h
 | _::_,[],_,_,_,_,h,_=>by simp at h
 |p::P,w::vs,0,m,nd,h1,h2,hk=>by
  simp at h1 h2;subst h1;subst h2;show bindC kindOf ((p,w)::P.zip vs) m p=_;unfold bindC;rw[vH fun v hv=>(List.nodup_cons.mp nd).1 (List.of_mem_zip hv).1,ZY hk];simp
 |p::P,w::vs,i+1,m,nd,h1,h2,hk=>by
  show bindC kindOf ((p,w)::P.zip vs) m x=_;unfold bindC;exact vJ (i:=i) (List.nodup_cons.mp nd).2 (by simpa using h1) (by simpa using h2) hk
def start(N:List Str)(vs:List V):St:=vs.map some++List.replicate (N.length-vs.length) none
def Af(CX:Ee)(cm:Bool)(P:Program)(w:World)(K:PySem.W.Frag)(mg:Str→Option Value)(base:Heap)(N:List Str)(qual:Str)(scope:Scope)(f:Addr)(cd:Value)(A:Around)(outer:List Env)(s:Shared)(H:Hp)(E:XK):Cx where
 prog:=P
 w:=w
 K:=K
 mg:=mg
 base:=base
 A:=A.deeper (ε qual scope f cd)
 N:=N
 dG:=s
 e7:=H
 env:=ε qual scope f cd
 outer:=outer
 stack:=envOfC qual scope s.heap.objs.size f cd::outer
 ex:=[]
 calm:=cm
 fn:=fun _=>true
 pn:=[]
 xe:=fun e s'=>wpAny (model P w) (A.deeper (ε qual scope f cd)) (leaving (ε qual scope f cd) e) (fun _ wC=>CX outer H s E e wC) (fun e' wC=>CX outer H s E e' wC) s'
theorem yB{sc:Scope}{n:Nat}{x:Str}(h:sc.names.lookup x=some .cell):∃c,(cellsFrom n sc.names []).lookup x=some c:=by
 have q:=PySem.W.cellsFrom_some sc.names n [] (.inl h);exact Option.isSome_iff_exists.mp q
theorem CC{CX:Ee}{cm:Bool}{P:Program}{w:World}{K:PySem.W.Frag}{mg:Str→Option Value}{base:Heap}{N ps:List Str}{qual:Str}{scope:Scope}{f:Addr}{cd:Value}{A:Around}{outer:List Env}{s s1:Shared}{H:Hp}{E:XK}{us:List Value}{vs:List V}
  (S:aL N ps scope) (hd:cm=true→A.handled=none) (e0:Ad P w K mg base A outer s H) (hl:vs.length=ps.length) (r:Vals vs us)
  (x:InCallC s s.heap.objs.size (bindL (ε qual scope f cd).kindOf (ps.zip us) fun _=>none) (cellsFrom (s.heap.objs.size+1) scope.names []) (bindC (ε qual scope f cd).kindOf (ps.zip us) fun _=>none) s1):
  Inv (Af CX cm P w K mg base N qual scope f cd A outer s H E) [] (start N vs) H s1:=by
 have rB:ps.length≤N.length:=by have:=congrArg List.length S.pre;rw[List.length_take]at this;omega
 obtain⟨h1,tk,rfl,hk⟩:=x.done;have Nu:∀b:Addr,b∉(Af CX cm P w K mg base N qual scope f cd A outer s H E).ex:=fun b z=>absurd (show b∈([]:List Addr)from z) (XU)
 refine⟨⟨e0.mod,S.kind,rfl,rfl,Nat.le_refl _,fun y z c h1 h2=>?_,fun y hy=>?_,fun y c _ h=>?_,fun z=>hd z,Around.frames_deeper e0.frames, .inr ⟨rfl,rfl⟩,fun b z=>Y7 z (Nu b),e0.bs,e0.JX,fun b _ _=>Nu b,fun b z=>Y7 z (Nu b),e0.uL,e0.M5⟩,
  rfl,e0.bare,Un.kept hk,⟨_,x.toInCall.ns,fun i y v h1 h2 h3=>?_⟩,fun y c h=>⟨_,x.cell y c h⟩,e0.bX.fresh Β,fun y c h=>?_,fun p hp=>absurd (show p∈([]:List (Addr×Obj))from hp) (XU),e0.bX.kept hk,?_⟩
 ·exact name_of_addr x.apart (PySem.mem_of_lookup h1) (PySem.mem_of_lookup h2)
 ·have hy:scope.names.lookup y=some .cell∨scope.names.lookup y=some .free:=hy;rcases hy with hy|hy
  ·exact yB hy
  ·exact absurd rfl (S.Ke _ (PySem.mem_of_lookup hy))
 ·exact Nat.le_of_lt (x.above y c (PySem.mem_of_lookup h))
 ·have hi:i<vs.length:=by
   unfold start at h2;by_cases hi:i<vs.length
   ·exact hi
   ·rw[Ο (by simpa using hi)]at h2;rw[List.getElem?_replicate]at h2;split at h2<;>cases h2
  have ha:vs[i]?=some v:=by
   unfold start at h2;rw[Ι (by simpa using hi),List.getElem?_map]at h2;cases e:vs[i]? with
   |none=>rw[e]at h2;cases h2
   |some a=>rw[e]at h2;cases h2;rfl
  obtain⟨u,hu,rv⟩:=r.get ha;have hp:ps[i]?=some y:=by
   rw[←S.pre,List.getElem?_take_of_lt (Γ)];exact h1
  have Uy:ps.Nodup:=by rw[←S.pre];exact S.nd.sublist (List.take_sublist _ _)
  refine⟨u,rv,?_⟩;rcases S.par y (ZS hp)with k|k
  ·exact .inl ⟨k,vI Uy hp hu k⟩
  ·obtain⟨c,e⟩:=yB (n:=s.heap.objs.size+1) k;refine .inr ⟨.inl k,c,e,?_⟩;have q:=x.cell y c e;rw[vJ Uy hp hu (by show scope.names.lookup y≠_;rw[k];decide)]at q;exact q
 ·exact e0.bX.fresh (Nat.le_of_lt (x.above y c (PySem.mem_of_lookup h)))
 ·unfold start;show _=N.length;rw[List.length_append,List.length_map,List.length_replicate];omega
theorem IQ{CX:Ee}{cm:Bool}{P:Program}{w:World}{K:PySem.W.Frag}{mg:Str→Option Value}{base:Heap}{k:Nat}{f:Addr}{name qual:Str}{params:Arguments}{body:List Stmt}{scope:Scope}{dV kV doc pm bR ct oc:Value}{an od:Option Addr}
  {By:Array (Option Value)} {N ps:List Str} {sp:Sp} (lk:K.lookup f=some ⟨oc,od, .func (PySem.W.fnOf name qual params body scope dV kV doc pm an bR ct),By⟩) (Cu:PySem.W.codeIn K bR qual=true) (S:aL N ps scope)
  (len:∀vs H Q E,sp vs H Q E→vs.length=ps.length)
  (yC:∀(A:Around)(outer:List Env)(s:Shared)(H:Hp)(vs:List V)(Q:VK)(E:XK),eZ cm k (A.deeper (ε qual scope f bR))→sp vs H Q E→
   ∃t,Ct (Af CX cm P w K mg base N qual scope f bR A outer s H E) body t∧t {nx:=fun _ H'=>Q .cS H',rt:=Q} (start N vs) H):
  a8 P w K mg base CX cm (k+1) f (PySem.W.fnOf name qual params body scope dV kV doc pm an bR ct) ps sp:=by
 refine⟨len,fun A outer s H args us vs Q E hr e0 hb r Gk=>?_⟩;have hl:=len _ _ _ _ Gk;have KX:K.In s.heap:=e0.mod.Ma.keeps fun b o e=>(e0.bs b o e).1
 have lim:s.heap.NoLimit:=e0.mod.nolimit.keeps fun b o e=>(e0.bs b o e).1
 have Nv:∀y∈ps.zip us,scope.names.lookup y.1=some .local∨(scope.names.lookup y.1=some .cell∧((cellsFrom (s.heap.objs.size+1) scope.names []).lookup y.1).isSome=true):=fun⟨n,v⟩ hy=>by
  rcases S.par n (List.of_mem_zip hy).1 with q|q
  ·exact .inl q
  ·exact .inr ⟨q,PySem.W.cellsFrom_some _ _ _ (.inl q)⟩
 refine codeAny_call_function hr.depth (KX _ _ lk) rfl S.co S.gen rfl (PySem.W.codeRec_of KX Cu) (hb _ _ _ _ ?_);refine wpAny_newFunctionEnv_cells S.kind Nv fun env he s1 x=>?_
 subst he;refine⟨lim.keeps x.toInCall.keep,codeAny_func ?_⟩;obtain⟨t,ht,hq⟩:=yC A outer s H vs Q E (hr.deeper _) Gk;have I:Inv (Af CX cm P w K mg base N qual scope f bR A outer s H E) [] (start N vs) H s1:=CC S hr.hd e0 hl r x;refine wpAny_mono (ht [] s1 (start N vs) H _ I hq) (fun fl s' hs=>?_) fun e s' hs=>hs
 have fin:∀{bx:St}{H':Hp}{v:V}{u:Value},Inv (Af CX cm P w K mg base N qual scope f bR A outer s H E) [] bx H' s'→RelV v u→Q v H'→CE outer P w H s Q u s':=
  fun{bx H' v u} J rv q=>⟨v,H',J.os,J.bare,J.base,J.bX,rv,q⟩
 cases fl with
 |ret u=>
  obtain⟨v,bx,H',J,rv,q⟩:=hs;exact fin J rv q
 |next=>
  obtain⟨bx,H',J,q⟩:=hs;exact fin (v:=V.cS) (u:=Value.none) J rfl q
 |brk=>
  obtain⟨_,_,_,q⟩:=hs;exact False.elim q
 |cont=>
  obtain⟨_,_,_,q⟩:=hs;exact False.elim q
section
variable{X:Cx}{x:Str}{p pos:Pos}{e:Expr}{es:List Expr}{t:TA}{id T:String}{r:List V→Hp→VK→Prop}
def Uz(r:List V→Hp→VK→Prop)(t:TA):TE:=fun σ H Q=>t σ H fun vs H1=>r vs H1 Q
theorem aO(hc:ir X (.builtin id) r)(hg:Gl X x)(hm:X.mg x=none)(hv:bootBuiltins x=some (.builtin id))(ha:PA X (e::es) t)(hn:x≠"__name__":=by decide)(wB:(x==("__debug__":Str))=false:=by decide)
  (he:starEach (e::es) X.env=(false,eval e X.env)::starEach es X.env:=by rfl) (rB:(backTo pos (starEach es X.env)).any (·.1)=false:=by rfl):PE X (.Call (.Name x p) (e::es) [] pos) (Uz r t):=by
 intro pins s σ H Q I h;refine wpAny_Call_Name_kw (kH I hg hm hv ?_ hn wB);exact PyProof.Rows.callWith_builtin1 (cH (ha pos pins s σ H _ I h) fun us s1 ⟨vs,H1,I1,r1,q1⟩=>hc pins s1 σ H1 vs us Q I1 r1 q1) he rB
theorem gX(hc:ir X (.type T) r)(hg:Gl X x)(hm:X.mg x=none)(hv:bootBuiltins x=some (.type T))(ha:PA X (e::es) t)(hn:x≠"__name__":=by decide)(wB:(x==("__debug__":Str))=false:=by decide)
  (he:starEach (e::es) X.env=(false,eval e X.env)::starEach es X.env:=by rfl) (rB:(backTo pos (starEach es X.env)).any (·.1)=false:=by rfl):PE X (.Call (.Name x p) (e::es) [] pos) (Uz r t):=by
 intro pins s σ H Q I h;refine wpAny_Call_Name_kw (kH I hg hm hv ?_ hn wB);exact PyProof.Rows.callWith_type1 (cH (ha pos pins s σ H _ I h) fun us s1 ⟨vs,H1,I1,r1,q1⟩=>hc pins s1 σ H1 vs us Q I1 r1 q1) he rB
end
section
variable{κ:Type}[DecidableEq κ]
def bE(kvs:List (κ×V))(k:κ):Option V:=(kvs.find? fun kv=>decide (kv.1=k)).map (·.2)
def putK(kvs:List (κ×V))(k:κ)(v:V):List (κ×V):=
 if (kvs.any fun kv=>decide (kv.1=k))=true then kvs.map (fun kv=>if kv.1=k then(kv.1,v)else kv)else kvs++[(k,v)]
def jh(kvs:List (κ×V))(k:κ):List (κ×V):=kvs.filter fun kv=>decide (kv.1≠k)
theorem sZ{k:κ}:bE ([]:List (κ×V)) k=none:=rfl
theorem cI{p:κ×V}{r:List (κ×V)}{k:κ}(e:p.1=k):bE (p::r) k=some p.2:=by simp[bE,List.find?_cons,e]
theorem cy{p:κ×V}{r:List (κ×V)}{k:κ}(e:¬p.1=k):bE (p::r) k=bE r k:=by simp[bE,List.find?_cons,e]
theorem iu(k:κ):∀kvs:List (κ×V),(kvs.any fun kv=>decide (kv.1=k))=(bE kvs k).isSome
 |[]=>rfl
 |p::r=>by
  rw[List.any_cons];by_cases e:p.1=k
  ·simp only[cI e,decide_eq_true e,Bool.true_or,Option.isSome_some]
  ·rw[cy e,decide_eq_false e,Bool.false_or];exact iu k r
theorem yD(k j:κ)(y:V):∀kvs:List (κ×V),bE (kvs.map fun kv=>if kv.1=k then(kv.1,y)else kv) j=(bE kvs j).map fun x=>if j=k then y else x
 |[]=>rfl
 |p::r=>by
  have ih:=yD k j y r;rw[List.map_cons];by_cases h:p.1=k
  ·rw[Z1 h];by_cases e:p.1=j
   ·rw[cI (p:=(p.1,y)) e,cI e,Option.map_some,Z1 (e.symm.trans h)]
   ·rw[cy (p:=(p.1,y)) e,cy e,ih]
  ·rw[ZY h];by_cases e:p.1=j
   ·rw[cI (p:=p) e,cI e,Option.map_some,ZY (fun z=>h (e.trans z))]
   ·rw[cy (p:=p) e,cy e,ih]
theorem vK(k j:κ)(y:V):∀kvs:List (κ×V),bE kvs k=none→bE (kvs++[(k,y)]) j=if j=k then some y else bE kvs j
 |[],_=>by
  by_cases e:k=j
  ·rw[Z1 e.symm];exact cI (p:=(k,y)) e
  ·rw[ZY (fun z=>e z.symm)];exact cy (p:=(k,y)) e
 |p::r,hn=>by
  rw[List.cons_append];have hk:¬p.1=k:=fun z=>by rw[cI z]at hn;cases hn
  rw[cy hk]at hn;have ih:=vK k j y r hn;by_cases e:p.1=j
  ·rw[cI e,cI e,ZY (fun z=>hk (e.trans z))]
  ·rw[cy e,cy e,ih]
theorem ji(kvs:List (κ×V))(k j:κ)(y:V):bE (putK kvs k y) j=if j=k then some y else bE kvs j:=by
 unfold putK;by_cases a:(kvs.any fun kv=>decide (kv.1=k))=true
 ·rw[Z1 a,yD];rw[iu]at a;by_cases e:j=k
  ·obtain⟨x,hx⟩:=Option.isSome_iff_exists.mp a;rw[Z1 e,e,hx,Option.map_some,if_pos rfl]
  ·rw[ZY e];cases bE kvs j with
   |none=>rfl
   |some x=>rw[Option.map_some,ZY e]
 ·rw[ZY a];refine vK k j y kvs ?_;rw[iu]at a;cases q:bE kvs k with
  |none=>rfl
  |some x=>rw[q]at a;exact(a rfl).elim
theorem e_(kvs:List (κ×V))(k:κ)(v:V):(putK kvs k v).length≤kvs.length+1:=by
 unfold putK;split
 ·rw[List.length_map];omega
 ·rw[List.length_append,List.length_cons,List.length_nil];omega
theorem s_{kvs:List (κ×V)}{k:κ}(v:V)(h:bE kvs k=none):putK kvs k v=kvs++[(k,v)]:=by
 unfold putK;rw[iu,h];exact if_neg (WD)
theorem kG.ka{o:Option V}{u:Option Value}(r:kG o u):o.isSome=u.isSome:=by
 cases o with
 |none=>cases u with
  |none=>rfl
  |some _=>exact(show False from r).elim
 |some _=>cases u with
  |none=>exact(show False from r).elim
  |some _=>rfl
theorem kG.getD{o:Option V}{u:Option Value}{d:V}{d':Value}(r:kG o u)(rd:RelV d d'):RelV (o.getD d) (u.getD d'):=by
 cases o with
 |none=>cases u with
  |none=>exact rd
  |some _=>exact(show False from r).elim
 |some _=>cases u with
  |none=>exact(show False from r).elim
  |some _=>exact r
theorem KV.val{kvs:List (κ×V)}{vs:List (κ×Value)}(r:KV kvs vs)(k:κ):kG (bE kvs k) (valueAt vs k):=by
 unfold KV at r
 induction r with
 |nil=>exact True.intro
 |@cons p q ps qs h t ih=>
  obtain⟨h1,h2⟩:=h;by_cases e:p.1=k
  ·have e':q.1=k:=h1.symm.trans e;have b:valueAt (q::qs) k=some q.2:=by simp[valueAt,List.find?_cons,e']
   rw[cI e,b];exact h2
  ·have e':¬q.1=k:=fun z=>e (h1.trans z)
   have b:valueAt (q::qs) k=valueAt qs k:=by simp[valueAt,List.find?_cons,e']
   rw[cy e,b];exact ih
theorem KV.any{kvs:List (κ×V)}{vs:List (κ×Value)}(r:KV kvs vs)(k:κ):(kvs.any fun kv=>decide (kv.1=k))=vs.any fun kv=>decide (kv.1=k):=by
 unfold KV at r
 induction r with
 |nil=>rfl
 |cons h t ih=>rw[List.any_cons,List.any_cons,ih,h.1]
theorem KV.Kf{kvs:List (κ×V)}{vs:List (κ×Value)}(r:KV kvs vs)(k:κ){y:V}{u:Value}(ry:RelV y u):
  KV (kvs.map fun kv=>if kv.1=k then(kv.1,y)else kv) (vs.map fun kv=>if kv.1=k then(kv.1,u)else kv):=by
 unfold KV at r⊢
 induction r with
 |nil=>exact .nil
 |@cons p q ps qs h t ih=>
  rw[List.map_cons,List.map_cons];refine .cons ?_ ih;obtain⟨h1,h2⟩:=h;by_cases e:p.1=k
  ·rw[Z1 e,Z1 (h1.symm.trans e)];exact⟨h1,ry⟩
  ·rw[ZY e,ZY (fun z=>e (h1.trans z))];exact⟨h1,h2⟩
theorem KV.put{kvs:List (κ×V)}{vs:List (κ×Value)}(r:KV kvs vs)(k:κ){y:V}{u:Value}(ry:RelV y u):KV (putK kvs k y) (stored vs k u):=by
 unfold putK stored;rw[r.any k];by_cases e:(vs.any fun kv=>decide (kv.1=k))=true
 ·rw[Z1 e,Z1 e];exact r.Kf k ry
 ·rw[ZY e,ZY e];exact Paired.snoc r ⟨rfl,ry⟩
theorem KV.length{kvs:List (κ×V)}{vs:List (κ×Value)}(r:KV kvs vs):kvs.length=vs.length:=Paired.length r
theorem yE(kvs:List (κ×V))(k:κ):(jh kvs k).length≤kvs.length:=List.length_filter_le _ _
end
theorem vL{P:Program}{w:World}{k:Key}{u:Value}(r:RelV (kV k) u):(c_ P w).is k u=true:=by
 cases k with
 |inl i=>obtain⟨t,e⟩:=(show ∃t,u=Value.int i t from r);subst e;exact yp P w i t
 |inr x=>obtain⟨t,e⟩:=(show ∃t,u=Value.str x t from r);subst e;exact yq P w x t
theorem vM{P:Program}{w:World}:∀{ks:List Key}{us:List Value},Vals (ks.map kV) us→ItemsAre (c_ P w) ks us
 |[],_,r=>by rw[List.map_nil]at r;cases r;exact .nil
 |k::ks,_,r=>by
  rw[List.map_cons]at r;cases r with
  |cons h t=>exact .cons (vL h) (vM t)
abbrev KT(H:Hp):List (List Key×V)→List (List Key×Addr×Value)→Prop:=Paired fun p q=>p.1=q.1∧H q.2.1=some (.tup (p.1.map kV))∧RelV p.2 q.2.2
theorem KT.val{H:Hp}{kvs:List (List Key×V)}{xs:List (List Key×Addr×Value)}(r:KT H kvs xs)(k:List Key):kG (bE kvs k) ((atKey xs k).map (·.2)):=by
 induction r with
 |nil=>exact True.intro
 |@cons p q ps qs h t ih=>
  obtain⟨h1,_,h2⟩:=h;by_cases e:p.1=k
  ·have e':q.1=k:=h1.symm.trans e;have b:atKey (q::qs) k=some q.2:=by simp[atKey,List.find?_cons,e']
   rw[cI e,b];exact h2
  ·have e':¬q.1=k:=fun z=>e (h1.trans z)
   have b:atKey (q::qs) k=atKey qs k:=by simp[atKey,List.find?_cons,e']
   rw[cy e,b];exact ih
theorem KT.Kf{H:Hp}{kvs:List (List Key×V)}{xs:List (List Key×Addr×Value)}(r:KT H kvs xs)(k:List Key){y:V}{u:Value}(ry:RelV y u):
  KT H (kvs.map fun kv=>if kv.1=k then(kv.1,y)else kv) (xs.map (putAt k u)):=by
 induction r with
 |nil=>exact .nil
 |@cons p q ps qs h t ih=>
  rw[List.map_cons,List.map_cons];refine .cons ?_ ih;obtain⟨h1,h2,h3⟩:=h;unfold putAt;by_cases e:p.1=k
  ·rw[Z1 e,Z1 (h1.symm.trans e)];exact⟨h1,h2,ry⟩
  ·rw[ZY e,ZY (fun z=>e (h1.trans z))];exact⟨h1,h2,h3⟩
theorem KT.put{H:Hp}{kvs:List (List Key×V)}{xs:List (List Key×Addr×Value)}(r:KT H kvs xs)(k:List Key){b:Addr}{y:V}{u:Value}(hb:H b=some (.tup (k.map kV)))(ry:RelV y u):
  KT H (putK kvs k y) (storedH xs k b u):=by
 have e:(kvs.any fun kv=>decide (kv.1=k))=(atKey xs k).isSome:=by
  rw[iu,(r.val k).ka,Option.isSome_map]
 unfold putK storedH;rw[e];by_cases q:(atKey xs k).isSome=true
 ·rw[Z1 q,Z1 q];exact r.Kf k ry
 ·rw[ZY q,ZY q];exact Paired.snoc r ⟨rfl,hb,ry⟩
theorem KT.keeps{H H':Hp}{kvs:List (List Key×V)}{xs:List (List Key×Addr×Value)}(r:KT H kvs xs)(ht:∀b ys,H b=some (.tup ys)→H' b=some (.tup ys)):KT H' kvs xs:=
 Paired.JW r fun _ _ z=>⟨z.1,ht _ _ z.2.1,z.2.2⟩
section
variable{P:Program}{w:World}{H:Hp}{h:Heap}{a:Addr}
theorem IS{u:HO}(ok:lJ P w H h)(e:Rd H a u):cT P w H h a u:=e.ok ok
theorem tm{kvs:List (Key×V)}(ok:lJ P w H h)(e:Rd H a (.dK kvs)):kvs.length≤sizeLine∧(a==sysModules)=false∧∃vs,KV kvs vs∧h.DictOf (c_ P w) a vs:=
 show cT P w H h a (.dK kvs)from IS ok e
theorem Nw{kvs:List (Key×V)}(ok:lJ P w H h)(e:H a=some (.dK kvs)):kvs.length≤sizeLine∧(a==sysModules)=false∧∃vs,KV kvs vs∧h.DictOf (c_ P w) a vs:=tm ok (.inl e)
theorem nE{ks:List Key}(ok:lJ P w H h)(e:H a=some (.tup (ks.map kV))):(tupleKind (c_ P w)).is h ks a:=by
 obtain⟨_,its,r,o,h1,h2,n,h3⟩:=(show cT P w H h a (.tup (ks.map kV))from ok a _ e)
 exact⟨o,its.toArray,n,h1,h2,h3,by simpa using vM r⟩
theorem tq{kvs:List (List Key×V)}(ok:lJ P w H h)(e:Rd H a (.dT kvs)):kvs.length≤sizeLine∧(a==sysModules)=false∧
  ∃xs,KT H kvs xs∧h.DictOfH (tupleKind (c_ P w)) a xs:=by
 obtain⟨z,y,xs,r,o,es,ep,h1,h2,h3,h4,h5⟩:=(show cT P w H h a (.dT kvs)from IS ok e)
 refine⟨z,y,xs,r,o,es,ep,h1,h2,h3,h4,fun x hx=>?_,h5⟩;have all:∀{l:List (List Key×V)}{m:List (List Key×Addr×Value)},KT H l m→∀x∈m,(tupleKind (c_ P w)).is h x.1 x.2.1:=by
  intro l m q
  induction q with
  |nil=>intro x hx;exact nomatch hx
  |@cons p q ps qs hq t ih=>
   intro x hx;rcases List.mem_cons.mp hx with e|hx
   ·subst e;exact nE ok (by rw[←hq.1];exact hq.2.1)
   ·exact ih x hx
 exact all r x hx
theorem IU{kvs:List (List Key×V)}(ok:lJ P w H h)(e:H a=some (.dT kvs)):kvs.length≤sizeLine∧(a==sysModules)=false∧
  ∃xs,KT H kvs xs∧h.DictOfH (tupleKind (c_ P w)) a xs:=tq ok (.inl e)
end
def kb(H:Hp)(a:Addr)(y:V)(r:Option V):Prop:=
 (∃kvs k,Rd H a (.dK kvs)∧y=kV k∧r=bE kvs k)∨∃kvs k b,Rd H a (.dT kvs)∧y= .ref b∧H b=some (.tup (k.map kV))∧r=bE kvs k
def GO(H:Hp)(a:Addr)(y v:V)(H':Hp):Prop:=
 (∃kvs k,H a=some (.dK kvs)∧y=kV k∧kvs.length<sizeLine∧H'=upd H a (.dK (putK kvs k v)))∨
 ∃kvs k b,H a=some (.dT kvs)∧y= .ref b∧H b=some (.tup (k.map kV))∧kvs.length<sizeLine∧H'=upd H a (.dT (putK kvs k v))
theorem kb.t{H:Hp}{a b:Addr}{kvs:List (List Key×V)}{k:List Key}(e:H a=some (.dT kvs))(eb:H b=some (.tup (k.map kV))):kb H a (.ref b) (bE kvs k):= .inr ⟨kvs,k,b, .inl e,rfl,eb,rfl⟩
theorem GO.t{H:Hp}{a b:Addr}{kvs:List (List Key×V)}{k:List Key}{v:V}(e:H a=some (.dT kvs))(eb:H b=some (.tup (k.map kV)))(hl:kvs.length<sizeLine):
  GO H a (.ref b) v (upd H a (.dT (putK kvs k v))):= .inr ⟨kvs,k,b,e,rfl,eb,hl,rfl⟩
section
variable{X:Cx}{pins:List (Addr×Obj)}{σ:St}{H:Hp}{s:Shared}{a:Addr}{y v:V}{u r:Value}{o:Option V}{A:Around}{E:Value→Shared→Prop}
theorem Inv.big(I:Inv X pins σ H s):sysModules<s.heap.objs.size:=by
 have h:mainGlobals<s.heap.objs.size:=(I.mod.glob.keeps I.bk).lt;exact Nat.lt_trans (WD) h
theorem CD{Q:Value→Shared→Prop}(hu:A.units+1<cLine)(I:Inv X pins σ H s)(g:kb H a y (some v))(ry:RelV y u)(h:∀w' s',Inv X pins σ H s'→RelV v w'→Q w' s'):
  wpAny (model X.prog X.w) A (getItem (.ref a) u) Q E s:=by
 rcases g with⟨kvs,k,e,ey,l⟩|⟨kvs,k,b,e,ey,eb,l⟩
 ·subst ey;obtain⟨z,hd,vs,rel,dd⟩:=tm I.bX e;obtain⟨w',hw,f9⟩:=kG.some_of (v:=v) (o:=valueAt vs k) (by rw[l];exact rel.val k);exact wpAny_getItem_of (vL ry) dd.mapOf hw (h w' _ (I.tok _) f9)
 ·subst ey;cases(show u=Value.ref b from ry);obtain⟨z,hd,xs,rel,dd⟩:=tq I.bX e;obtain⟨w',hw,f9⟩:=kG.some_of (v:=v) (o:=(atKey xs k).map (·.2)) (by rw[l];exact rel.val k);obtain⟨p,hp,CH⟩:=Option.map_eq_some_iff.mp hw;refine wpAny_getItem_heap (tupleKind_room_in1 hu) (nE I.bX eb) dd hp ?_;rw[CH];exact h w' _ (I.tok _) f9
theorem Rt{Q:Value→Shared→Prop}(hu:A.units+1<cLine)(I:Inv X pins σ H s)(g:kb H a y o)(ry:RelV y u)(h:∀s',Inv X pins σ H s'→Q (.bool o.isSome) s'):
  wpAny (model X.prog X.w) A (compareOp .In u (.ref a)) Q E s:=by
 rcases g with⟨kvs,k,e,ey,l⟩|⟨kvs,k,b,e,ey,eb,l⟩
 ·subst ey;obtain⟨z,hd,vs,rel,dd⟩:=tm I.bX e;refine wpAny_in_of (vL ry) hd dd.mapOf ?_;rw[←(rel.val k).ka,←l];exact h _ (I.tok _)
 ·subst ey;cases(show u=Value.ref b from ry);obtain⟨z,hd,xs,rel,dd⟩:=tq I.bX e;refine wpAny_in_heap (tupleKind_room_in1 hu) (nE I.bX eb) hd dd ?_;have q:=(rel.val k).ka;rw[Option.isSome_map]at q;rw[←q,←l];exact h _ (I.tok _)
theorem GP{Q:Value→Shared→Prop}(hu:A.units+1<cLine)(I:Inv X pins σ H s)(g:kb H a y o)(ry:RelV y u)(h:∀s',Inv X pins σ H s'→Q (.bool (!o.isSome)) s'):
  wpAny (model X.prog X.w) A (compareOp .NotIn u (.ref a)) Q E s:=by
 rcases g with⟨kvs,k,e,ey,l⟩|⟨kvs,k,b,e,ey,eb,l⟩
 ·subst ey;obtain⟨z,hd,vs,rel,dd⟩:=tm I.bX e;refine wpAny_notIn_of (vL ry) hd dd.mapOf ?_;rw[←(rel.val k).ka,←l];exact h _ (I.tok _)
 ·subst ey;cases(show u=Value.ref b from ry);obtain⟨z,hd,xs,rel,dd⟩:=tq I.bX e;refine wpAny_notIn_heap (tupleKind_room_in1 hu) (nE I.bX eb) hd dd ?_;have q:=(rel.val k).ka;rw[Option.isSome_map]at q;rw[←q,←l];exact h _ (I.tok _)
theorem wD{h':Heap}{t':Nat}{ob:HO}(I:Inv X pins σ H s)(mu:MZ (H a))(hs:Heap.SameBut a s.heap h')(he:∃q,h'.get? a=some q)(new:cT X.prog X.w (upd H a ob) h' a ob):
  Inv X pins σ (upd H a ob) {s with heap:=h',toks:=t'}:=
 I.write (x:=a) (e:=a) mu (.inl rfl) (fun b q hb z=>(hs.2 b hb).trans z) he new
theorem Kg{P:Program}{w:World}{H':Hp}{h':Heap}{kvs:List (Key×V)}{vs:List (Key×Value)}(z:kvs.length≤sizeLine)(hd:(a==sysModules)=false)(rel:KV kvs vs)(dd:h'.DictOf (c_ P w) a vs):
  cT P w H' h' a (.dK kvs):=⟨z,hd,vs,rel,dd⟩
theorem CI{H':Hp}{Q:Unit→Shared→Prop}(hu:A.units+1<cLine)(I:Inv X pins σ H s)(g:GO H a y v H')(ry:RelV y u)(rv:RelV v r)(h:∀s',Inv X pins σ H' s'→Q () s'):
  wpAny (model X.prog X.w) A (setItem (.ref a) u r) Q E s:=by
 rcases g with⟨kvs,k,e,ey,l,eH⟩|⟨kvs,k,b,e,ey,eb,l,eH⟩
 ·subst ey eH;obtain⟨z,hd,vs,rel,dd⟩:=Nw I.bX e;have hz:vs.length≤sizeLine:=by rw[←rel.length];exact z
  have hl:(putK kvs k v).length≤sizeLine:=by have:=e_ kvs k v;omega
  refine wpAny_setItem_pairs (hsz:=hz) (vL ry) dd fun h' IV hs=>h _ ?_
  have he:∃q,h'.get? a=some q:=let ⟨q,_,_,hq,_⟩:=IV;⟨q,hq⟩
  exact wD I (by rw[e];exact True.intro) hs he (Kg hl hd (rel.put k rv) IV)
 ·subst ey eH;cases(show u=Value.ref b from ry);obtain⟨z,hd,xs,rel,dd⟩:=IU I.bX e;have hz:xs.length≤sizeLine:=by rw[←Paired.length rel];exact z
  have hl:(putK kvs k v).length≤sizeLine:=by have:=e_ kvs k v;omega
  refine wpAny_setItem_heap (hsz:=hz) (tupleKind_room_in1 hu) (nE I.bX eb) dd fun h' IV hs=>h _ ?_
  obtain⟨q,es,ep,hq,h2,h3,h4,_,h5⟩:=IV;refine wD I (by rw[e];exact True.intro) hs ⟨q,hq⟩ ⟨hl,hd,_,(rel.put k eb rv).keeps fun c ys ec=>?_,q,es,ep,hq,h2,h3,h4,h5⟩;rw[ao (jf ec e (fun z=>nomatch z))];exact ec
end
section
variable{X:Cx}{pins:List (Addr×Obj)}{σ:St}{H:Hp}{s:Shared}{a:Addr}{kvs:List (Key×V)}{k:Key}{u:Value}{A:Around}{E:Value→Shared→Prop}
end
def Nx(i:Expr):Prop:=∀ov iv,subscripted i false ov iv=operate [ov,iv] (getItem ov iv)
theorem GQ{prog:Program}{w:World}{A:Around}{E:Value→Shared→Prop}{s:Shared}{env:Env}{value slice:Expr}{pos:Pos}{T id:String}{Q:Value→Shared→Prop}
  (hl:typeLookup (.type T) "__getitem__"=pure (some (.builtin id))) (hs:Nx slice)
  (h:wpAny (model prog w) A (eval value env) (fun o cf=>wpAny (model prog w) A (eval slice env) (fun i qh=>qh.TypeIs o T∧wpAny (model prog w) A (getItem o i) Q E qh) E cf) E s):
  wpAny (model prog w) A (eval (.Subscript value slice pos) env) Q E s:=by
 refine Subscript_ (wpAny_mono h (fun o cf CJ=>wpAny_mono CJ (fun i qh Ei=>?_) fun _ _ x=>x) fun _ _ x=>x);obtain⟨hT,Ei⟩:=Ei;unfold subscriptTail;refine wpAny_bind ?_;rw[getitemInPython_of_ne hT.not_modules];refine wpAny_bind (wpAny_specialOf hT hl ?_);have fin:wpAny (model prog w) A (subscripted slice false o i) (fun r CK=>wpAny (model prog w) A (letTemporaryGo value o r>>=fun _=>pure r) Q E CK) E qh:=by
  rw[hs o i];exact wpAny_operating (wpAny_mono Ei (fun r CK GR=>Zk (wpAny_letTemporaryGo (YZ GR))) fun _ _ x=>x)
 first
  |exact YZ (Zk fin)
  |exact Zk (YZ (Zk fin))
  |exact Zk fin
theorem yF{X:Cx}{pins:List (Addr×Obj)}{σ:St}{H:Hp}{s:Shared}{a:Addr}{y:V}{o:Option V}(I:Inv X pins σ H s)(g:kb H a y o):s.TypeIs (.ref a) "dict":=by
 rcases g with⟨kvs,k,e,_,_⟩|⟨kvs,k,b,e,_,_,_⟩
 ·obtain⟨_,_,vs,_,dd⟩:=tm I.bX e;exact dd.typeIs
 ·obtain⟨_,_,xs,_,dd⟩:=tq I.bX e;exact dd.typeIs
def Ny(td ty:TE):TE:=fun σ H Q=>td σ H fun x H1=>ty σ H1 fun y H2=>∃a v,x= .ref a∧kb H2 a y (some v)∧Q v H2
def Ru(ty td:TE):TE:=fun σ H Q=>ty σ H fun y H1=>td σ H1 fun x H2=>∃a o,x= .ref a∧kb H2 a y o∧Q (.bl o.isSome) H2
def GU(ty td:TE):TE:=fun σ H Q=>ty σ H fun y H1=>td σ H1 fun x H2=>∃a o,x= .ref a∧kb H2 a y o∧Q (.bl (!o.isSome)) H2
def Nz(td ty tv:TE):TS:=fun D σ H=>tv σ H fun v H1=>td σ H1 fun x H2=>ty σ H2 fun y H3=>∃a H4,x= .ref a∧GO H3 a y v H4∧D.nx σ H4
section
variable{X:Cx}{o i e value:Expr}{pos pos' Rp:Pos}{td ty tv:TE}
theorem iP(hu:X.A.units+1<cLine)(ho:PE X o td)(hi:PE X i ty)(hs:Nx i):PE X (.Subscript o i pos) (Ny td ty):=by
 intro pins s σ H Q I h;refine GQ PySem.F.slot_dict_getitem.lookup hs (cH (ho pins s σ H _ I h) fun u s1 ⟨x,H1,I1,rx,q1⟩=>cH (hi pins s1 σ H1 _ I1 q1) fun iv s2 ⟨y,H2,I2,ry,a,v,ex,g,q2⟩=>?_);subst ex;obtain rfl:u=Value.ref a:=rx;exact⟨yF I2 g,CD hu I2 g ry fun w' s3 I3 f9=>⟨v,H2,I3,f9,q2⟩⟩
theorem qp(hu:X.A.units+1<cLine)(hi:PE X i ty)(ho:PE X o td):PC X .In i o (Ru ty td):=by
 intro pins s σ H Q I h;refine cH (hi pins s σ H _ I h) fun iv s1 ⟨y,H1,I1,ry,q1⟩=>cH (ho pins s1 σ H1 _ I1 q1) fun u s2 ⟨x,H2,I2,rx,a,ov,ex,g,q2⟩=>?_
 subst ex;obtain rfl:u=Value.ref a:=rx;exact Rt hu I2 g ry fun s3 I3=>⟨.bl ov.isSome,H2,I3,rfl,q2⟩
theorem vN(hu:X.A.units+1<cLine)(hi:PE X i ty)(ho:PE X o td):PC X .NotIn i o (GU ty td):=by
 intro pins s σ H Q I h;refine cH (hi pins s σ H _ I h) fun iv s1 ⟨y,H1,I1,ry,q1⟩=>cH (ho pins s1 σ H1 _ I1 q1) fun u s2 ⟨x,H2,I2,rx,a,ov,ex,g,q2⟩=>?_
 subst ex;obtain rfl:u=Value.ref a:=rx;exact GP hu I2 g ry fun s3 I3=>⟨.bl (!ov.isSome),H2,I3,rfl,q2⟩
theorem kJ(hu:X.A.units+1<cLine)(ho:PE X o td)(hi:PE X i ty)(hv:PE X value tv)(hs:swapsWith value (some (.Subscript o i pos')) pos.line X.env=pure false):
  PS X (.Assign [.Subscript o i pos'] value pos) (Nz td ty tv):=by
 intro pins s σ H D I h;refine wpAny_Assign_Subscript (cH (hv pins s σ H _ I h) fun r s1 ⟨v,H1,I1,rv,q1⟩=>cH (ho pins s1 σ H1 _ I1 q1) fun u s2 ⟨x,H2,I2,rx,q2⟩=>cH (hi pins s2 σ H2 _ I2 q2) fun iv s3 ⟨y,H3,I3,ry,a,H4,ex,g,q3⟩=>?_) hs;subst ex;obtain rfl:u=Value.ref a:=rx;exact CI hu I3 g ry rv fun s4 I4=>⟨σ,H4,I4,q3⟩
end
theorem Ej{P:Program}{w:World}{H:Hp}(h:Heap)(hb:sysModules<h.objs.size):cT P w H (h.push {cls:= .type "dict",data:= .dict #[]}) h.objs.size (.dT []):=
 ⟨Nat.zero_le _,beq_eq_false_iff_ne.mpr (Zd (Κ hb)),[], .nil,_,#[],0,Heap.get?_push_size _ rfl,⟨rfl,rfl,rfl⟩,rfl,rfl,List.nodup_nil⟩
def Kh:TE:=fun _ H Q=>∀p,H p=none→Q (.ref p) (upd H p (.dT []))
section
variable{X:Cx}{pos:Pos}
theorem kc:PE X (.Dict [] [] pos) Kh:=fun pins s σ H Q I h=>
 wpAny_Dict_empty ⟨.ref s.heap.objs.size,_,I.laid (a:=s.heap.objs.size) (o:= .dT []) (t':=s.toks) (fun _ _ q=>ZZ q) (Nat.le_refl _) (Ej s.heap I.big),rfl,h _ (I.bX.fresh Β)⟩
end
structure M1(X:Cx)(o:Expr)(m:Str)(apos:Pos)(e:Expr)(eK:Pos):Prop where
 base:attributeBase o m X.env (eval o X.env)=eval o X.env
 zJ:((backTo eK (starEach [e] X.env)).all (fun x=>!x.1)&&(backToKw eK (keywordEach [] X.env)).all (fun x=>x.1.isSome)
  &&decide (([e]:List Expr).length+([]:List Keyword).length+(if ([]:List Keyword).isEmpty then 0 else 1)<30))=true
 line:(apos.endLine==eK.line)=true
 trees:backTo eK (starEach [e] X.env)=[(false,eval e X.env)]
def Rv(H:Hp)(a:Addr):Prop:=(∃kvs,Rd H a (.dK kvs))∨∃kvs,Rd H a (.dT kvs)
theorem Ek{X:Cx}{pins:List (Addr×Obj)}{σ:St}{H:Hp}{s:Shared}{a:Addr}(I:Inv X pins σ H s)(d:Rv H a):
  s.TypeIs (.ref a) "dict"∧(∀b,Value.ref a= .ref b→∃ob,s.heap.get? b=some ob∧ob.dict=none)∧(a==sysModules)=false:=by
 rcases d with⟨kvs,e⟩|⟨kvs,e⟩
 ·obtain⟨_,hd,vs,_,dd⟩:=tm I.bX e;refine⟨dd.typeIs,fun b q=>?_,hd⟩;cases q;obtain⟨ob,_,_,h1,h2,_⟩:=dd;exact⟨ob,h1,h2.2.1⟩
 ·obtain⟨_,hd,xs,_,dd⟩:=tq I.bX e;refine⟨dd.typeIs,fun b q=>?_,hd⟩;cases q;obtain⟨ob,_,_,h1,h2,_⟩:=dd;exact⟨ob,h1,h2.2.1⟩
section
variable{X:Cx}{pins:List (Addr×Obj)}{σ:St}{H:Hp}{s:Shared}{a:Addr}{y d:V}{u r:Value}{o:Option V}{A:Around}{E:Value→Shared→Prop}
theorem Ki{Q:Value→Shared→Prop}(hu:A.units+1<cLine)(I:Inv X pins σ H s)(g:kb H a y o)(ry:RelV y u)(h:∀w' s',Inv X pins σ H s'→RelV (o.getD .cS) w'→Q w' s'):
  wpAny (model X.prog X.w) A (call (.builtin "dict.get") [.ref a,u]) Q E s:=by
 rcases g with⟨kvs,k,e,ey,l⟩|⟨kvs,k,b,e,ey,eb,l⟩
 ·subst ey;obtain⟨z,hd,vs,rel,dd⟩:=tm I.bX e;refine call_meetsIn PySem.F.slot_dict_get dd.typeIs PySem.F.entry_dict_get (PySem.F.args_dict_get_2 _ _) (meets_dict_get (c_ X.prog X.w) a (vL ry) hd) ⟨_,dd.mapOf,h _ _ (I.tok _) ?_⟩;rw[l];exact(rel.val k).getD rfl
 ·subst ey;cases(show u=Value.ref b from ry);obtain⟨z,hd,xs,rel,dd⟩:=tq I.bX e;refine call_meetsIn PySem.F.slot_dict_get dd.typeIs PySem.F.entry_dict_get (PySem.F.args_dict_get_2 _ _) (meetsH_dict_get (tupleKind (c_ X.prog X.w)) a b hd) ⟨tupleKind_room_in1 hu,k,xs,nE I.bX eb,dd,h _ _ (I.tok _) ?_⟩;rw[l];exact(rel.val k).getD rfl
end
def Kj(td ty:TE):TE:=fun σ H Q=>td σ H fun x H1=>∃a,x= .ref a∧Rv H1 a∧ty σ H1 fun y H2=>∃o,kb H2 a y o∧Q (o.getD .cS) H2
section
variable{X:Cx}{o e f:Expr}{apos eK:Pos}{td ty tx:TE}
theorem El(hu:X.A.units+1<cLine)(ho:PE X o td)(he:PE X e ty)(m:M1 X o "get" apos e eK):PE X (.Call (.Attribute o "get" apos) [e] [] eK) (Kj td ty):=by
 intro pins s σ H Q I h;refine wpAny_Call_method m.base m.zJ m.line PySem.F.plainAttrs_dict PySem.F.slot_dict_get PySem.F.type_dict_get (cH (ho pins s σ H _ I h) fun u s1 ⟨x,H1,I1,rx,a,ex,d,q1⟩=>?_);subst ex;obtain rfl:u=Value.ref a:=rx;obtain⟨t1,t2,_⟩:=Ek I1 d;refine⟨t1,t2,?_⟩;rw[m.trees];refine Calls.callWith_builtin rfl (Calls.evalArgs_plain (Calls.spliced_cons (cH (he pins s1 σ H1 _ I1 q1) fun iv s2 ⟨y,H2,I2,ry,ov,g,q2⟩=>Calls.spliced_nil ?_)));exact Ki hu I2 g ry fun w' s3 I3 f9=>⟨_,H2,I3,f9,q2⟩
end
section
variable{X:Cx}{pins:List (Addr×Obj)}{σ:St}{H:Hp}{s:Shared}{a:Addr}{kvs:List (Key×V)}{A:Around}{E:Value→Shared→Prop}
end
section
variable{X:Cx}{pins:List (Addr×Obj)}{σ:St}{H:Hp}{s:Shared}{a:Addr}{y:V}{u:Value}{A:Around}{E:Value→Shared→Prop}
end
end L2
namespace HT
open PySem PyProof.Rows
section
open PySem.SeqAt
open PySem.AutoSeq1 (wpAny_loadPart')
open PySem.MeetsSeq PySem.MeetsSeq2 PySem.MeetsSeq3
end
section
variable{prog:Program}{w:World}{A:Around}{E:Value→Shared→Prop}{s:Shared}
def jX(n d:Nat):Option Int→Nat
 |none=>d
 |some v=>if v<0 then(v+(n:Int)).toNat else min v.toNat n
theorem Em(n d:Nat):jX n d none=d:=rfl
theorem En(n d:Nat)(hd:d≤n)(o:Option Int):jX n d o≤n:=by
 cases o with
 |none=>exact hd
 |some v=>
  show(if v<0 then(v+(n:Int)).toNat else min v.toNat n)≤n;by_cases hv:v<0
  ·rw[Z1 hv];omega
  ·rw[ZY hv];exact Nat.min_le_right _ _
end
end HT
namespace L2
open PySem PySem.Spec PyProof.Rows
abbrev TO:=St→Hp→(Option Int→Hp→Prop)→Prop
def PO(X:Cx)(e:Option Expr)(t:TO):Prop:=
 ∀(pins:List (Addr×Obj))(s:Shared)(σ:St)(H:Hp)(Q:Option Int→Hp→Prop),Inv X pins σ H s→t σ H Q→
  wpAny (model X.prog X.w) X.A (evalPart e X.env) (fun u s'=>∃o H',Inv X pins σ H' s'∧IsPart u o∧Q o H') X.xe s
def GV:TO:=fun _ H Q=>Q none H
def NA(t:TE):TO:=fun σ H Q=>t σ H fun x H1=>∃i,x= .int i∧Q (some i) H1
section
variable{X:Cx}{e:Expr}{te:TE}{lo hi:Option Expr}{tl th:TO}{pos p2:Pos}
theorem kK:PO X none GV:=by
 intro pins s σ H Q I h;rw[evalPart_none];exact YZ ⟨none,H,I, .none,h⟩
theorem gh(h:PE X e te):PO X (some e) (NA te):=by
 intro pins s σ H Q I hw;rw[evalPart_some];refine cH (h pins s σ H _ I hw) fun u s1 ⟨x,H1,I1,r1,q1⟩=>?_
 obtain⟨i,rfl,q⟩:=q1;obtain⟨t,rfl⟩:=r1;exact⟨some i,H1,I1, .int i t,q⟩
def PF(X:Cx)(r:V→Option Int→Option Int→Hp→VK→Prop):Prop:=
 ∀(pins:List (Addr×Obj))(s:Shared)(σ:St)(H:Hp)(x:V)(v vl vu:Value)(lo hi:Option Int)(sl:Addr)(Q:VK),Inv X pins σ H s→RelV x v→s.heap.IsSliceOf sl vl vu .none→IsPart vl lo→IsPart vu hi→r x lo hi H Q→
  ∃T id,typeLookup (.type T) "__getitem__"=pure (some (.builtin id))∧s.TypeIs v T∧wpAny (model X.prog X.w) X.A (getItem v (.ref sl)) (EP X pins σ Q) X.xe s
def WC(r:V→Option Int→Option Int→Hp→VK→Prop)(te:TE)(tl th:TO):TE:=fun σ H Q=>te σ H fun x H1=>tl σ H1 fun l H2=>th σ H2 fun u H3=>r x l u H3 Q
theorem gi{r:V→Option Int→Option Int→Hp→VK→Prop}(hr:PF X r)(he:PE X e te)(hl:PO X lo tl)(hu:PO X hi th):PE X (.Subscript e (.Slice lo hi none p2) pos) (WC r te tl th):=by
 intro pins s σ H Q I h;refine Subscript_ (cH (he pins s σ H _ I h) fun v s1 ⟨x,H1,I1,r1,q1⟩=>?_);refine wpAny_Slice (cH (hl pins s1 σ H1 _ I1 q1) fun vl s2 ⟨l,H2,I2,pl,q2⟩=>cH (hu pins s2 σ H2 _ I2 q2) fun vu s3 ⟨u,H3,I3,pu,q3⟩=>?_);rw[evalPart_none];refine wpAny_pure ?_;have I4:Inv X pins σ H3 {s3 with heap:=s3.heap.push {cls:= .type "slice",data:= .fields #[vl,vu, .none]}}:=I3.kept (t':=s3.toks) fun b ob q=>ZZ q
 obtain⟨T,id,hT,ht,hg⟩:=hr pins {s3 with heap:=s3.heap.push {cls:= .type "slice",data:= .fields #[vl,vu, .none]}} σ H3 x v vl vu l u s3.heap.objs.size Q I4 r1 (Heap.IsSliceOf.new ..) pl pu q3;show wpAny (model X.prog X.w) X.A (subscriptTail e (.Slice lo hi none p2) v (.ref s3.heap.objs.size)) (EP X pins σ Q) X.xe {s3 with heap:=s3.heap.push {cls:= .type "slice",data:= .fields #[vl,vu, .none]}};exact tail_any (ops:=[.ref s3.heap.objs.size,v]) ht hT hg (by with_unfolding_all rfl)
def qr(xs:List V)(lo hi:Option Int):List V:=(xs.drop (HT.jX xs.length 0 lo)).take (HT.jX xs.length xs.length hi-HT.jX xs.length 0 lo)
theorem yG(xs:List V)(lo hi:Option Int):(qr xs lo hi).length≤xs.length:=by
 unfold qr;rw[List.length_take,List.length_drop];omega
end
def Eo(n:Nat)(i:Int):Option Nat:=if 0≤i then(if i<n then some i.toNat else none)else if-(n:Int)≤i then some (i+n).toNat else none
def rV{α:Type}(xs:List α)(i:Int):Option α:=(Eo xs.length i).bind fun j=>xs[j]?
theorem Bz{n:Nat}{i:Int}{j:Nat}(h:Eo n i=some j):seqIndex? i n=some j∧j<n∧-(n:Int)≤i∧i<n:=by
 unfold Eo at h;by_cases h0:0≤i
 ·rw[Z1 h0]at h;by_cases h1:i<n
  ·rw[Z1 h1]at h;have e:i.toNat=j:=Zu h;exact⟨by rw[seqIndex_of h0 h1,e],Γ,Γ,h1⟩
  ·rw[ZY h1]at h;cases h
 ·rw[ZY h0]at h;by_cases h1:-(n:Int)≤i
  ·rw[Z1 h1]at h;have e:(i+n).toNat=j:=Zu h;exact⟨by rw[seqIndex_neg (Γ) h1,e],Γ,h1,Γ⟩
  ·rw[ZY h1]at h;cases h
theorem wF{α:Type}{xs:List α}{i:Int}{v:α}(h:rV xs i=some v):∃j,seqIndex? i xs.length=some j∧xs[j]?=some v∧j<xs.length∧-(xs.length:Int)≤i∧i<xs.length:=by
 unfold rV at h;cases e:Eo xs.length i with
 |none=>rw[e]at h;cases h
 |some j=>
  rw[e]at h;obtain⟨h1,h2,h3,h4⟩:=Bz e;exact⟨j,h1,h,h2,h3,h4⟩
theorem ar{α:Type}{xs:List α}{j:Nat}{v:α}(h:xs[j]?=some v):rV xs (j:Int)=some v:=by
 have hj:j<xs.length:=(ZF h).1;have e:Eo xs.length (j:Int)=some j:=by
  unfold Eo;rw[if_pos (Γ),if_pos (Γ)];simp
 unfold rV;rw[e];exact h
theorem tw{α:Type}(xs:List α)(v:α):rV (xs++[v]) (-1)=some v:=by
 have hl:(xs++[v]).length=xs.length+1:=XU;have e:Eo (xs++[v]).length (-1)=some xs.length:=by
  unfold Eo;rw[hl,if_neg (WD),if_pos (Γ)]
  congr 1
  omega
 unfold rV;rw[e];show(xs++[v])[xs.length]?=some v;simp
def GW(b:Expr):Prop:=∀o i,subscripted b false o i=operate [o,i] (getItem o i)
def Mf(X:Cx)(r:R2):Prop:=
 ∀(value slice:Expr)(pins:List (Addr×Obj))(s:Shared)(σ:St)(H:Hp)(x y:V)(v u:Value)(Q:VK),Inv X pins σ H s→RelV x v→RelV y u→r x y H Q→
  subscripted slice false v u=operate [v,u] (getItem v u)→wpAny (model X.prog X.w) X.A (subscriptTail value slice v u) (EP X pins σ Q) X.xe s
def PH(X:Cx)(id:String)(r:V→List V→Hp→VK→Prop):Prop:=
 ∀(pins:List (Addr×Obj))(s:Shared)(σ:St)(H:Hp)(x:V)(xs:List V)(v:Value)(us:List Value)(Q:VK),Inv X pins σ H s→RelV x v→Vals xs us→r x xs H Q→
  wpAny (model X.prog X.w) X.A (call (.builtin id) (v::us)) (EP X pins σ Q) X.xe s
section
variable{X:Cx}{a b:Expr}{ta tb:TE}{pos:Pos}
theorem aA{r:R2}(hr:Mf X r)(ha:PE X a ta)(hb:PE X b tb)(hs:GW b):PE X (.Subscript a b pos) (PB r ta tb):=by
 intro pins s σ H Q I h;exact Subscript_ (J_ ha hb I h fun v u s2 x y H2 I2 rx ry q=>hr a b pins s2 σ H2 x y v u Q I2 rx ry q (hs _ _))
inductive Kk(K:PySem.W.Frag)(x:V)(y:V)(H:Hp)(Q:VK):Prop
 |mk (p:_) (xs:_) (i:_) (v:_) (_:x= .ref p) (_:y= .int i) (_:iK K H p xs) (_:rV xs i=some v) (_:Q v H):Kk K x y H Q
inductive Kl(K:PySem.W.Frag)(x:V)(y:V)(H:Hp)(Q:VK):Prop
 |mk (p:_) (xs:_) (i:_) (v:_) (_:x= .ref p) (_:y= .int i) (_:D6 K H p xs) (_:rV xs i=some v) (_:Q v H):Kl K x y H Q
inductive NB(x:V)(y:V)(H:Hp)(Q:VK):Prop
 |mk (z:_) (i:_) (c:_) (_:x= .str z) (_:y= .int i) (_:z.length≤sizeLine) (_:rV z.cps.toList i=some c) (_:Q (.str ⟨#[c]⟩) H):NB x y H Q
theorem GX:Mf X (Kk X.K):=by
 intro value slice pins s σ H x y v u Q I rx ry h hs;obtain⟨p,xs,i,z,rfl,rfl,hq,he,q⟩:=h;cases rx;obtain⟨t,rfl⟩:=ry;obtain⟨its,r,pl,hz⟩:=I.list hq;obtain⟨j,h1,h2,h3,h4,h5⟩:=wF he;obtain⟨w,ew,f9⟩:=r.get h2;have hl:=r.length;have hn:=qi;have fin:EP X pins σ Q w s:=⟨z,H,I,f9,q⟩
 by_cases h0:0≤i
 ·have hj:i.toNat=j:=by
   rw[seqIndex_of h0 h5]at h1;exact Zu h1
  exact item_listR pl.isList h0 (Γ) (by rw[hj];simpa using ew) fin hs
 ·have hj:(i+(its.toArray.size:Int)).toNat=j:=by
   rw[seqIndex_neg (Γ) h4]at h1;rw[List.size_toArray,←hl];exact Zu h1
  exact subscriptTail_builtinR (x:=w) pl.isList.typeIs slot_list_getitem.lookup
   (wpAny_getItem_list_neg (Q:=fun r s'=>r=w∧EP X pins σ Q r s') pl.isList (Γ) (by rw[List.size_toArray]<;>omega) (Γ) (by rw[hj];simpa using ew) ⟨rfl,fin⟩) hs
theorem Km:Mf X (Kl X.K):=by
 intro value slice pins s σ H x y v u Q I rx ry h hs;obtain⟨p,xs,i,z,rfl,rfl,hq,he,q⟩:=h;cases rx;obtain⟨t,rfl⟩:=ry;obtain⟨its,r,pl,hz⟩:=I.tuple hq;obtain⟨j,h1,h2,h3,h4,h5⟩:=wF he;obtain⟨w,ew,f9⟩:=r.get h2;have hl:=r.length;have hn:=qi;have fin:EP X pins σ Q w s:=⟨z,H,I,f9,q⟩
 exact subscriptTail_builtinR (x:=w) pl.typeIs slot_tuple_getitem.lookup
  (getItem_tuple (j:=j) (Q:=fun r s'=>r=w∧EP X pins σ Q r s') pl (Γ) (Γ) (by rw[List.size_toArray,←hl];exact h1) (by simpa using ew) ⟨rfl,fin⟩) hs
theorem Ep:Mf X NB:=by
 intro value slice pins s σ H x y v u Q I rx ry h hs;obtain⟨z,i,c,rfl,rfl,hz,he,q⟩:=h;obtain⟨t,rfl⟩:=rx;obtain⟨t',rfl⟩:=ry;obtain⟨j,h1,h2,h3,h4,h5⟩:=wF he;have hl:z.cps.toList.length=z.length:=by simp[Str.length]
 rw[hl]at h1 h4 h5;have hn:=qi;exact tail_any (typeIs_str s z t) slot_str_getitem.lookup (getItem_str (c:=c) (by
  have e1:decide (i< -(2^63:Int))=false:=decide_eq_false (Γ);have e2:decide (i≥2^63)=false:=decide_eq_false (Γ);rw[e1,e2,Bool.or_false]) (by rw[h1];simpa using h2) ⟨.str ⟨#[c]⟩,H,I.tok _,⟨_,rfl⟩,q⟩) hs
theorem Ag(its:List Value)(n j:Nat)(u:Value):Obj.mapSeq (·.setIfInBounds j u) {cls:= .type "list",data:= .seq its.toArray n}={cls:= .type "list",data:= .seq (its.set j u).toArray n}:=by
 simp[Obj.mapSeq]
theorem Inv.lst{pins:List (Addr×Obj)}{σ:St}{H:Hp}{s:Shared}{p:Addr}{xs:List V}(I:Inv X pins σ H s)(h:H p=some (.lst xs)):
  ∃(its:List Value)(n:Nat),Vals xs its∧s.heap.get? p=some {cls:= .type "list",data:= .seq its.toArray n}∧xs.length≤sizeLine:=by
 obtain⟨z,its,n,r,e⟩:=I.bX p _ h;exact⟨its,n,r,e,z⟩
theorem Inv.Kn{pins:List (Addr×Obj)}{σ:St}{H:Hp}{s:Shared}{p:Addr}{xs ys:List V}{its its':List Value}{n n':Nat}{f:Obj→Obj}(I:Inv X pins σ H s)(h:H p=some (.lst xs))
  (ho:s.heap.get? p=some {cls:= .type "list",data:= .seq its.toArray n}) (hf:f {cls:= .type "list",data:= .seq its.toArray n}={cls:= .type "list",data:= .seq its'.toArray n'}) (r:Vals ys its') (hz:ys.length≤sizeLine) (t:Nat):
  Inv X pins σ (upd H p (.lst ys)) {s with heap:=s.heap.update p f,toks:=t}:=by
 have e:(s.heap.update p f).get? p=some {cls:= .type "list",data:= .seq its'.toArray n'}:=by
  rw[Heap.get?_update_self f ho (by rw[hf]<;>rfl),hf]
 refine I.write (x:=p) (e:=p) (by rw[h];trivial) (.inl rfl) (fun b u hb q=>(Heap.get?_update_other _ _ (Zd hb)).trans q) ⟨_,e⟩ ?_;exact⟨hz,its',n',r,e⟩
inductive IW(o:V)(i:V)(v:V)(H:Hp)(Q:(Hp→Prop)):Prop
 |mk (p:_) (xs:_) (k:_) (j:_) (_:o= .ref p) (_:i= .int k) (_:H p=some (.lst xs)) (_:Eo xs.length k=some j) (_:Q (upd H p (.lst (xs.set j v)))):IW o i v H Q
theorem set_list:Nh X IW:=by
 intro pins s σ H o i v ov iv u Q I ro ri rv h;obtain⟨p,xs,k,j,rfl,rfl,hp,hj,q⟩:=h;cases ro;obtain⟨t,rfl⟩:=ri;obtain⟨its,n,r,ho,hz⟩:=I.lst hp;obtain⟨h1,h2,h3,h4⟩:=Bz hj;have hl:=r.length;have hn:=qi;have I':Inv X pins σ (upd H p (.lst (xs.set j v))) {s with heap:=s.heap.update p (Obj.mapSeq (·.setIfInBounds j u))}:=
  I.Kn hp ho (Ag its n j u) (r.set rv j) (by rw[List.length_set];exact hz) s.toks
 by_cases h0:0≤k
 ·have hk:k.toNat=j:=by
   rw[seqIndex_of h0 h4]at h1;exact Zu h1
  exact PySem.W.ki_setAt ho h0 (Γ) (by rw[List.size_toArray,←hl];exact h4) (by rw[hk];exact⟨_,I',q⟩)
 ·have hk:(k+(its.toArray.size:Int)).toNat=j:=by
   rw[seqIndex_neg (Γ) h3]at h1;rw[List.size_toArray,←hl];exact Zu h1
  exact PySem.W.ki_setBack ho (Γ) (by rw[List.size_toArray,←hl];exact h3) (Γ) (by rw[hk];exact⟨_,I',q⟩)
theorem wG(lo hi:Option Int)(n:Nat):(sliceBounds lo hi none n).1=((HT.jX n 0 lo:Nat):Int)∧(sliceBounds lo hi none n).2.1=((HT.jX n n hi:Nat):Int)∧(sliceBounds lo hi none n).2.2=1:=by
 refine⟨?_,?_,rfl⟩
 ·cases lo with
  |none=>simp[sliceBounds,HT.jX]
  |some i=>
   simp only[sliceBounds,HT.jX,Option.getD_none,show(1:Int)>0 by decide,if_true];by_cases h:i<0
   ·simp only[h,if_true]<;>lia
   ·simp only[h,if_false]<;>lia
 ·cases hi with
  |none=>simp[sliceBounds,HT.jX]
  |some i=>
   simp only[sliceBounds,HT.jX,Option.getD_none,show(1:Int)>0 by decide,if_true];by_cases h:i<0
   ·simp only[h,if_true]<;>lia
   ·simp only[h,if_false]<;>lia
theorem uN(its:List Value)(lo hi:Option Int):slicePick its.toArray lo hi none=((its.drop (HT.jX its.length 0 lo)).take (HT.jX its.length its.length hi-HT.jX its.length 0 lo)).toArray:=by
 obtain⟨h1,h2,h3⟩:=wG lo hi its.toArray.size;unfold slicePick;rw[h1,h2,h3];simp only[sliceRange_one,pick_run,List.size_toArray]<;>rfl
inductive Ko(K:PySem.W.Frag)(x:V)(lo:Option Int)(hi:Option Int)(H:Hp)(Q:VK):Prop
 |mk (a:_) (xs:_) (_:x= .ref a) (_:iK K H a xs) (_:∀p,H p=none→Q (.ref p) (upd H p (.lst (qr xs lo hi)))):Ko K x lo hi H Q
theorem GY:PF X (Ko X.K):=by
 intro pins s σ H x v vl vu lo hi sl Q I rx hs pl pu h;obtain⟨a,xs,rfl,hx,q⟩:=h;cases rx;obtain⟨its,r,ht,hz⟩:=I.list hx;have hlen:=r.length;refine⟨"list",_,slot_list_getitem.lookup,ht.isList.typeIs,?_⟩;refine wpAny_getItem_list_slice ht.isList hs pl pu .none (XU) ?_ (by rw[List.size_toArray]<;>omega);rw[uN,←hlen];refine⟨.ref s.heap.objs.size,_,I.laid (t':=s.toks) (o:= .lst (qr xs lo hi)) (fun b ob q=>ZZ q) (Nat.le_refl _) ?_,rfl,q _ (I.bX.fresh Β)⟩;exact⟨Nat.le_trans (yG xs lo hi) hz,_,0,(r.drop (HT.jX xs.length 0 lo)).take (HT.jX xs.length xs.length hi-HT.jX xs.length 0 lo),Heap.get?_push_size _ rfl⟩
def rC:V→Bool
 | .cS=>true
 | .bl _=>true
 | .int _=>true
 | .str _=>true
 | _=>false
def wH:V→V→Bool
 | .cS, .cS=>true
 | .bl a, .bl b=>a==b
 | .bl a, .int b=>(if a then 1 else 0)==b
 | .int a, .bl b=>a==(if b then 1 else 0)
 | .int a, .int b=>a==b
 | .str a, .str b=>a==b
 | _,_=>false
theorem wI{A:Around}{s:Shared}{y x:V}{u v:Value}(ry:RelV y u)(rx:RelV x v)(fy:rC y=true)(fx:rC x=true):SeqAt.EqAt A s u v (wH y x):=by
 cases y with
 |cS=>
  cases ry;cases x with
  |cS=>cases rx;exact SeqAt.EqAt.same _
  |bl b=>cases rx;exact SeqAt.EqAt.none_bool b
  |int b=>obtain⟨t,rfl⟩:=rx;exact SeqAt.EqAt.none_int b t
  |str b=>obtain⟨t,rfl⟩:=rx;exact SeqAt.EqAt.none_str b t
  | _=>exact γ (show false=true from fx)
 |bl a=>
  cases ry;cases x with
  |cS=>cases rx;exact SeqAt.EqAt.bool_none a
  |bl b=>cases rx;exact SeqAt.EqAt.bool_bool a b
  |int b=>obtain⟨t,rfl⟩:=rx;exact SeqAt.EqAt.bool_int a b t
  |str b=>obtain⟨t,rfl⟩:=rx;exact SeqAt.EqAt.bool_str a b t
  | _=>exact γ (show false=true from fx)
 |int a=>
  obtain⟨t',rfl⟩:=ry;cases x with
  |cS=>cases rx;exact SeqAt.EqAt.int_none a t'
  |bl b=>cases rx;exact SeqAt.EqAt.int_bool a t' b
  |int b=>obtain⟨t,rfl⟩:=rx;exact SeqAt.EqAt.int_int a t' b t
  |str b=>obtain⟨t,rfl⟩:=rx;exact SeqAt.EqAt.int_str a t' b t
  | _=>exact γ (show false=true from fx)
 |str a=>
  obtain⟨t',rfl⟩:=ry;cases x with
  |cS=>cases rx;exact SeqAt.EqAt.str_none a t'
  |bl b=>cases rx;exact SeqAt.EqAt.str_bool a t' b
  |int b=>obtain⟨t,rfl⟩:=rx;exact SeqAt.EqAt.str_int a t' b t
  |str b=>obtain⟨t,rfl⟩:=rx;exact SeqAt.EqAt.str_str a t' b t
  | _=>exact γ (show false=true from fx)
 | _=>exact γ (show false=true from fy)
theorem wJ:ir X (.builtin "len") (fun xs H Q=>∃p ys,xs=[.ref p]∧(iK X.K H p ys∨D6 X.K H p ys)∧Q (.int ys.length) H):=by
 intro pins s σ H xs us Q I r h;obtain⟨p,ys,rfl,hq,q⟩:=h;obtain⟨u,rfl,rx⟩:=vals1 r;cases rx;have hn:=qi;rcases hq with hq|hq
 ·obtain⟨its,r',pl,hz⟩:=I.list hq;have hlen:=r'.length;exact Calls.call_len_list pl.isList (by simp only[List.size_toArray]<;>omega) ⟨.int ys.length,H,I.tok _,⟨s.toks+1,by rw[List.size_toArray,hlen]⟩,q⟩
 ·obtain⟨its,r',pl,hz⟩:=I.tuple hq;have hlen:=r'.length;exact len_tuple pl (by simp only[List.size_toArray]<;>omega) ⟨.int ys.length,H,I.tok _,⟨s.toks+1,by rw[List.size_toArray,hlen]⟩,q⟩
theorem oH:ir X (.builtin "len") (fun xs H Q=>∃z,xs=[.str z]∧z.length≤sizeLine∧Q (.int z.length) H):=by
 intro pins s σ H xs us Q I r h;obtain⟨z,rfl,hz,q⟩:=h;obtain⟨u,rfl,t,rfl⟩:=vals1 r;have hn:=qi;exact len_str (Γ) ⟨.int z.length,H,I.tok _,⟨_,rfl⟩,q⟩
theorem wK:ir X (.type "list") (fun xs H Q=>∃p ys,xs=[.ref p]∧(iK X.K H p ys∨D6 X.K H p ys)∧∀l,H l=none→Q (.ref l) (upd H l (.lst ys))):=by
 intro pins s σ H xs us Q I r h;obtain⟨p,ys,rfl,hq,q⟩:=h;obtain⟨u,rfl,rx⟩:=vals1 r;cases rx;have fin:∀(its:List Value),Vals ys its→ys.length≤sizeLine→∀(h':Heap)(c':Nat),(∀b o',s.heap.get? b=some o'→h'.get? b=some o')→
   h'.get? s.heap.objs.size=some {cls:= .type "list",dict:=none,data:= .seq its.toArray c',slots:=#[]}→EP X pins σ Q (.ref s.heap.objs.size) {s with heap:=h'}:=fun its r' hz h' c' kp e=>
  ⟨.ref s.heap.objs.size,_,I.laid (t':=s.toks) kp Β (show cT X.prog X.w _ h' _ (.lst ys)from⟨hz,its,c',r',e⟩),rfl,q _ (I.bX.fresh Β)⟩
 rcases hq with hq|hq
 ·obtain⟨its,r',pl,hz⟩:=I.list hq;have hlen:=r'.length;obtain⟨o,ho,hc,n,hd⟩:=pl.isList;exact call_list_seq p (.inl rfl) ho hc hd (fun h' c' kp e=>fin its r' hz h' c' kp e) (by simp only[List.size_toArray]<;>omega)
 ·obtain⟨its,r',pl,hz⟩:=I.tuple hq;have hlen:=r'.length;obtain⟨o,ho,hc,n,hd⟩:=pl;exact call_list_seq p (.inr rfl) ho hc hd (fun h' c' kp e=>fin its r' hz h' c' kp e) (by simp only[List.size_toArray]<;>omega)
def Rw(K:PySem.W.Frag)(T:String)(x:V)(H:Hp):Prop:=match x with
 | .str _=>T="str"
 | .int _=>T="int"
 | .ref p=>(T="list"∧∃xs,iK K H p xs)∨(T="tuple"∧∃o,K.lookup p=some o∧o.cls= .type "tuple"∧o.dict=none)∨
   (T="dict"∧((∃kvs,H p=some (.dK kvs))∨∃kvs,H p=some (.dT kvs)))∨(T="set"∧∃S n,H p=some (.set S n))
 | _=>False
theorem Es{pins:List (Addr×Obj)}{σ:St}{H:Hp}{s:Shared}{T:String}{x:V}{v:Value}(I:Inv X pins σ H s)(r:RelV x v)(ty:Rw X.K T x H):
  s.TypeIs v T∧∀a,v= .ref a→∃ob,s.heap.get? a=some ob∧ob.dict=none:=by
 cases x with
 |str z=>
  obtain⟨t,rfl⟩:=r;cases(show T="str" from ty);exact⟨typeIs_str s z t,fun _ e=>nomatch e⟩
 |int i=>
  obtain⟨t,rfl⟩:=r;cases(show T="int" from ty);exact⟨typeIs_int s i t,fun _ e=>nomatch e⟩
 |ref p=>
  cases r;rcases ty with⟨rfl,xs,hq⟩|⟨rfl,o,hk,hc,hd⟩|⟨rfl,hk⟩|⟨rfl,S,n,hk⟩
  ·obtain⟨its,_,pl,_⟩:=I.list hq;refine⟨pl.isList.typeIs,fun a e=>?_⟩;cases e;obtain⟨o,n,e,c,hd,_⟩:=pl;exact⟨o,e,hd⟩
  ·refine⟨⟨o,I.qg p o hk,hc⟩,fun a e=>?_⟩;cases e;exact⟨o,I.qg _ o hk,hd⟩
  ·have z:∃o,s.heap.get? p=some o∧o.ExactDict:=by
    rcases hk with⟨kvs,hk⟩|⟨kvs,hk⟩
    ·obtain⟨_,_,_,_,o,_,_,e,ex,_⟩:=I.bX p _ hk;exact⟨o,e,ex⟩
    ·obtain⟨_,_,_,_,o,_,_,e,ex,_⟩:=I.bX p _ hk;exact⟨o,e,ex⟩
   obtain⟨o,e,ex⟩:=z;refine⟨⟨o,e,ex.1⟩,fun a e2=>?_⟩;cases e2;exact⟨o,e,ex.2.1⟩
  ·obtain⟨o,_,_,_,e,ex,_⟩:=I.bX p _ hk;refine⟨⟨o,e,ex.1⟩,fun a e2=>?_⟩;cases e2;exact⟨o,e,ex.2.1⟩
 | _=>exact False.elim ty
def NC(K:PySem.W.Frag)(T:String)(r:V→List V→Hp→VK→Prop)(to:TE):TE:=fun σ H Q=>to σ H fun x H1=>Rw K T x H1∧r x [] H1 Q
def UA(K:PySem.W.Frag)(T:String)(r:V→List V→Hp→VK→Prop)(to:TE)(t:TA):TE:=fun σ H Q=>to σ H fun x H1=>Rw K T x H1∧t σ H1 fun xs H2=>r x xs H2 Q
variable{o e:Expr}{es:List Expr}{to:TE}{t:TA}{name:Str}{apos eK:Pos}{T id:String}{r:V→List V→Hp→VK→Prop}
theorem Kq(pa:PlainAttrs T)(slot:Slot T name id)(DM:typeOf (.builtin id)=pure (.type "method_descriptor"))(hm:PH X id r)(ho:PE X o to)
  (oI:attributeBase o name X.env (eval o X.env)=eval o X.env:=by rfl) (oJ:(apos.endLine==eK.line)=true:=by rfl):PE X (.Call (.Attribute o name apos) [] [] eK) (NC X.K T r to):=by
 intro pins s σ H Q I h;refine wpAny_Call_method0_late oI oJ (cH (ho pins s σ H _ I h) fun v s1 ⟨x,H1,I1,r1,ty,q1⟩=>?_);obtain⟨h1,h2⟩:=Es I1 r1 ty;exact⟨T,id,pa,slot,DM,h1,h2,Calls.callWith_builtin rfl (PySem.evalArgs_none (hm pins s1 σ H1 x [] v [] Q I1 r1 .nil q1))⟩
theorem ND(pa:PlainAttrs T)(slot:Slot T name id)(DM:typeOf (.builtin id)=pure (.type "method_descriptor"))(hm:PH X id r)(ho:PE X o to)(ha:PA X (e::es) t)
  (oI:attributeBase o name X.env (eval o X.env)=eval o X.env:=by rfl)
  (CL:((backTo eK (starEach (e::es) X.env)).all (fun x=>!x.1)&&(backToKw eK (keywordEach [] X.env)).all (fun x=>x.1.isSome)
   &&decide ((e::es).length+([]:List Keyword).length+(if ([]:List Keyword).isEmpty then 0 else 1)<30))=true:=by rfl)
  (oJ:(apos.endLine==eK.line)=true:=by rfl) (hs:starEach (e::es) X.env=(false,eval e X.env)::starEach es X.env:=by rfl) (Ah:(backTo eK (starEach es X.env)).any (·.1)=false:=by rfl):
  PE X (.Call (.Attribute o name apos) (e::es) [] eK) (UA X.K T r to t):=by
 intro pins s σ H Q I h;refine wpAny_Call_method_late oI CL oJ rfl (cH (ho pins s σ H _ I h) fun v s1 ⟨x,H1,I1,r1,ty,q1⟩=>?_);obtain⟨h1,h2⟩:=Es I1 r1 ty;refine⟨T,id,pa,slot,DM,h1,h2,?_⟩;have hA:=ha eK pins s1 σ H1 _ I1 q1;rw[hs]at hA⊢;refine Calls.callWith_builtin (by show(false||(backTo eK (starEach es X.env)).any (·.1))=false;rw[Ah]<;>rfl) (Calls.evalArgs_plain ?_);exact cH hA fun us s2 ⟨vs,H2,I2,r2,q2⟩=>hm pins s2 σ H2 x vs v us Q I2 r1 r2 q2
end
def Rx(X:Cx)(id:String)(r:V→List V→Hp→VK→Prop):Prop:=
 ∀(pins:List (Addr×Obj))(s:Shared)(σ:St)(H:Hp)(x:V)(xs:List V)(v:Value)(us:List Value)(Q:VK),Inv X pins σ H s→RelV x v→Vals xs us→r x xs H Q→
  wpAny (model X.prog X.w) X.A (call (.builtin id) (v::us)) (EP X pins σ Q) X.xe s
theorem Vals.one:∀{x:V}{us:List Value},Vals [x] us→∃u,us=[u]∧RelV x u
 | _,_, .cons r .nil=>⟨_,rfl,r⟩
theorem Vals.zero:∀{us:List Value},Vals [] us→us=[]
 | _, .nil=>rfl
theorem Vals.reverse{xs:List V}{us:List Value}(h:Vals xs us):Vals xs.reverse us.reverse:=by
 induction h with
 |nil=>exact .nil
 |cons r t ih=>rw[List.reverse_cons,List.reverse_cons];exact Vals.append ih (.cons r .nil)
theorem Vals.rep{xs:List V}{us:List Value}(h:Vals xs us):∀k:Nat,Vals (List.replicate k xs).flatten (List.replicate k us).flatten
 |0=> .nil
 |k+1=>by
  rw[List.replicate_succ,List.replicate_succ,List.flatten_cons,List.flatten_cons];exact Vals.append h (Vals.rep h k)
theorem foldl_rep(its:List Value):∀(k:Nat)(acc:List Value),
  List.foldl (fun x1 x2=>x1++x2) acc.toArray (List.replicate k its.toArray)=(acc++(List.replicate k its).flatten).toArray
 |0,acc=>XU
 |k+1,acc=>by
  have e:acc.toArray++its.toArray=(acc++its).toArray:=XU;have e2:(acc++its)++(List.replicate k its).flatten=acc++(List.replicate (k+1) its).flatten:=by
   rw[List.replicate_succ,List.flatten_cons,List.append_assoc]
  rw[←e2,←foldl_rep its k (acc++its),←e,List.replicate_succ,List.foldl_cons]
section
variable{X:Cx}{pins:List (Addr×Obj)}{σ:St}{H:Hp}{s:Shared}{l b:Addr}{xs ys zs:List V}
theorem Inv.Kr{its its':List Value}{n:Nat}{f:Array Value→Array Value}{t':Nat}(I:Inv X pins σ H s)(hH:H l=some (.lst xs))
  (e:s.heap.get? l=some {cls:= .type "list",data:= .seq its.toArray n}) (hf:f its.toArray=its'.toArray) (hv:Vals ys its') (hz:ys.length≤sizeLine):
  Inv X pins σ (upd H l (.lst ys)) {s with heap:=s.heap.update l (Obj.mapSeq f),toks:=t'}:=by
 have q:=PySem.IsL.update e f;rw[hf]at q;refine I.write (x:=l) (e:=l) (by rw[hH];exact trivial) (.inl rfl) (fun b' u hb hu=>(Heap.get?_update_other s.heap (Obj.mapSeq f) (Zd hb)).trans hu) ⟨_,q⟩ ?_;exact⟨hz,its',_,hv,q⟩
theorem Inv.NG{its:List Value}{t':Nat}(I:Inv X pins σ H s)(hv:Vals ys its)(hz:ys.length≤sizeLine):
  Inv X pins σ (upd H s.heap.objs.size (.lst ys)) {s with heap:=s.heap.push {cls:= .type "list",data:= .seq its.toArray},toks:=t'}:=
 I.laid (fun _ _ q=>ZZ q) (Nat.le_refl _) ⟨hz,its,0,hv,Heap.get?_push_size _ rfl⟩
theorem Inv.fresh(I:Inv X pins σ H s):H s.heap.objs.size=none:=I.bX.fresh Β
theorem Inv.Ai(I:Inv X pins σ H s)(hH:H l=some (.lst xs)):xs.length≤sizeLine∧∃(its:List Value)(n:Nat),Vals xs its∧xs.length=its.length∧s.heap.get? l=some {cls:= .type "list",data:= .seq its.toArray n}:=by
 obtain⟨z,its,n,r,e⟩:=I.bX l _ hH;exact⟨z,its,n,r,r.length,e⟩
theorem yH{n:Nat}(h:n≤sizeLine):Builtin.List.listTooLong n=false:=by
 unfold Builtin.List.listTooLong;exact decide_eq_false (Γ)
end
section
variable{X:Cx}
inductive BB(x:V)(vs:List V)(H:Hp)(Q:VK):Prop
 |mk (l:_) (xs:_) (y:_) (_:x= .ref l) (_:vs=[y]) (_:H l=some (.lst xs)) (_:xs.length<sizeLine) (_:Q .cS (upd H l (.lst (xs++[y])))):BB x vs H Q
theorem bL:Rx X "list.append" BB:=by
 intro pins s σ H x vs v us Q I rx rv h;obtain⟨l,xs,y,rfl,rfl,hH,hz,q⟩:=h;cases rx;obtain⟨u,rfl,ru⟩:=rv.one;obtain⟨z,its,n,r,hl,e⟩:=I.Ai hH;refine call_meets F.slot_list_append ⟨_,e,rfl⟩ F.entry_list_append (F.args_list_append_2 _ _) (PySem.list_append l its.toArray n u (by rw[List.size_toArray];omega)) ⟨e,?_⟩;refine⟨.cS,_,I.Kr (its':=its++[u]) hH e Xs (r.append (.cons ru .nil)) ?_,rfl,q⟩;rw[List.length_append,List.length_singleton];omega
def GZ:V→List V→Hp→VK→Prop:=fun x vs H Q=>∃l b xs zs,x= .ref l∧vs=[.ref b]∧H l=some (.lst xs)∧H b=some (.lst zs)∧xs.length+zs.length≤sizeLine∧Q .cS (upd H l (.lst (xs++zs)))
theorem vO:Rx X "list.extend" GZ:=by
 intro pins s σ H x vs v us Q I rx rv h;obtain⟨l,b,xs,zs,rfl,rfl,hH,hB,hz,q⟩:=h;cases rx;obtain⟨u,rfl,ru⟩:=rv.one;cases ru;obtain⟨z,its,n,r,hl,e⟩:=I.Ai hH;obtain⟨z2,e6,n2,r2,uO,e2⟩:=I.Ai hB;have hsz:its.toArray.size+e6.toArray.size≤sizeLine:=by rw[List.size_toArray,List.size_toArray];omega
 have Et:¬(!its.toArray.isEmpty&&Builtin.List.listTooLong (its.toArray.size+e6.toArray.size))=true:=by
  rw[yH hsz,Bool.and_false];exact Bool.false_ne_true
 refine call_meets F.slot_list_extend ⟨_,e,rfl⟩ F.entry_list_extend (F.args_list_extend_2 _ _)
  (AutoSeq1.list_extend_list_list_0 l its.toArray n b e6.toArray n2 Et (by rw[List.size_toArray];omega) (Γ)) ⟨e,e2,?_⟩
 refine⟨.cS,_,I.Kr (its':=its++e6) hH e Xs (r.append r2) ?_,rfl,q⟩;rw[List.length_append];omega
def Eu:V→List V→Hp→VK→Prop:=fun x vs H Q=>∃l xs,x= .ref l∧vs=[]∧H l=some (.lst xs)∧Q .cS (upd H l (.lst xs.reverse))
theorem Aj:Rx X "list.reverse" Eu:=by
 intro pins s σ H x vs v us Q I rx rv h;obtain⟨l,xs,rfl,rfl,hH,q⟩:=h;cases rx;have Ry:=rv.zero;subst Ry;obtain⟨z,its,n,r,hl,e⟩:=I.Ai hH;refine call_meets F.slot_list_reverse ⟨_,e,rfl⟩ F.entry_list_reverse (F.args_list_reverse_1 _) (AutoSeq1.list_reverse_list_0 l its.toArray n (by rw[List.size_toArray];omega)) ⟨e,?_⟩;refine⟨.cS,_,I.Kr (its':=its.reverse) hH e Xs r.reverse ?_,rfl,q⟩;rw[List.length_reverse];omega
inductive NH(x:V)(y:V)(H:Hp)(Q:VK):Prop
 |mk (l:_) (b:_) (xs:_) (zs:_) (_:x= .ref l) (_:y= .ref b) (_:H l=some (.lst xs)) (_:H b=some (.lst zs)) (_:xs.length+zs.length≤sizeLine) (_:∀p,H p=none→Q (.ref p) (upd H p (.lst (xs++zs)))):NH x y H Q
theorem Ak:rz X (binaryOp .Add) NH:=by
 intro pins s σ H x y v u Q I rx ry h;obtain⟨l,b,xs,zs,rfl,rfl,hH,hB,hz,q⟩:=h;cases rx;cases ry;obtain⟨z,its,n,r,hl,e⟩:=I.Ai hH;obtain⟨z2,e6,n2,r2,uO,e2⟩:=I.Ai hB;refine PySem.P.add_list e e2 ?_ (by rw[List.size_toArray,List.size_toArray];omega);have ea:its.toArray++e6.toArray=(its++e6).toArray:=XU;rw[ea];exact⟨.ref _,_,I.NG (t':=s.toks) (r.append r2) (by rw[List.length_append];omega),rfl,q _ I.fresh⟩
def Rz:R2:=fun x y H Q=>∃l k xs,x= .ref l∧y= .int k∧H l=some (.lst xs)∧-(2^63)≤k∧k<2^63∧xs.length*k.toNat≤sizeLine∧
 ∀p,H p=none→Q (.ref p) (upd H p (.lst (List.replicate k.toNat xs).flatten))
theorem len_rep{α:Type}(xs:List α)(k:Nat):(List.replicate k xs).flatten.length=k*xs.length:=by
 induction k with
 |zero=>simp
 |succ k ih=>rw[List.replicate_succ,List.flatten_cons,List.length_append,ih,Nat.succ_mul,Nat.add_comm]
theorem Kt:rz X (binaryOp .Mult) Rz:=by
 intro pins s σ H x y v u Q I rx ry h;obtain⟨l,k,xs,rfl,rfl,hH,h1,h2,hz,q⟩:=h;cases rx;obtain⟨t,rfl⟩:=ry;obtain⟨z,its,n,r,hl,e⟩:=I.Ai hH;have hlen:its.toArray.size*k.toNat≤sizeLine:=by rw[List.size_toArray,←hl];exact hz
 have RA:¬its.toArray.size*k.toNat>(2^63-1)/8:=by
  have:(sizeLine:Nat)≤(2^63-1)/8:=WD;omega
 have Ku:¬(!Builtin.List.listFitsIndex k)=true:=by
  rw[fitsIndex_both h1 h2];exact Bool.false_ne_true
 have Et:¬Builtin.List.listTooLong (its.toArray.size*k.toNat)=true:=by
  rw[yH hlen];exact Bool.false_ne_true
 have CM:List.foldl (fun x1 x2=>x1++x2) #[] (List.replicate (if its.toArray.isEmpty=true then 0 else k.toNat) its.toArray)=(List.replicate k.toNat its).flatten.toArray:=by
  have f0:∀m:Nat,List.foldl (fun x1 x2=>x1++x2) #[] (List.replicate m its.toArray)=(List.replicate m its).flatten.toArray:=fun m=>by
   have:=foldl_rep its m [];rw[List.nil_append]at this;exact this
  rw[f0];cases its with
  |nil=>simp
  |cons a r'=>rw[if_neg Xs]
 refine wpAny_binaryOp_repeat_ref (T:="list") (U:="int") (WD) ⟨_,e,rfl⟩ (fun s'=>typeIs_int s' k t) noFill_list_mul F.fills_int_mul F.slot_int_rmul repeat_list F.slot_int_index.lookup
  (call_meets F.slot_int_rmul (typeIs_int s k t) F.entry_int_rmul (F.args_int_rmul_2 _ _) (int___rmul___int_list k t l its.toArray n)
   ⟨e,rfl,⟨_,e,rfl⟩,call_meets F.slot_list_mul ⟨_,e,rfl⟩ F.entry_list_mul (F.args_list_mul_2 _ _) (AutoListH.list___mul___list_int_3 l its.toArray n k t Ku RA Et) ⟨e,?_⟩⟩)
 rw[CM];exact⟨.ref _,_,I.NG (t':=s.toks) (r.rep k.toNat) (by rw[len_rep,Nat.mul_comm];exact hz),rfl,q _ I.fresh⟩
end
section
variable{prog:Program}{w:World}{A:Around}{E:Value→Shared→Prop}{s:Shared}
end
section
variable{X:Cx}
end
end L2
namespace UB
open PySem PySem.W PySem.Calls PyProof.Rows
theorem rW{P:Params}{h:Heap}:∀(ns:List Int)(vs:List Value),WellAll P h vs (ns.map WData.int)→IntsAre vs ns:=by
 intro ns
 induction ns with
 |nil=>
  intro vs w;rw[List.map_nil]at w;cases w;exact .nil
 |cons n ns ih=>
  intro vs w;rw[List.map_cons]at w;cases w with
  |cons a b=>
   cases a;exact .cons _ _ (ih _ b)
theorem CO{l:OpenLaw}{n:Nat}(hn:l.most=some n){P:Params}{h:Heap}{args:List WData}{vals:List Value}
  (G0:l.row.toRowW.claim.pre args=true) (Mg:WellAll P h vals args):
  ∃a vs ns,vals=[Value.ref a]∧args=[WData.list (ns.map WData.int)]∧h.get? a=some {cls:= .type "list",data:= .seq vs.toArray}∧IntsAre vs ns∧ns.length≤n:=by
 have NI:WShape.hasAll [] args [.list .int]=true:=(pre_splitW G0).1;have hc:l.pre.holds [] {args:=args}=true:=(pre_splitW G0).2;obtain⟨d,r,rfl,h1,h2⟩:=hasAllW_cons NI;obtain rfl:=hasAllW_nil h2;obtain⟨xs,rfl,h3⟩:=hasW_list h1;obtain⟨ns,rfl⟩:=items_int h3;have hlen:ns.length≤n:=by
  unfold OpenLaw.pre at hc;have h4:(WTm.not (.lt (.lit (.int (n:Int))) (.len (.arg 0)))).holds [] {args:=[.list (ns.map .int)]}=true:=by
   have h4:=(holds_andW hc).1;rw[hn]at h4;exact h4
  have h5:=condW_of h4 (w_not (w_lt w_lit (w_len_list (w_arg rfl))));rw[List.length_map]at h5;refine Nat.le_of_not_lt fun q=>?_
  have q':(n:Int)<((ns.length:Nat):Int):=Γ;first
   |(rw[decide_eq_true q']at h5;exact absurd h5 (WD))
   |(simp at h5;omega)
 cases Mg with
 |cons w1 w2=>
  cases w2;cases w1 with
  |list ho RB=>exact⟨_,_,ns,rfl,rfl,ho,rW ns _ RB,hlen⟩
theorem CP(l:OpenLaw)(args:List WData):l.row.toRowW.claim.post args (.bool true) args=true:=
 postW_of (r:=l.row.toRowW) (X:=(true==true))
  (show WShape.has [] (.bool true) .bool=true by first|rfl|decide|simp[WShape.has,WShape.arms,WShape.armsAll])
  (show(WTm.eq .res (.lit (.bool true))).value [] {args:=args,res:=some (.bool true),after:=args}=some (.bool (true==true))from w_eq_bool (w_res rfl) w_lit) rfl
theorem yI{l:OpenLaw}{n:Nat}{q:Program}{loose:List Str}{XP:(Str→Option Value)→Heap→Prop}{YP:World→Heap→Prop}{d:DefRec}
  (hn:l.most=some n) (NJ:d.params.defaults=[])
  (call:∀(w:World)(dG cf:Shared)(mg mb:Str→Option Value)(fa:Addr)(o:Obj)(pm cd doc:Value)(a:Addr)(vs:List Value)(ns:List Int),
   Ground q loose [] XP w dG mg mb cf.heap→YP w cf.heap→
   cf.heap.get? fa=some o→o.data= .func (docDef d.name d.params d.body d.scope pm cd doc)→cf.heap.CodeRec cd d.name→mg d.name=some (.ref fa)→
   cf.heap.get? a=some {cls:= .type "list",data:= .seq vs.toArray}→IntsAre vs ns→ns.length≤n→cf.gens=#[]→
   codeAny (model l.prog w) callerA (.call (.ref fa) ⟨[.ref a],[]⟩) (fun r s'=>r= .ok (.ret (.bool true))∧OldK cf.heap s'.heap∧s'.os=cf.os∧AllBare s'.gens) cf):
  WalkO q loose XP YP l.row.toRowW d [] (fun f vs=>PySem.call f vs):=by
 intro w dG cf mg mb G Y fa o pm cd doc dV kV ho hd Cu hD NK hg args vals as G0 aaD aaP Mg Mh;obtain rfl:dV= .none:=Dflts.none hD NJ;obtain rfl:kV= .none:=Dflts.noKw hD;obtain⟨a,vs,ns,rfl,rfl,Kv,hints,hlen⟩:=CO hn G0 Mg;refine enter_call (codeAny_mono (call w dG cf mg mb fa o pm cd doc a vs ns G Y ho (fd_plain hd) Cu NK Kv hints hlen hg) fun r s' hq=>?_);obtain⟨rfl,h2,h3,h4⟩:=hq;exact⟨.inl ⟨.bool true, .bool true,[],rfl,fun _=>rfl, .bool true,CP l _,fun _=>⟨List.Pairwise.nil,fun _ hm=>(nomatch hm)⟩⟩,h2,h3,h4⟩
section
variable{prog:Program}{w:World}{A:Around}{E:Value→Shared→Prop}{s:Shared}{K:Frag}
def ledger(h:Heap)(L d:Addr):List (Addr×Obj):=(Zv h.objs.size).filterMap fun a=>if a=L∨a=d then none else(h.get? a).map fun o=>(a,o)
end
end UB
namespace L2
open PySem PySem.Spec PyProof.Rows
theorem vP:∀{vs:List Value}{ns:List Int},IntsAre vs ns→Vals (ns.map V.int) vs
 | _,_, .nil=> .nil
 | _,_, .cons n t h=> .cons ⟨t,rfl⟩ (vP h)
def Kx(H:Hp):Prop:=∀b,H b=none∨∃o xs,H b=some (.sF o (.lst xs))
theorem Ew{cm:Bool}{P:Program}{w:World}{K:PySem.W.Frag}{mg mb:Str→Option Value}{CX:Ee}{k:Nat}{fa a:Addr}{fd:FuncData}{x:Str}{sp:Sp}{cf:Shared}{vs:List Value}{ns:List Int}
  (KX:K.In cf.heap) (PK:cf.heap.Ns mainGlobals mg) (hb:cf.heap.Ns builtinsNs mb) (WE:∀x:Str,x≠"__name__"→mb x=bootBuiltins x) (RD:cf.heap.NoLimit) (hg:cf.gens=#[])
  (ha:cf.heap.get? a=some {cls:= .type "list",data:= .seq vs.toArray}) (hi:IntsAre vs ns) (hl:ns.length≤sizeLine) (hr:eZ cm k callerA)
  (F:∀base:Heap,K.In base→base.Ns mainGlobals mg→a8 P w K mg base CX cm k fa fd [x] sp) (NL:∀(s:Shared)(u:Value),BindsTo s fd ⟨[u],[]⟩ [(x,u)])
  (Gk:∀H:Hp,Kx H→iK K H a (ns.map V.int)→sp [.ref a] H (fun v _=>v= .bl true) fun _ _ _=>False)
  (RE:∀H e s',CX [] H cf (fun _ _ _=>False) e s'→False):
  codeAny (model P w) callerA (.call (.ref fa) ⟨[.ref a],[]⟩) (fun r s'=>r= .ok (.ret (.bool true))∧OldK cf.heap s'.heap∧s'.os=cf.os∧AllBare s'.gens) cf:=by
 have rv:=vP hi;have RF:=hi.length;have core:∀H:Hp,Kx H→iK K H a (ns.map V.int)→lJ P w H cf.heap→(∀b,H b≠none→b=a)→(H a≠none→K.lookup a=none)→
   codeAny (model P w) callerA (.call (.ref fa) ⟨[.ref a],[]⟩) (fun r s'=>r= .ok (.ret (.bool true))∧OldK cf.heap s'.heap∧s'.os=cf.os∧AllBare s'.gens) cf:=by
  intro H hO hS bX hA hK;have BC:∀{b:Addr}{o:Obj},cf.heap.get? b=some o→H b=none→(wu cf.heap H).get? b=some o:=fun e n=>D0 e n
  have Nu:∀{b:Addr}{o:Obj}{es:Array DictEntry}{ep:Nat},cf.heap.get? b=some o→o.data= .dict es ep→H b=none:=fun{b o es ep} e d=>by
   cases q:H b with
   |none=>rfl
   |some u=>
    have e':b=a:=hA b (by rw[q];simp);subst e';rw[ha]at e;cases e;have d':Data.seq vs.toArray _=Data.dict es ep:=d;cases d'
  have PL:∀{b:Addr}{m:Str→Option Value},cf.heap.Ns b m→(wu cf.heap H).Ns b m:=fun{b m} ⟨o,es,ep,e,d,r⟩=>⟨o,es,ep,BC e (Nu e d),d,r⟩
  have UC:K.In (wu cf.heap H):=fun b o e=>BC (KX b o e) (by
   cases q:H b with
   |none=>rfl
   |some u=>
    have e':b=a:=hA b (by rw[q];simp);subst e';rw[hK (by rw[q];simp)]at e;cases e)
  have hM:Mod K mg (wu cf.heap H):=⟨UC,PL PK,⟨mb,PL hb,WE⟩,let ⟨mc,h1,h2⟩:=RD;⟨mc,PL h1,h2⟩⟩
  have e0:Ad P w K mg (wu cf.heap H) callerA [] cf H:=⟨rfl,hM,fun b o e=>GA e,Nat.le_of_eq (Cs _ _),trivial,fun b hb=>absurd (show b∈([]:List Addr)from hb) (XU),bX, .of_eq hg⟩
  refine codeAny_mono ((F _ UC (PL PK)).run callerA [] cf H ⟨[.ref a],[]⟩ [.ref a] [.ref a] _ _ hr e0 (NL cf (.ref a)) (.cons rfl .nil) (Gk H hO hS)) fun r s' h=>?_
  cases r with
  |error e=>exact(RE H e s' h).elim
  |ok fl=>
   cases fl with
   |next=>exact False.elim h
   |brk=>exact False.elim h
   |cont=>exact False.elim h
   |ret u=>
    obtain⟨v,H',os,bare,un,RG,r',q⟩:=h;have q':v= .bl true:=q;subst q';obtain rfl:u=Value.bool true:=r';refine⟨rfl,OldK.of_keep fun b o e=>?_,os,bare⟩;cases q:H b with
    |none=>exact un.keep b o e q (by intro z;exact absurd (show b∈([]:List Addr)from z) (XU)) (XU)
    |some u=>
     rcases hO b with z|⟨ob,xs,z⟩
     ·rw[q]at z;cases z
     ·have z2:=un.oC b ob _ z;obtain⟨e1,_⟩:=bX b _ z;obtain⟨e2,_⟩:=RG b _ z2;rw[e]at e1;cases e1;exact e2
 cases hk:K.lookup a with
 |some o=>
  have e:=KX a o hk;rw[ha]at e;cases e;refine core (fun _=>none) (fun _=> .inl rfl) (.inr ⟨_,vs.toArray,_,hk,rfl,rfl,rfl,by rw[List.size_toArray,RF];exact hl,by simpa using rv⟩) (fun b u z=>by have z':(none:Option HO)=some u:=z;cases z') (fun b z=>absurd rfl z) fun z=>absurd rfl z
 |none=>
  refine core (fun b=>if b=a then some (.sF {cls:= .type "list",data:= .seq vs.toArray} (.lst (ns.map V.int)))else none) (fun b=>?_) (.inl (.inr ⟨{cls:= .type "list",data:= .seq vs.toArray},if_pos rfl⟩)) (fun b u z=>?_) (fun b z=>?_) fun _=>hk
  ·by_cases hb:b=a
   ·exact .inr ⟨_,_,Z1 hb⟩
   ·exact .inl (ZY hb)
  ·by_cases hb:b=a
   ·have z':=(Z1 hb).symm.trans z;cases z';subst hb;exact⟨ha,by rw[List.length_map];exact hl,vs,_,rv,ha⟩
   ·have z':=(ZY hb).symm.trans z;cases z'
  ·by_cases hb:b=a
   ·exact hb
   ·exact Y7 (ZY hb) z
theorem G6{cm:Bool}{l:PySem.W.OpenLaw}{n k:Nat}{q:Program}{loose:List Str}{XP:(Str→Option Value)→Heap→Prop}{YP:World→Heap→Prop}{d:DefRec}{K:Params→PySem.W.Frag}{CX:World→Ee}{sp:World→Sp}{x:Str}
  (hn:l.most=some n) (vF:n≤sizeLine) (NJ:d.params.defaults=[]) (hr:eZ cm k callerA)
  (hY:∀(w:World)(h:Heap),YP w h→(K w.params).In h)
  (F:∀(w:World)(mg:Str→Option Value)(fa:Addr)(h:Heap),(K w.params).In h→h.Ns mainGlobals mg→mg d.name=some (.ref fa)→
   ∃fd:FuncData,(∀(s:Shared)(u:Value),BindsTo s fd ⟨[u],[]⟩ [(x,u)])∧
    ∀base:Heap,(K w.params).In base→base.Ns mainGlobals mg→a8 l.prog w (K w.params) mg base (CX w) cm k fa fd [x] (sp w))
  (Gk:∀(w:World)(H:Hp)(a:Addr)(ns:List Int),ns.length≤n→Kx H→iK (K w.params) H a (ns.map V.int)→sp w [.ref a] H (fun v _=>v= .bl true) fun _ _ _=>False)
  (RE:∀(w:World)(H:Hp)(s:Shared)(e:Value)(s':Shared),CX w [] H s (fun _ _ _=>False) e s'→False):
  PySem.W.WalkO q loose XP YP l.row.toRowW d [] (fun f vs=>PySem.call f vs):=by
 refine UB.yI hn NJ fun w dG cf mg mb fa o pm cd doc a vs ns G Y ho hd Cu NK Kv hints hlen hg=>?_
 have KX:=hY w _ Y;obtain⟨fd,hb,hF⟩:=F w mg fa _ KX G.T.g NK;exact Ew KX G.T.g G.T.b G.T.builtins G.T.nolimit hg Kv hints (Nat.le_trans hlen vF) hr hF hb (fun H hO hS=>Gk w H a ns hlen hO hS) fun H e s'=>RE w H cf e s'
def inClass(s:Stmt)(j:Nat):Stmt:=match s with
 | .ClassDef _ _ _ body _ _ _ _ _ _ _=>body.getD j (.Pass ⟨0,0,0,0⟩)
 | _=> .Pass ⟨0,0,0,0⟩
def fL(s:Stmt):Arguments:=match s with
 | .FunctionDef _ a _ _ _ _ _ _ _ _=>a
 | _=>{posonlyargs:=[],args:=[],vararg:=none,kwonlyargs:=[],kw_defaults:=[],kwarg:=none,defaults:=[]}
def eQ(s:Stmt):List Stmt:=match s with
 | .FunctionDef _ _ b _ _ _ _ _ _ _=>b
 | _=>[]
def av(s:Stmt):Scope:=match s with
 | .FunctionDef _ _ _ _ _ _ sc _ _ _=>sc
 | _=>{kind:= .function,names:=[],isGenerator:=false,isCoroutine:=false}
abbrev E0:XK:=fun _ _ _=>False
structure jy(K:PySem.W.Frag)(x qual:Str)(st:Stmt)(f:Addr)(fd:FuncData):Prop where
 ex:∃(oc:Value)(od:Option Addr)(kV doc pm:Value)(an:Option Addr)(bR ct:Value)(By:Array (Option Value)),
  fd=PySem.W.fnOf x qual (fL st) (eQ st) (av st) .none kV doc pm an bR ct∧K.lookup f=some ⟨oc,od, .func fd,By⟩∧PySem.W.codeIn K bR qual=true
 kp:PySem.W.keepIn K (.ref f)=true
section
variable{P:Program}{w:World}{K:PySem.W.Frag}{mg:Str→Option Value}{base:Heap}
theorem jy.binds{x qual:Str}{st:Stmt}{f:Addr}{fd:FuncData}{ps:List Str}(F:jy K x qual st f fd)
  (h:∀(kV doc pm:Value)(an:Option Addr)(bR ct:Value)(us:List Value),us.length=ps.length→bindArgs (PySem.W.fnOf x qual (fL st) (eQ st) (av st) .none kV doc pm an bR ct) ⟨us,[]⟩=pure (ps.zip us)):Binds K fd ps []:=by
 obtain⟨oc,od,kV,doc,pm,an,bR,ct,By,rfl,lk,Cu⟩:=F.ex;exact .all (h kV doc pm an bR ct)
theorem Ex{x qual:Str}{st:Stmt}{f:Addr}{oc:Value}{od an:Option Addr}{By:Array (Option Value)}{kV doc pm bR ct:Value}(l:K.lookup f=some ⟨oc,od, .func (PySem.W.fnOf x qual (fL st) (eQ st) (av st) .none kV doc pm an bR ct),By⟩)
  (c:PySem.W.codeIn K bR qual=true) (k:PySem.W.keepIn K (.ref f)=true):jy K x qual st f (PySem.W.fnOf x qual (fL st) (eQ st) (av st) .none kV doc pm an bR ct):=⟨⟨oc,od,kV,doc,pm,an,bR,ct,By,rfl,l,c⟩,k⟩
end
section
variable{X:Cx}
theorem pv(i:Nat){x:Str}{pos:Pos}(hN:X.N[i]?=some x:=by rfl)(hv:QX X.env.scope x:=by first|exact Or.inl rfl|exact Or.inr (Or.inl rfl)|exact Or.inr (Or.inr rfl))(hd:(x==("__debug__":Str))=false:=by decide)
  (Cu:(x==("__classdict__":Str))=false:=by decide):PE X (.Name x pos) (J2 i):=J3 hN hv hd Cu
end
theorem fQ{A B:Prop}(h:B):if false=true then A else B:=by
 rw[ZY Bool.false_ne_true];exact h
theorem jY{A B:Prop}(h:A):if true=true then A else B:=by
 rw[if_pos rfl];exact h
theorem aX{c A B:Prop}[Decidable c](h1:c→A)(h2:¬c→B):if c then A else B:=by
 by_cases h:c
 ·rw[Z1 h];exact h1 h
 ·rw[ZY h];exact h2 h
def au(H H':Hp):Prop:=∀b o,H b=some o→H' b=some o
theorem au.refl(H:Hp):au H H:=fun _ _ h=>h
theorem au.trans{H H1 H2:Hp}(a:au H H1)(b:au H1 H2):au H H2:=fun c o h=>b c o (a c o h)
theorem au.free{H H':Hp}(e:au H H'){l:Addr}(h:H' l=Option.none):H l=Option.none:=by
 cases q:H l with
 |none=>rfl
 |some o=>
  rw[e l o q]at h;cases h
theorem au.seq{K:PySem.W.Frag}{H H':Hp}{a:Addr}{xs:List V}(e:au H H')(h:iK K H a xs):iK K H' a xs:=by
 rcases h with(h|⟨o,h⟩)|h
 ·exact .inl (.inl (e _ _ h))
 ·exact .inl (.inr ⟨o,e _ _ h⟩)
 ·exact .inr h
section
variable{κ:Type}[DecidableEq κ]
theorem yJ{kvs:List (κ×V)}{k:κ}(h:bE kvs k=none):¬k∈kvs.map (·.1):=by
 intro m;obtain⟨p,hp,e⟩:=List.mem_map.mp m;have q:(kvs.any fun kv=>decide (kv.1=k))=true:=List.any_eq_true.mpr ⟨p,hp,decide_eq_true e⟩;rw[iu,h]at q;exact absurd q Xs
theorem BD{kvs:List (κ×V)}{k:κ}{v:V}(h:bE kvs k=some v):k∈kvs.map (·.1):=by
 have q:(kvs.any fun kv=>decide (kv.1=k))=true:=by
  rw[iu,h];all_goals rfl
 obtain⟨p,hp,e⟩:=List.any_eq_true.mp q;exact List.mem_map.mpr ⟨p,hp,of_decide_eq_true e⟩
end
end L2
namespace L2
open PySem PySem.Spec PyProof.Rows PySem.W
def cV(P:Program)(w:World):Ee:=fun outer H s E e s'=>
 ∃(ea:Addr)(cls a0:Value)(B:Heap)(H':Hp),e= .ref ea∧s'.os=s.os∧AllBare s'.gens∧Heap.FlyingW B outer ea cls a0 s'.heap∧
  Un (oz outer) [] H H' s.heap s'.heap∧lJ P w H' B∧(∀b o,s.heap.get? b=some o→H b=none→b∉oz outer→B.get? b=some o)∧(∀b o,s.heap.get? b=some o→b∉oz outer→∃o',B.get? b=some o')∧E cls none H'
theorem aQ{P:Program}{w:World}{X:Cx}:Passes (cV P w) X (fun _=>E0):=fun _ _ _ _ _ _ _ ⟨_,_,_,_,_,_,_,_,_,_,_,_,_,h⟩=>h.elim
structure PM(X:Cx)(E:St→XK):Prop where
 raise:∀(pins:List (Addr×Obj))(σ:St)(H:Hp)(s:Shared)(h':Heap)(e:Addr)(cls:Value)(args:List Value),Inv X pins σ H s→Heap.MadeExcOf s.heap h' e cls args→E σ cls none H→X.xe (.ref e) {s with heap:=h'}
 pass:Passes (cV X.prog X.w) X E
 own:PassesOwn (model X.prog X.w) X.A X.env X.xe
theorem lJ.hide{P:Program}{w:World}{H:Hp}{h:Heap}{as:List Addr}(ok:lJ P w H h)(hf:∀b∈as,H b=none):lJ P w H (hideAll h as):=fun a o e=>
 (ok a o e).wt (fun b u hb q=>hideAll_get _ q fun hm=>by
  rcases hb with rfl|hb
  ·rw[hf _ hm]at e;cases e
  ·rw[hf _ hm]at hb;cases hb) (fun b q=>q) fun b xs q=>q
section
variable{P:Program}{w:World}{K:PySem.W.Frag}{mg:Str→Option Value}{base:Heap}{N:List Str}{qual:Str}{scope:Scope}{f:Addr}{cd:Value}{A:Around}{outer:List Env}{s:Shared}{H:Hp}{E:XK}{cm:Bool}
theorem Al{P:Program}{w:World}{H:Hp}{h:Heap}{a:Addr}{o:HO}(x:cT P w H h a o):∃q,h.get? a=some q:=by
 cases o with
 |lst xs=>obtain⟨_,its,n,_,e⟩:=x;exact⟨_,e⟩
 |tup xs=>obtain⟨_,its,_,o,e,_⟩:=x;exact⟨_,e⟩
 |dK kvs=>obtain⟨_,_,vs,_,o,es,ep,e,_⟩:=x;exact⟨_,e⟩
 |dT kvs=>obtain⟨_,_,xs,_,o,es,ep,e,_⟩:=x;exact⟨_,e⟩
 |set S n=>obtain⟨o,es,ep,t,e,_⟩:=x;exact⟨_,e⟩
 |ins C dx fs=>obtain⟨_,_,_,e,_⟩:=x;exact⟨_,e⟩
 |own y=>exact x
 |xd fs=>obtain⟨mA,⟨o,es,ep,e,_⟩,_⟩:=x;exact⟨_,e⟩
 |met f y=>exact⟨_,x⟩
 |Pp lo hi=>obtain⟨t,u,v,e⟩:=x;exact⟨_,e⟩
 |sF o u=>exact⟨_,x.1⟩
 |Gz ps=>exact⟨_,x⟩
 |ext φ=>exact x.2.1
theorem BE:PM (Af (cV P w) cm P w K mg base N qual scope f cd A outer s H E) (fun _=>E):=by
 refine⟨?_,?_,PassesOwn.leaving⟩
 ·intro pins σ H1 s1 h' e cls args I hx hE;have RH:(A.deeper (ε qual scope f cd)).frames=some (envOfC qual scope s.heap.objs.size f cd::outer):=I.ok.frames;have mz:s1.heap.FunFrames base (envOfC qual scope s.heap.objs.size f cd::outer):=I.stack;have oA:∀env∈(envOfC qual scope s.heap.objs.size f cd::outer),∀b,env.frame=some b→b∈(envOfC qual scope s.heap.objs.size f cd::outer).filterMap (·.frame):=fun env he b hb=>List.mem_filterMap.mpr ⟨env,he,hb⟩
  have Bm:∀b∈(envOfC qual scope s.heap.objs.size f cd::outer).filterMap (·.frame),H1 b=none:=I.wz;show wpAny (model P w) (A.deeper (ε qual scope f cd)) (leaving (ε qual scope f cd) (.ref e)) (fun _ wC=>cV P w outer H s E (.ref e) wC) (fun e' wC=>cV P w outer H s E e' wC) {s1 with heap:=h'};have Am:∀b o,s.heap.get? b=some o→b∉oz outer→b∉(envOfC qual scope s.heap.objs.size f cd::outer).filterMap (·.frame):=fun b o q hb hm=>by
   obtain⟨env,he,hf⟩:=List.mem_filterMap.mp hm;rcases List.mem_cons.mp he with rfl|he
   ·have z:s.heap.objs.size=b:=Option.some.inj hf;exact Y7 (Α q) (by rw[z];exact Nat.lt_irrefl _)
   ·exact hb (List.mem_filterMap.mpr ⟨env,he,hf⟩)
  refine wpAny_leaves_madeW (s:={s1 with heap:=h'}) (h:=s1.heap) (base:=hideAll s1.heap ((envOfC qual scope s.heap.objs.size f cd::outer).filterMap (·.frame))) (L:=s.heap.objs.size) RH rfl (fun b o q=>of_hideAll _ q) (funFrames_hide mz oA) hx fun h2 t x1 x2 x3 x4=>?_
  have bs:Un (oz outer) [] H H1 s.heap s1.heap:=I.base;have kB:∀b o,s.heap.get? b=some o→H b=none→b∉oz outer→(hideAll s1.heap ((envOfC qual scope s.heap.objs.size f cd::outer).filterMap (·.frame))).get? b=some o:=fun b o q hn hb=>
   hideAll_get _ (bs.keep b o q hn hb Xs) (Am b o q hb)
  have hB:lJ P w H1 (hideAll s1.heap ((envOfC qual scope s.heap.objs.size f cd::outer).filterMap (·.frame))):=I.bX.hide Bm;refine⟨e,cls, .ref t,_,H1,rfl,I.os,I.bare,x1,?_,hB,kB,fun b o q hb=>?_,hE⟩
  rotate_left
  ·obtain⟨o',e1⟩:=bs.there b o q Xs;exact⟨o',hideAll_get _ e1 (Am b o q hb)⟩
  refine⟨fun b o q hn hb _=>x1.1 b o (kB b o q hn hb),fun b o q hn hb _=>?_,fun b o q hn _=>bs.free b o q hn Xs,fun b o q _=>?_,bs.cF,bs.oC,bs.rT⟩
  ·obtain⟨sl,e1⟩:=bs.slot b o q hn hb Xs;have IX:s1.heap.FunFrames base outer:=mz.2.2;obtain⟨_,o2,e2,G7⟩:=IX.mem hb;rw[e1]at e2;cases e2;obtain⟨zK,e3⟩:=x4 b _ (hx.keeps _ _ e1) G7;exact⟨zK,e3⟩
  ·cases q1:H1 b with
   |some u=>
    obtain⟨oo,z⟩:=Al (hB b u q1);exact⟨oo,x1.1 b oo z⟩
   |none=>
    cases q0:H b with
    |none=>
     by_cases hb:b∈oz outer
     ·obtain⟨sl,e1⟩:=bs.slot b o q q0 hb Xs;have IX:s1.heap.FunFrames base outer:=mz.2.2;obtain⟨_,o2,e2,G7⟩:=IX.mem hb;rw[e1]at e2;cases e2;obtain⟨zK,e3⟩:=x4 b _ (hx.keeps _ _ e1) G7;exact⟨_,e3⟩
     ·exact⟨o,x1.1 b o (kB b o q q0 hb)⟩
    |some u=>
     obtain⟨o',e1⟩:=bs.there b o q Xs;by_cases hb:b∈oz outer
     ·have IX:s1.heap.FunFrames base outer:=mz.2.2;obtain⟨_,o2,e2,G7⟩:=IX.mem hb;obtain⟨zK,e3⟩:=x4 b _ (hx.keeps _ _ e2) G7;exact⟨_,e3⟩
     ·exact⟨o',x1.1 b o' (hideAll_get _ e1 (Am b o q hb))⟩
 ·rintro pins σ H1 s1 e s2 I ⟨ea,cls,a0,B,H',rfl,os,bare,PN,un,hB,kB,tB,hE⟩;have RH:(A.deeper (ε qual scope f cd)).frames=some (envOfC qual scope s.heap.objs.size f cd::outer):=I.ok.frames;show wpAny (model P w) (A.deeper (ε qual scope f cd)) (leaving (ε qual scope f cd) (.ref ea)) (fun _ wC=>cV P w outer H s E (.ref ea) wC) (fun e' wC=>cV P w outer H s E e' wC) s2;have PN:Heap.FlyingW B (envOfC qual scope s.heap.objs.size f cd::outer) ea cls a0 s2.heap:=PN;have un:Un (oz (envOfC qual scope s.heap.objs.size f cd::outer)) [] H1 H' s1.heap s2.heap:=un;have kB:∀b o,s1.heap.get? b=some o→H1 b=none→b∉oz (envOfC qual scope s.heap.objs.size f cd::outer)→B.get? b=some o:=kB;have Am:∀b o,s.heap.get? b=some o→b∉oz outer→b∉oz (envOfC qual scope s.heap.objs.size f cd::outer):=fun b o q hb hm=>by
   obtain⟨env,he,hf⟩:=List.mem_filterMap.mp hm;rcases List.mem_cons.mp he with rfl|he
   ·have z:s.heap.objs.size=b:=Option.some.inj hf;exact Y7 (Α q) (by rw[z];exact Nat.lt_irrefl _)
   ·exact hb (List.mem_filterMap.mpr ⟨env,he,hf⟩)
  have RJ:∀b,b∈oz outer→b∈oz (envOfC qual scope s.heap.objs.size f cd::outer):=fun b hb=>by
   obtain⟨env,he,hf⟩:=List.mem_filterMap.mp hb;exact List.mem_filterMap.mpr ⟨env,Ρ he,hf⟩
  have bs:Un (oz outer) [] H H1 s.heap s1.heap:=I.base;refine wpAny_leaves_onW (L:=s.heap.objs.size) RH rfl PN fun h2 x1 x4=>?_
  have UD:∀b o,s.heap.get? b=some o→H b=none→b∉oz outer→B.get? b=some o:=fun b o q hn hb=>kB b o (bs.keep b o q hn hb Xs) (bs.free b o q hn Xs) (Am b o q hb)
  have IX:s2.heap.FunFrames B outer:=PN.2.2.1.2.2;refine⟨ea,cls,a0,B,H',rfl,os.trans I.os,bare,x1,?_,hB,UD,fun b o q hb=>?_,hE⟩
  rotate_left
  ·obtain⟨o',e1⟩:=bs.there b o q Xs;exact tB b o' e1 (Am b o q hb)
  refine⟨fun b o q hn hb _=>x1.1 b o (UD b o q hn hb),fun b o q hn hb _=>?_,fun b o q hn _=>?_,fun b o q _=>?_,fun b xs q=>un.cF b xs (bs.cF b xs q),fun b o u q=>un.oC b o u (bs.oC b o u q),fun b ps q=>?_⟩
  ·obtain⟨sl,e1⟩:=bs.slot b o q hn hb Xs;obtain⟨Y1,e2⟩:=un.slot b _ e1 (bs.free b o q hn Xs) (RJ b hb) (XU);obtain⟨_,o2,e3,G7⟩:=IX.mem hb;rw[e2]at e3;cases e3;obtain⟨zK,e4⟩:=x4 b _ e2 G7;exact⟨zK,e4⟩
  ·by_cases hb:b∈oz outer
   ·obtain⟨sl,e1⟩:=bs.slot b o q hn hb Xs;exact un.free b _ e1 (bs.free b o q hn Xs) (XU)
   ·exact un.free b o (bs.keep b o q hn hb Xs) (bs.free b o q hn Xs) (XU)
  ·obtain⟨o',e1⟩:=bs.there b o q Xs;obtain⟨o2,e2⟩:=un.there b o' e1 Xs;by_cases hb:b∈oz outer
   ·obtain⟨_,o3,e3,G7⟩:=IX.mem hb;obtain⟨zK,e4⟩:=x4 b _ e3 G7;exact⟨_,e4⟩
   ·obtain⟨o3,e3⟩:=tB b o' e1 (Am b o q hb);exact⟨o3,x1.1 b o3 e3⟩
  ·obtain⟨more,z⟩:=bs.rT b ps q;obtain⟨NM,z2⟩:=un.rT b _ z;exact⟨more++NM,by rw[z2,Array.append_assoc]⟩
end
end L2
namespace L2
open PySem PySem.Spec PyProof.Rows PySem.W PySem.Calls Builtin Builtin.ObjectAttr Builtin.Getset_descriptor
section
variable{prog:Program}{w:World}{A:Around}{E:Value→Shared→Prop}{K:Frag}{x C:Addr}{o:Obj}{hh:Heap}{g:Array GenState}{d:Drawn}{t:Nat}{os:OsState}
end
structure NN(K:Frag)(C:Addr):Prop where
 ex:excIn K C [.type "ValueError", .type "Exception", .type "BaseException", .type "object"] "ValueError.__new__"=true
 cl:findIn K (.ref C) "__class__"=some (some (.builtin "object.__class__"))
 ob:mroIn K C (.type "object")=some true
 be:mroIn K C (.type "BaseException")=some true
 ga:findIn K (.ref C) "__getattribute__"=some (some (.builtin "BaseException.__getattribute__"))
 gn:findIn K (.ref C) "__getattr__"=some none
 tu:instIn K (.ref C) (.type "tuple")=some false
 kp:keepIn K (.ref C)=true
end L2
namespace L2
open PySem PySem.Spec PyProof.Rows PySem.W PySem.Calls
theorem G8{K:Frag}{h:Heap}{C:Addr}{UE:List Value}{newId:String}(X:K.In h)(q:excIn K C UE newId=true):
  ∃bm N nm qn bs hdct sn sub ab col dd k0 k1 k2 k3 k5 mN,h.get? C=some (excClassObj nm qn C N bs bm hdct sn sub ab col dd k0 k1 k2 k3 k5 newId)∧h.Ns N mN∧mN "__init__"=none∧OwnTail h UE bm:=by
 unfold excIn at q;split at q
 ·rename_i dd cd sl ho
  split at q
  ·rename_i C' bm k0 k1 k2 k3 n k5 hm hs
   simp only[Bool.and_eq_true,beq_iff_eq,Bool.not_eq_true']at q;obtain⟨⟨⟨⟨⟨rfl,rfl⟩,NO⟩,ht⟩,bX⟩,PU⟩:=q;obtain⟨nm,bs,mro,ns,qn,hd,sn,sub,ab,col,del⟩:=cd;dsimp only at hm NO bX PU;subst hm NO;have PV:sl=#[k0,k1,k2,k3,some (.builtin n),k5]:=by
    obtain⟨l⟩:=sl;simp only at hs;rw[hs]
   subst PV;exact⟨bm,ns,nm,qn,bs,hd,sn,sub,ab,col,dd,k0,k1,k2,k3,k5,_,X _ _ ho, .of_isNs (isNs_of_in X bX),nsMap_none_of_in X bX PU,tail_of_in X ht⟩
  ·cases q
 ·cases q
section
variable{X:Cx}{x:Str}{np eK pos:Pos}{e:Expr}{es:List Expr}{t:TA}{C:Addr}{E:St→XK}
def Kz(C:Addr)(E:St→XK)(t:TA):TS:=fun _ σ H=>t σ H fun vs H1=>vs.length≤sizeLine∧E σ (.ref C) none H1
theorem jj(hX:PM X E)(hc:X.calm=true)(hg:Gl X x)(hm:X.mg x=some (.ref C))(c:NN X.K C)(ha:PA X (e::es) t)(wB:(x==("__debug__":Str))=false:=by decide)
  (he:starEach (e::es) X.env=(false,eval e X.env)::starEach es X.env:=by rfl) (rB:(backTo eK (starEach es X.env)).any (·.1)=false:=by rfl):
  PS X (.Raise (some (.Call (.Name x np) (e::es) [] eK)) none pos) (Kz C E t):=by
 intro pins s σ H D I h;obtain⟨bm,N,nm,qn,bs,hdct,sn,sub,ab,col,dd,k0,k1,k2,k3,k5,mN,hC,hN,PU,T⟩:=G8 I.ok.mod.Ma c.ex;refine wpAny_Raise_call_subT (C:=C) (nm:=nm) (q:=qn) (N:=N) (bs:=bs) (bm:=bm) (hdct:=hdct) (sn:=sn) (sub:=sub) (ab:=ab) (col:=col) (dd:=dd) (k0:=k0) (k1:=k1) (k2:=k2) (k3:=k3) (k5:=k5)
  F.excBase_ValueError (mN:=mN) (T.hasType F.excBase_ValueError.hasBase) (I.ok.hd hc) (by rw[he];show(false||(backTo eK (starEach es X.env)).any (·.1))=false;rw[rB];rfl) PU (oE I hg hm ⟨rfl,?_⟩ wB)
 have hq:=cH (ha eK pins s σ H _ I h) fun us s2 ⟨vs,H2,I2,r2,q2⟩=>show us.length≤sizeLine∧(∀b o,X.base.get? b=some o→s2.heap.get? b=some o)∧∀h' e,Heap.MadeExcOf s2.heap h' e (.ref C) us→X.xe (.ref e) {s2 with heap:=h'}from
  ⟨by rw[←r2.length];exact q2.1,I2.bk,fun h' e hx=>hX.raise pins σ H2 s2 h' e (.ref C) us I2 hx q2.2⟩
 rw[he]at hq⊢;exact evalArgs_plain (wpAny_mono hq (fun vs s2 h2=>⟨rfl,h2.1,h2.2.1 _ _ hC,hN.keeps h2.2.1,T.keeps h2.2.1,h2.2.2⟩) fun _ _ y=>y)
end
section
variable{X:Cx}{e v1 v2:Expr}{es:List Expr}{te:TE}{pos:Pos}
def RK(te:TE):TE:=fun σ H Q=>te σ H fun x H1=>(∃y,x= .str y∧y.length≤sizeLine∧Q (.str y) H1)∨∃i:Int,x= .int i∧i.natAbs.log2<1920∧Q (.str (toString i)) H1
theorem qt(h:PE X e te):PE X (.FormattedValue e (-1) none pos) (RK te):=by
 intro pins s σ H Q I hq;refine FormattedValue_plain (cH (h pins s σ H _ I hq) fun u s1 ⟨x,H1,I1,r1,q1⟩=>?_);rcases q1 with⟨y,rfl,hy,q⟩|⟨i,rfl,hi,q⟩
 ·obtain⟨t,rfl⟩:=r1;exact formatField_str (fun t' tk=>⟨.str y,H1,I1.tok _,⟨_,rfl⟩,q⟩) hy
 ·obtain⟨t,rfl⟩:=r1;exact formatField_int_small hi ⟨.str (toString i),H1,I1.tok _,⟨_,rfl⟩,q⟩
abbrev TJ:=Str→TE
def PJ(X:Cx)(es:List Expr)(t:TJ):Prop:=
 ∀(acc:Str)(pins:List (Addr×Obj))(s:Shared)(σ:St)(H:Hp)(Q:VK),Inv X pins σ H s→t acc σ H Q→wpAny (model X.prog X.w) X.A (joinParts acc (evalEach es X.env)) (EP X pins σ Q) X.xe s
def NP:TJ:=fun acc _ H Q=>acc.length≤sizeLine∧Q (.str acc) H
def KA(te:TE)(t:TJ):TJ:=fun acc σ H Q=>te σ H fun x H1=>∃y,x= .str y∧(acc++y).length≤sizeLine∧t (acc++y) σ H1 Q
theorem wL:PJ X [] NP:=fun acc _ s σ H Q I h=>joinParts_nil ⟨.str acc,H,I.tok _,⟨_,rfl⟩,h.2⟩ h.1
theorem fA{t:TJ}(h1:PE X e te)(h2:PJ X es t):PJ X (e::es) (KA te t):=by
 intro acc pins s σ H Q I h;refine joinParts_cons (cH (h1 pins s σ H _ I h) fun u s1 ⟨x,H1,I1,r1,y,e,hl,q⟩=>?_);subst e;obtain⟨tk,rfl⟩:=r1;exact⟨hl,h2 _ pins s1 σ H1 Q I1 q⟩
theorem mC{t:TJ}(h:PJ X (v1::v2::es) t):PE X (.JoinedStr (v1::v2::es) pos) (t Str.empty):=fun pins s σ H Q I hq=>JoinedStr_many (h Str.empty pins s σ H Q I hq)
end
abbrev Cx.NQ(X:Cx)(e:Addr):Cx:={X with A:=X.A.mark (some (.ref e)),calm:=false,xe:=fun _ _=>False}
section
variable{X:Cx}{pins:List (Addr×Obj)}{σ:St}{H:Hp}{s:Shared}{ea C:Addr}{B:Heap}{a0:Value}
end
abbrev TH:=Addr→TS
def Ends.drop(D:Ends)(i:Nat):Ends:={nx:=fun σ H=>D.nx (σ.set i none) H,rt:=D.rt,bk:=fun σ H=>D.bk (σ.set i none) H,ct:=fun σ H=>D.ct (σ.set i none) H}
section
variable{X:Cx}{x n:Str}{np pos:Pos}{b0:Stmt}{NQ:List Stmt}{rest:List ExceptHandler}{ts:TS}{tr:TH}{Dc:Addr}{i:Nat}
end
def fR(env:Env):List (Str×NameKind)→List (Str×Addr)→List (Str×Addr)
 |[],acc=>acc
 |(n,k)::r,acc=>if k= .free then fR env r ((n,(env.cells.lookup n).getD 0)::acc)else fR env r acc
theorem wM{env:Env}{scope:Scope}(h:∀x∈scope.names,x.2= .free→∃c,env.cells.lookup x.1=some c):closureFor scope env=pure (fR env scope.names []):=by
 unfold closureFor
 suffices H:∀(l:List (Str×NameKind))(acc:List (Str×Addr)),(∀x∈l,x.2= .free→∃c,env.cells.lookup x.1=some c)→
   (forIn l acc fun(x:Str×NameKind)(cs:List (Str×Addr))=>if (x.2==NameKind.free)=true then do let c←cellOf env x.1;pure (ForInStep.yield ((x.1,c)::cs))else pure (ForInStep.yield cs):Sem (List (Str×Addr)))=pure (fR env l acc) by
  have:=H scope.names [] h;simpa using this
 intro l
 induction l with
 |nil=>intro acc _;rfl
 |cons x r ih=>
  intro acc hl;obtain⟨n,k⟩:=x;rw[List.forIn_cons];by_cases hk:k= .free
  ·subst hk;obtain⟨c,hc⟩:=hl (n, .free) List.mem_cons_self rfl;have J1:env.cells.lookup n=some c:=hc;simp only[beq_self_eq_true,if_true,cellOf,J1,fR,Option.getD_some];show(pure _>>=_)=_;rw[pure_bind];exact ih _ fun y hy=>hl y (Ρ hy)
  ·have hb:(k==NameKind.free)=false:=by simpa using hk
   simp only[hb,Bool.false_eq_true,if_false,fR,hk];rw[pure_bind];exact ih _ fun y hy=>hl y (Ρ hy)
theorem ke{env:Env}{x:Str}{c:Addr}:∀{l:List (Str×NameKind)}{acc:List (Str×Addr)},(∀y∈l,y.2= .free→∃c,env.cells.lookup y.1=some c)→
  (∀y d,acc.lookup y=some d→env.cells.lookup y=some d)→(fR env l acc).lookup x=some c→env.cells.lookup x=some c
 |[],acc,_,ha,h=>ha x c h
 |(n,k)::r,acc,hl,ha,h=>by
  unfold fR at h;have hr:∀y∈r,y.2= .free→∃c,env.cells.lookup y.1=some c:=fun y hy=>hl y (Ρ hy)
  split at h
  ·rename_i hk
   obtain⟨d,hd⟩:=hl (n,k) List.mem_cons_self hk;refine ke hr (fun y e he=>?_) h;rw[List.lookup_cons]at he;split at he
   ·rename_i q
    have q':y=n:=by simpa using q
    subst q';have uH:env.cells.lookup y=some d:=hd;rw[uH,Option.getD_some]at he;cases he;exact uH
   ·exact ha y e he
  ·exact ke hr ha h
theorem oK{env:Env}{x:Str}:∀{l:List (Str×NameKind)}{acc:List (Str×Addr)},((x,NameKind.free)∈l∨∃c,acc.lookup x=some c)→∃c,(fR env l acc).lookup x=some c
 |[],acc,h=>by
  rcases h with h|h
  ·simp at h
  ·exact h
 |(n,k)::r,acc,h=>by
  unfold fR;split
  ·rename_i hk
   refine oK ?_;rcases h with h|⟨c,h⟩
   ·rcases List.mem_cons.mp h with e|e
    ·injection e with e1 e2;subst e1;exact .inr ⟨(env.cells.lookup x).getD 0,by simp[List.lookup_cons]⟩
    ·exact .inl e
   ·by_cases q:x=n
    ·subst q;exact .inr ⟨(env.cells.lookup x).getD 0,by simp[List.lookup_cons]⟩
    ·refine .inr ⟨c,?_⟩;rw[List.lookup_cons];have:(x==n)=false:=by simpa using q
     rw[this];exact h
  ·rename_i hk
   refine oK ?_;rcases h with h|h
   ·rcases List.mem_cons.mp h with e|e
    ·injection e with e1 e2;exact Y7 e2.symm hk
    ·exact .inl e
   ·exact .inr h
theorem oM{env:Env}{x:Str}:∀{names:List (Str×NameKind)},names.lookup x=some .free→
  (names.map fun(n,k)=>if (k==NameKind.free&&env.scope.kind== .function&&env.kindOf n==some .cell)then(n,NameKind.cell)else(n,k)).lookup x=some .cell∨
  (names.map fun(n,k)=>if (k==NameKind.free&&env.scope.kind== .function&&env.kindOf n==some .cell)then(n,NameKind.cell)else(n,k)).lookup x=some .free
 |[],h=>by simp at h
 |(n,k)::r,h=>by
  have ih:=@oM env x r;show List.lookup x ((if (k==NameKind.free&&env.scope.kind== .function&&env.kindOf n==some .cell)=true then(n,NameKind.cell)else(n,k))::_)=_∨List.lookup x ((if (k==NameKind.free&&env.scope.kind== .function&&env.kindOf n==some .cell)=true then(n,NameKind.cell)else(n,k))::_)=_;rw[List.lookup_cons]at h;by_cases hc:(k==NameKind.free&&env.scope.kind== .function&&env.kindOf n==some .cell)=true
  ·rw[Z1 hc,List.lookup_cons];cases hx:x==n with
   |true=>exact .inl rfl
   |false=>rw[hx]at h;exact ih h
  ·rw[ZY hc,List.lookup_cons];cases hx:x==n with
   |true=>rw[hx]at h;exact .inr h
   |false=>rw[hx]at h;exact ih h
theorem oN{env:Env}{x:Str}:∀{names:List (Str×NameKind)},(∀y∈names,y.2≠ .cell)→
  ((names.map fun(n,k)=>if (k==NameKind.free&&env.scope.kind== .function&&env.kindOf n==some .cell)then(n,NameKind.cell)else(n,k)).lookup x=some .cell∨
  (names.map fun(n,k)=>if (k==NameKind.free&&env.scope.kind== .function&&env.kindOf n==some .cell)then(n,NameKind.cell)else(n,k)).lookup x=some .free)→(x,NameKind.free)∈names
 |[],_,h=>by simp at h
 |(n,k)::r,hc,h=>by
  have ih:=@oN env x r fun y hy=>hc y (Ρ hy)
  have h2:List.lookup x ((if (k==NameKind.free&&env.scope.kind== .function&&env.kindOf n==some .cell)=true then(n,NameKind.cell)else(n,k))::_)=_∨List.lookup x ((if (k==NameKind.free&&env.scope.kind== .function&&env.kindOf n==some .cell)=true then(n,NameKind.cell)else(n,k))::_)=_:=h;clear h;by_cases hq:(k==NameKind.free&&env.scope.kind== .function&&env.kindOf n==some .cell)=true
  ·rw[Z1 hq,List.lookup_cons]at h2;cases hx:x==n with
   |true=>
    have e:x=n:=by simpa using hx
    subst e;have hk:k= .free:=by
     rw[Bool.and_eq_true,Bool.and_eq_true]at hq;simpa using hq.1.1
    subst hk;exact List.mem_cons_self
   |false=>rw[hx]at h2;exact Ρ (ih h2)
  ·rw[ZY hq,List.lookup_cons]at h2;cases hx:x==n with
   |true=>
    rw[hx]at h2;have e:x=n:=by simpa using hx
    subst e;rcases h2 with h|h
    ·have h':some k=some NameKind.cell:=h;exact Y7 (Zu h') (hc (x,k) List.mem_cons_self)
    ·have h':some k=some NameKind.free:=h;rw[Zu h'];exact List.mem_cons_self
   |false=>rw[hx]at h2;exact Ρ (ih h2)
def gj(X:Cx)(scope:Scope)(N:List Str)(dG:Shared)(e7:Hp)(C:Addr)(fp:List Addr)(pn:List (Addr×Obj)):Cx:=
 {X with N:=N,dG:=dG,e7:=e7,env:=compEnvC scope (fR X.env scope.names []) C X.env,outer:=X.stack,ex:=fp,fn:=fun _=>false,pn:=pn,xe:=fun _ _=>False}
structure bq(N:List Str)(sc:Scope)(scope:Scope)(ls:List Str)(js:List Nat)(cs:List Str):Prop where
 kind:scope.kind= .function
 IY:∀x∈scope.names,x.2≠ .cell
 names:∀x∈scope.names,x.2= .local→scope.names.lookup x.1=some .local
 loc:∀x∈ls,scope.names.lookup x=some .local
 at_:cs=js.filterMap (N[·]?)
 len:cs.length=js.length
 RL:∀x∈cs,scope.names.lookup x=some .free∧(sc.names.lookup x=some .cell∨sc.names.lookup x=some .free)
 free:∀x∈scope.names,x.2= .free→(sc.names.lookup x.1=some .cell∨sc.names.lookup x.1=some .free)
 nd:(ls++cs).Nodup
section
variable{X:Cx}{pins:List (Addr×Obj)}{σ:St}{H:Hp}{s:Shared}{scope:Scope}{ls cs:List Str}{js:List Nat}{fp:List Addr}
theorem bq.has(S:bq X.N X.env.scope scope ls js cs)(ok:X.Ok):∀x∈scope.names,x.2= .free→∃c,X.env.cells.lookup x.1=some c:=fun x hx hf=>ok.has x.1 (S.free x hx hf)
def lM(ls:List Str)(js:List Nat)(σ:St):St:=ls.map (fun _=>none)++js.map fun j=>(σ[j]?).join
theorem G9(S:bq X.N X.env.scope scope ls js cs)(I:Inv X pins σ H s)(hf:∀b∈fp,iE X pins H b)(hl:∀b∈fp,b<s.heap.objs.size):(gj X scope (ls++cs) s H s.heap.objs.size fp (X.pn++pins)).Ok:=by
 have tD:∀{x:Str}{c:Addr},(fR X.env scope.names []).lookup x=some c→X.env.cells.lookup x=some c:=fun{x c} h=>ke (S.has I.ok) (fun y d h=>by simp at h) h
 refine⟨I.ok.mod,S.kind,I.ok.glob,I.ok.blt,Nat.le_refl _,fun x y c h1 h2=>I.ok.inj x y c (tD h1) (tD h2),fun x h=>oK (.inl (oN S.IY h)),(fun x c h=>Bool.noConfusion (show false=true from h)),I.ok.hd,I.ok.frames, .inl rfl,fun b hb=>⟨Κ (hl b hb),fun x c h=>(hf b hb).2.2.2.2.1 x c (tD h)⟩,
  I.bs,Nat.le_trans I.ok.JX I.sz,fun b o e hb=>?_,fun b hb hm=>?_,I.stack,I.wz⟩
 ·rcases(hf b hb).2.2.2.1 with z|z
  ·exact I.ok.JY b o e z
  ·exact Y7 (Nat.lt_of_lt_of_le (Α e) I.ok.JX) (Nat.not_lt.mpr z)
 ·rcases List.mem_cons.mp (I.sV b hm)with z|z
  ·exact(hf b hb).2.1 z
  ·exact(hf b hb).2.2.1 z
theorem Ey{h1:Heap}{m:Str→Option Value}(S:bq X.N X.env.scope scope ls js cs)(I:Inv X pins σ H s)(hf:∀b∈fp,iE X pins H b)(hl:∀b∈fp,b<s.heap.objs.size)
  (hn:h1.Ns s.heap.objs.size m) (hk:∀b o,s.heap.get? b=some o→h1.get? b=some o):
  Inv (gj X scope (ls++cs) s H s.heap.objs.size fp (X.pn++pins)) [] (lM ls js σ) H {s with heap:=h1}:=by
 have tD:∀{x:Str}{c:Addr},(fR X.env scope.names []).lookup x=some c→X.env.cells.lookup x=some c:=fun{x c} h=>ke (S.has I.ok) (fun y d h=>by simp at h) h
 have len:(lM ls js σ).length=(ls++cs).length:=by
  unfold lM;rw[List.length_append,List.length_append,List.length_map,List.length_map,S.len]
 refine⟨G9 S I hf hl,rfl,I.bare,Un.kept hk,⟨m,hn,fun i x v e1 e2 e3=>?_⟩,fun x c e=>?_,I.bX.fresh Β,fun x c e=>I.m4 x c (tD e),fun p hp=>?_,I.bX.kept hk,len⟩
 ·have e1:(ls++cs)[i]?=some x:=e1;unfold lM at e2;by_cases hi:i<ls.length
  ·rw[Ι (by simpa using hi),List.getElem?_map]at e2;cases q:ls[i]? with
   |none=>rw[q]at e2;cases e2
   |some y=>rw[q]at e2;cases e2
  ·have BF:ls.length≤i:=Nat.not_lt.mp hi;rw[Ο (by simpa using BF),List.getElem?_map,List.length_map]at e2;rw[Ο BF]at e1;obtain⟨UG,wN⟩:=S.RL x (ZS e1);cases q:js[i-ls.length]? with
   |none=>rw[q]at e2;cases e2
   |some j=>
    rw[q]at e2;have e2:(σ[j]?).join=some v:=Zu e2;have eN:X.N[j]?=some x:=by
     have aux:∀(js:List Nat)(cs:List Str)(i:Nat),cs=js.filterMap (X.N[·]?)→cs.length=js.length→∀j x,js[i]?=some j→cs[i]?=some x→X.N[j]?=some x:=by
      intro js
      induction js with
      |nil=>intro cs i _ _ j x hj _;simp at hj
      |cons a r ih=>
       intro cs i he hl j x hj hx;rw[List.filterMap_cons]at he;cases qa:X.N[a]? with
       |none=>
        rw[qa]at he;have hle:=List.length_filterMap_le (X.N[·]?) r;simp only at he;rw[he,List.length_cons]at hl
        lia
       |some y=>
        rw[qa]at he;simp only at he;subst he;cases i with
        |zero=>
         simp at hj hx;subst hj hx;exact qa
        |succ i=>exact ih _ i rfl (by simpa using hl) j x (by simpa using hj) (by simpa using hx)
     exact aux js cs _ S.at_ S.len j x q e1
    obtain⟨mX,_,WG⟩:=I.loc;have WH:σ[j]?=some (some v):=by
     cases z:σ[j]? with
     |none=>rw[z]at e2;cases e2
     |some w=>rw[z]at e2;rw[show w=some v from e2]
    obtain⟨u,r,l⟩:=WG j x v eN WH (wN.elim (fun z=> .inr (.inl z)) fun z=> .inr (.inr z));refine⟨u,r,?_⟩;rcases l with⟨z,_⟩|⟨_,c,z1,o,z2,z3⟩
    ·have z:X.env.scope.names.lookup x=some .local:=z;rcases wN with w|w<;>(rw[z]at w;cases w)
    ·refine .inr ⟨oM UG,c,?_,o,hk c o z2,z3⟩;obtain⟨c',J1⟩:=oK (env:=X.env) (l:=scope.names) (acc:=[]) (x:=x) (.inl (PySem.mem_of_lookup UG));have:=tD J1;rw[z1]at this;cases this;exact J1
 ·obtain⟨v,o,z1,z2⟩:=I.cell x c (tD e);exact⟨v,o,hk c o z1,z2⟩
 ·have hp:p∈X.pn++pins:=by simpa[gj]using hp
  obtain⟨e,n,ne,nf,d⟩:=I.pin p hp;refine⟨hk _ _ e,n,Κ (Α e),fun hm=>?_,d⟩;rcases List.mem_cons.mp (I.sV p.1 hm)with z|z
  ·exact ne z
  ·exact nf z
end
section
variable{prog:Program}{w:World}{A:Around}{R:Result→Shared→Prop}{s:Shared}
theorem wO{elt target iter:Expr}{ifs:List Expr}{scope:Scope}{pos:Pos}{it acc:Value}{env:Env}(L:Nat→Shared→Prop)
  (turn:∀n s,L n s→wpAny (model prog w) A (pyNext it) (fun r cf=>match r with
   |none=>R (.ok .next) cf
   |some v=>wpAny (model prog w) A (letOwnedTupleGo target it v) (fun _ IZ=>wpAny (model prog w) A (assign target env v) (fun _ qh=>
     wpAny (model prog w) A (forIn ifs true fun c r=>if r=true then do let ok←isTrue c env (eval c env);pure (ForInStep.yield ok)else pure (ForInStep.yield r)) (fun ok CK=>
      if ok=true then wpAny (model prog w) A (eval elt env) (fun x NR=>
       wpAny (model prog w) A (call (.builtin "list.append") [acc,x]) (fun _ NU=>∃m,m<n∧L m NU) (fun _ _=>False) NR) (fun _ _=>False) CK
      else ∃m,m<n∧L m CK) (fun _ _=>False) qh) (fun _ _=>False) IZ) (fun _ _=>False) cf) (fun _ _=>False) s)
  (n:Nat) (h:L n s):codeAny (model prog w) A (.compLoop (.ListComp elt [⟨target,iter,ifs,0⟩] scope pos) 0 it acc env) R s:=by
 refine codeAny_loop rfl L (fun n s hI=>?_) n h;show wpAny _ A ((compTurn (.ListComp elt [⟨target,iter,ifs,0⟩] scope pos) 0 it acc env).onRaise (fun x=>do noteFrame x env;theTreesLotGoes x)) _ _ s;refine wpAny_noted ?_;rw[compTurn_list];refine wpAny_mono (E:=fun _ _=>False) ?_ (fun _ _ q=>q) fun _ _ z=>False.elim z
 refine wpAny_bind (wpAny_standAt (Zk (wpAny_mono (turn n s hI) (fun r cf CJ=>?_) fun _ _ h'=>h')));cases r with
 |none=>exact YZ CJ
 |some v=>
  refine wpAny_bind (wpAny_mono CJ (fun _ IZ CJ=>?_) fun _ _ h'=>h');refine wpAny_bind (wpAny_mono CJ (fun _ qh Ei=>Zk (wpAny_mono Ei (fun ok CK GR=>?_) fun _ _ h'=>h')) fun _ _ h'=>h');cases ok with
  |false=>exact YZ ⟨rfl,GR⟩
  |true=>
   exact Zk (Zk (wpAny_mono GR (fun x NR RM=>Zk (wpAny_mono RM (fun _ NU RN=>YZ (YZ ⟨rfl,RN⟩)) fun _ _ h'=>h')) fun _ _ h'=>h'))
end
def NV(X:Cx)(ifs:List Expr)(t:TT):Prop:=
 ∀(pins:List (Addr×Obj))(s:Shared)(σ:St)(H:Hp)(Q:Bool→Hp→Prop),Inv X pins σ H s→t σ H Q→
  wpAny (model X.prog X.w) X.A (forIn ifs true fun c r=>if r=true then do let ok←isTrue c X.env (eval c X.env);pure (ForInStep.yield ok)else pure (ForInStep.yield r)) (TP X pins σ Q) X.xe s
def KC:TT:=fun _ H Q=>Q true H
theorem iQ{X:Cx}:NV X [] KC:=fun _ _ _ H _ I h=>wpAny_tests_nil ⟨H,I,h⟩
theorem sJ{X:Cx}{c:Expr}{t:TT}(h:PT X c t):NV X [c] t:=fun pins s σ H Q I hq=>wpAny_tests_one (h pins s σ H Q I hq)
def tE(J:It)(ls:List Str)(js:List Nat)(g:TG)(tt:TT)(te:TE)(σ:St)(H1:Hp)(D:Addr)(Q:VK):Prop:=
 ∃W:Nat→Nat→List V→St→Hp→Prop,(∃m,W 0 m [] (lM ls js σ) (upd H1 D (.lst [])))∧∀i m ys bx H',W i m ys bx H'→
 (J.stop i H'∧Q (.ref D) H')∨(J.go i H'∧∃N:List V→St→Hp→Prop,(∀I0 f' H2,N I0 f' H2→∃m',m'<m∧W (i+1) m' I0 f' H2)∧∀x H2,J.GC i H' x H2→g x bx H2 fun f' H3=>tt f' H3 fun b H4=>
  if b=true then te f' H4 fun y H5=>H5 D=some (.lst ys)∧ys.length<sizeLine∧N (ys++[y]) f' (upd H5 D (.lst (ys++[y])))else N ys f' H4)
def Ez(wi:TI)(ls:List Str)(js:List Nat)(g:TG)(tt:TT)(te:TE):TE:=fun σ H Q=>wi σ H fun J H1=>∀D,H1 D=none→tE J ls js g tt te σ H1 D Q
section
variable{X:Cx}{tg iter elt:Expr}{ifs:List Expr}{scope:Scope}{pos:Pos}{wi:TI}{g:TG}{tt:TT}{te:TE}{ls cs:List Str}{js:List Nat}
theorem vQ{pins:List (Addr×Obj)}{s:Shared}{σ:St}{H:Hp}{Q:VK}{use:Option (Value→Sem Unit)}{QQ:Value→Shared→Prop}(hc:X.calm=true)(S:bq X.N X.env.scope scope ls js cs)(hi:PI X tg iter wi)
  (hg:∀dG e7 C fp pn,PG ν tg g) (ht:∀dG e7 C fp pn,NV ν ifs tt) (he:∀dG e7 C fp pn,PE ν elt te)
  (I:Inv X pins σ H s) (h:Ez wi ls js g tt te σ H Q)
  (RO:∀(D C:Addr)(H':Hp)(s':Shared)(m:Str→Option Value),Inv X pins σ H' s'→Q (.ref D) H'→s'.heap.Ns C m→iE X pins H' C→compPost (model X.prog X.w) X.A X.xe use QQ (.ref D) C (.ok .next) s')
  (hs:∀x,foldedSetIterable iter X.env x=pure x:=by intro _;rfl):
  wpAny (model X.prog X.w) X.A (comprehension (.ListComp elt [⟨tg,iter,ifs,0⟩] scope pos) scope X.env (firstIterPos [⟨tg,iter,ifs,0⟩] pos) (newList []) false (eval iter X.env) use) QQ X.xe s:=by
 refine wpAny_comprehension_free rfl hs (wM (S.has I.ok)) S.kind S.names (cH (hi pins s σ H _ I h) fun v s1 h1=>cH h1 fun Rj s2 h2=>?_);obtain⟨it,fp,tn,J,H2,rfl,I2,T,dU,f2,hW⟩:=h2;have UH:∀b∈fp,b<s2.heap.objs.size:=fun b hb=>by
  obtain⟨o,e,_⟩:=T.obj 0 _ dU b hb;exact Α e
 refine wpAny_newObj_type ?_;have hD:H2 s2.heap.objs.size=none:=I2.bX.fresh Β;obtain⟨W,⟨m0,w0⟩,turn⟩:=hW _ hD;have I3:Inv X pins σ (upd H2 s2.heap.objs.size (.lst [])) {s2 with heap:=s2.heap.push {cls:= .type "list",dict:=none,data:= .seq ([]:List Value).toArray}}:=
  I2.laid (t':=s2.toks) (fun b u e=>ZZ e) (Nat.le_refl _) ⟨Nat.zero_le _,[],0, .nil,Heap.get?_push_size _ rfl⟩
 have f3:∀b∈fp,iE X pins (upd H2 s2.heap.objs.size (.lst [])) b:=fun b hb=>⟨by rw[ao (Κ (UH b hb))];exact(f2 b hb).1,(f2 b hb).2⟩
 generalize Y2:upd H2 s2.heap.objs.size (.lst [])=H3 at I3 f3 w0;generalize NW:({s2 with heap:=s2.heap.push {cls:= .type "list",dict:=none,data:= .seq ([]:List Value).toArray}}:Shared)=s3 at I3;have UI:∀b∈fp,b<s3.heap.objs.size:=fun b hb=>by
  rw[←NW];show b<(s2.heap.push _).objs.size;rw[Heap.size_push];exact Nat.lt_succ_of_lt (UH b hb)
 have D8:tn 0 s3.heap:=T.keep 0 _ _ dU fun b hb o e=>by rw[←NW];exact ZZ e
 refine wpAny_newFunctionEnv S.IY (by intro y hy;simp at hy) (fun h4 PK NX=>?_) S.kind;have k4:∀b o,s3.heap.get? b=some o→h4.get? b=some o:=fun b o e=>NX.extBut b o (Κ (Α e)) (ZZ e)
 have I4:=Ey (h1:=h4) S I3 f3 UI PK k4;have WI:=I4.tok (s3.toks+([]:List (Str×Value)).length);have PX:tn 0 h4:=T.keep 0 _ _ D8 fun b hb o e=>k4 b o e
 show codeAny (model X.prog X.w) X.A (.compStart (.ListComp elt [⟨tg,iter,ifs,0⟩] scope pos) 0 (.ref it) (.ref s2.heap.objs.size) (compEnvC scope (fR X.env scope.names []) s3.heap.objs.size X.env)) (compPost (model X.prog X.w) X.A X.xe use QQ (.ref s2.heap.objs.size) s3.heap.objs.size) _;have zZ:∀{H':Hp},(∀b∈fp,H' b=none)→∀b∈fp,iE ρ [] H' b:=fun{H'} hn b hb=>by
  obtain⟨q1,q2,q3,q4,q5,q6⟩:=f3 b hb;refine⟨hn b hb,Κ (UI b hb),fun hm=>?_, .inl hb,fun x c e=>q5 x c (ke (S.has I.ok) (fun y d z=>by simp at z) e),fun p hp=>q6 p (by simpa[gj]using hp)⟩;rcases List.mem_cons.mp (I3.sV b hm)with z|z
  ·exact q2 z
  ·exact q3 z
 have loop:codeAny (model X.prog X.w) X.A (.compLoop (.ListComp elt [⟨tg,iter,ifs,0⟩] scope pos) 0 (.ref it) (.ref s2.heap.objs.size) (compEnvC scope (fR X.env scope.names []) s3.heap.objs.size X.env)) (compPost (model X.prog X.w) X.A X.xe use QQ (.ref s2.heap.objs.size) s3.heap.objs.size)
   {s3 with heap:=h4,toks:=s3.toks+([]:List (Str×Value)).length}:=by
  refine wO (fun n s'=>∃i bx H',Inv ρ [] bx H' s'∧tn i s'.heap∧(∀b∈fp,H' b=none)∧∃ys,W i n ys bx H') ?_ m0 ⟨0,_,_,WI,PX,fun b hb=>(f3 b hb).1,[],w0⟩;rintro n s5 ⟨i,PY,H5,I5,Me,Pz,ys,w5⟩;rcases turn i n ys PY H5 w5 with⟨stop,qn⟩|⟨go,N,hN,step⟩
  ·refine cH (T.done ρ rfl rfl rfl hc i [] s5 PY H5 (fun _ _=>False) I5 (zZ Pz) Me stop) fun r s6 ⟨hr,I6⟩=>?_
   subst hr;obtain⟨m,hm,_⟩:=id I6.loc;have un:Un (oz X.stack) fp H3 H5 s3.heap s6.heap:=I6.base;have I7:Inv X pins σ H5 s6:=I3.M9 (ch:=fp) I6.os un I6.bX I6.bare fun b hb=>by
    obtain⟨q1,q2,q3,q4,q5,q6⟩:=f3 b hb;exact⟨q4,q2,q5,q6⟩
   have fc:iE X pins H5 s3.heap.objs.size:=I3.uM Β I6.free;exact RO _ _ H5 s6 m I7 qn hm fc
  ·refine cH (T.item ρ rfl rfl rfl hc i [] s5 PY H5 (fun _ _=>False) I5 (zZ Pz) Me go) fun r s6 ⟨u,hr,h6⟩=>?_
   subst hr;refine cH h6 fun _ s7 ⟨x,H7,I7,r7,y7,RP,WJ⟩=>?_
   have WK:=I7.pinned (zZ WJ) (T.obj _ _ RP);refine cH (hg _ _ _ _ _ _ s7 PY H7 x u _ WK r7 (step x H7 y7)) fun _ s8 ⟨PZ,H8,I8,q8⟩=>?_
   refine cH (ht _ _ _ _ _ _ s8 PZ H8 _ I8 q8) fun b s9 ⟨H9,I9,q9⟩=>?_
   have again:∀{I0:List V}{bx:St}{H':Hp}{s':Shared},Inv ρ ([]++sY fp s7.heap) bx H' s'→N I0 bx H'→
     ∃m,m<n∧∃i bx H',Inv ρ [] bx H' s'∧tn i s'.heap∧(∀b∈fp,H' b=none)∧∃ys,W i m ys bx H':=fun{I0 bx H' s'} I' n'=>by
    obtain⟨m',I_,w'⟩:=hN I0 bx H' n';refine⟨m',I_,i+1,bx,H',I'.lL,T.keep _ _ _ RP fun b hb o e=>(I'.pin (b,o) (Μ (Μ (gW hb e)))).1,fun b hb=>?_,I0,w'⟩;obtain⟨o,e,d⟩:=T.obj _ _ RP b hb;exact(I'.pin (b,o) (Μ (Μ (gW hb e)))).2.1
   cases b with
   |false=>exact again I9 q9
   |true=>
    refine cH (he _ _ _ _ _ _ s9 PZ H9 _ I9 q9) fun u2 WM ⟨y,WN,WO,WQ,WR,hz,WS⟩=>?_
    refine cH (bL _ WM PZ WN (.ref s2.heap.objs.size) [y] (.ref s2.heap.objs.size) [u2] (fun _ H'=>N (ys++[y]) PZ H') WO rfl (.cons WQ .nil) ⟨_,ys,y,rfl,rfl,WR,hz,WS⟩) fun _ Y3 ⟨_,aaE,WT,_,WU⟩=>?_
    exact again WT WU
 exact codeAny_compStart_list loop (T.self _ 0 _ _ _ PX loop)
theorem mD(hc:X.calm=true)(S:bq X.N X.env.scope scope ls js cs)(hi:PI X tg iter wi)
  (hg:∀dG e7 C fp pn,PG ν tg g) (ht:∀dG e7 C fp pn,NV ν ifs tt) (he:∀dG e7 C fp pn,PE ν elt te)
  (hs:∀x,foldedSetIterable iter X.env x=pure x:=by intro _;rfl):PE X (.ListComp elt [⟨tg,iter,ifs,0⟩] scope pos) (Ez wi ls js g tt te):=by
 intro pins s σ H Q I h;rw[eval_ListComp];refine vQ (use:=none) hc S hi hg ht he I h (fun D C H' s' m I' q hm fc=>⟨m,hm,fun h' NX=>?_⟩) hs;obtain⟨q1,q2,q3,q4,q5,q6⟩:=fc;exact⟨.ref D,H',I'.turned (t':=s'.toks) (fun b o hb e=>NX.extBut b o hb e) q1 (Zd (Zd q2)) q4 q5 q6,rfl,q⟩
theorem kL{x:Str}{i:Nat}{pos' NY:Pos}(hc:X.calm=true)(hN:X.N.Nodup)(BF:X.N[i]?=some x)(hx:X.env.scope.names.lookup x=some .local)(S:bq X.N X.env.scope scope ls js cs)(hi:PI X tg iter wi)
  (hg:∀dG e7 C fp pn,PG ν tg g) (ht:∀dG e7 C fp pn,NV ν ifs tt) (he:∀dG e7 C fp pn,PE ν elt te)
  (RQ:swapsWith (.ListComp elt [⟨tg,iter,ifs,0⟩] scope pos) (some (.Name x pos')) NY.line X.env=pure true:=by rfl)
  (hs:∀x,foldedSetIterable iter X.env x=pure x:=by intro _;rfl):PS X (.Assign [.Name x pos'] (.ListComp elt [⟨tg,iter,ifs,0⟩] scope pos) NY) (J8 (Ez wi ls js g tt te) (Bp i)):=by
 intro pins s σ H D I h;rw[exec_Assign_Name_used _ _ _ _ RQ];refine wpAny_bind (wpAny_standAt (Zk ?_));show wpAny _ X.A (do let _←comprehension (.ListComp elt [⟨tg,iter,ifs,0⟩] scope pos) scope X.env (firstIterPos [⟨tg,iter,ifs,0⟩] pos) (newList []) false (eval iter X.env) (some (assign (.Name x pos') X.env))) _ _ s;refine wpAny_bind (wpAny_mono (vQ (use:=some (assign (.Name x pos') X.env)) (QQ:=fun _ s'=>SP X pins D .next s') hc S hi hg ht he I h (fun Dl C H' s' m I' q hm fc=>?_) hs) (fun _ s' hq=>YZ (YZ hq)) fun _ _ e=>e);show wpAny _ X.A (assign (.Name x pos') X.env (.ref Dl)) _ _ _;obtain⟨q1,q2,q3,q4,q5,q6⟩:=fc;refine wpAny_assign_Name (vD (v:= .ref Dl) I' hN BF (.inl hx) rfl (fun s2 I2 ⟨a,NX,ha⟩=>?_) (.inr hx));have eJ:C≠a:=by
  rcases ha with rfl|ha
  ·exact q2
  ·exact fun z=>q5 x a ha z.symm
 refine⟨m,hm.sameBut NX eJ,fun h' RR=>?_⟩;exact⟨_,H',I2.turned (t':=s2.toks) (fun b o hb e=>RR.extBut b o hb e) q1 q2 q4 q5 q6,q⟩
end
def P6(z:Str):It:=⟨fun i _=>i<z.length,fun i H x H'=>H'=H∧∃c,z.cps.toList[i]?=some c∧x= .str ⟨#[c]⟩,fun i _=>z.length≤i⟩
theorem EA{P:Program}{w:World}{K:Frag}{tg:Expr}{it:Addr}{z:Str}{ty:String}{t:Tok}(DM:ty="str_ascii_iterator"∨ty="str_iterator"):Turn P w K tg (P6 z) [it] it (fun i h=>h.IsStrIter it ty z t i) where
 mem:=XU
 obj:=fun i h st b hb=>by
  have e:b=it:=by simpa using hb
  subst e;obtain⟨o,e,c,d⟩:=st;exact⟨o,e,fun v z=>by rw[d]at z;cases z⟩
 keep:=fun i h h' st k=>let ⟨o,ho,r⟩:=st;⟨o,k it (XU) o ho,r⟩
 item:=by
  intro X hP hw hK hc i pins s σ H E I hf st hg;subst hP hw hK;obtain⟨f0,f1,f2,f3,f4,f5⟩:=hf it (XU);have hg:i<z.cps.size:=hg;have key:∀h',h'.IsStrIter it ty z t (i+1)→Heap.SameBut it s.heap h'→∃u,some (Value.str ⟨#[z.cps[i]]⟩ s.toks)=some u∧
    wpAny (model X.prog X.w) X.A (letOwnedTupleGo tg (.ref it) u) (fun _ s2=>∃x H',Inv X pins σ H' s2∧RelV x u∧(P6 z).GC i H x H'∧s2.heap.IsStrIter it ty z t (i+1)∧∀b∈[it],H' b=none) E {s with heap:=h',toks:=s.toks+1}:=fun h' aU sb=>by
   have I1:Inv X pins σ H {s with heap:=h',toks:=s.toks+1}:=I.turned (fun b o hb e=>(sb.2 b hb).trans e) f0 f1 f3 f4 f5;obtain⟨o,e,c,d⟩:=id aU;refine⟨_,rfl,yw (s:={s with heap:=h',toks:=s.toks+1}) e c d (by rcases DM with rfl|rfl<;>decide) ⟨.str ⟨#[z.cps[i]]⟩,H,I1,⟨_,rfl⟩,⟨rfl,z.cps[i],by simp[hg],rfl⟩,aU,fun b hb=>(hf b hb).1⟩⟩
  rcases DM with rfl|rfl
  ·exact wpAny_pyNext_ascii_item st (c:=z.cps[i]) (by simp[hg]) key
  ·exact wpAny_pyNext_wide_item st (c:=z.cps[i]) (by simp[hg]) key
 done:=by
  intro X hP hw hK hc i pins s σ H E I hf st hg;subst hP hw hK;obtain⟨f0,f1,f2,f3,f4,f5⟩:=hf it (XU);have hg:z.cps.size≤i:=hg;rcases DM with rfl|rfl
  ·exact wpAny_pyNext_ascii_end (I.ok.hd hc) st (by simp[hg]) fun h' eb=>⟨rfl,I.turned (t':=s.toks) (fun b o hb e=>eb b o hb e) f0 f1 f3 f4 f5⟩
  ·exact wpAny_pyNext_wide_end (I.ok.hd hc) st (by simp[hg]) fun h' eb=>⟨rfl,I.turned (t':=s.toks) (fun b o hb e=>eb b o hb e) f0 f1 f3 f4 f5⟩
 self:=fun _ _ _ _ _ st h=>by
  rcases DM with rfl|rfl
  ·exact wpAny_pyIter_striter_ascii st h
  ·exact wpAny_pyIter_striter_wide st h
section
variable{X:Cx}{tg:Expr}
def RS(tl:TE):TI:=fun σ H R=>tl σ H fun x H1=>∃z,x= .str z∧R (P6 z) H1
theorem KD{l:Expr}{tl:TE}(hl:PE X l tl):PI X tg l (RS tl):=by
 intro pins s σ H R I h;refine cH (hl pins s σ H _ I h) fun v s1 ⟨x,H1,I1,r1,q1⟩=>?_
 obtain⟨z,e,q⟩:=q1;subst e;obtain⟨t,rfl⟩:=r1;refine wpAny_pyIter_strU ?_;refine⟨s1.heap.objs.size,[s1.heap.objs.size],_,_,H1,rfl,I1.kept (t':=s1.toks) fun b o e=>ZZ e,EA (ty:=strIterType z) (t:=t) (by unfold strIterType;split<;>simp),⟨_,Heap.get?_push_size _ rfl,rfl,rfl⟩,fun b hb=>?_,q⟩;have e:b=s1.heap.objs.size:=by simpa using hb
 subst e;exact I1.uM Β (I1.bX.fresh Β)
end
theorem oO{J:It}{n:Nat}{ls:List Str}{js:List Nat}{g:TG}{tt:TT}{te:TE}{σ:St}{H1:Hp}{D:Addr}{Q:VK}(Pv:Nat→List V→St→Hp→Prop)
  (h0:Pv 0 [] (lM ls js σ) (upd H1 D (.lst []))) (An:∀i ys σ H,i<n→Pv i ys σ H→J.go i H) (mz:∀ys σ H,Pv n ys σ H→J.stop n H)
  (hs:∀i ys σ H x H2,i<n→Pv i ys σ H→J.GC i H x H2→g x σ H2 fun f' H3=>tt f' H3 fun b H4=>if b=true then te f' H4 fun y H5=>H5 D=some (.lst ys)∧ys.length<sizeLine∧Pv (i+1) (ys++[y]) f' (upd H5 D (.lst (ys++[y])))else Pv (i+1) ys f' H4)
  (hd:∀ys σ H,Pv n ys σ H→Q (.ref D) H):
  tE J ls js g tt te σ H1 D Q:=by
 refine⟨fun i m ys σ H=>m=n-i∧i≤n∧Pv i ys σ H,⟨n,XU,Nat.zero_le _,h0⟩,?_⟩;rintro i m ys σ H ⟨rfl,hi,p⟩;by_cases hG:i<n
 ·exact .inr ⟨An i ys σ H hG p,Pv (i+1),fun I0 f' H2 p'=>⟨n-(i+1),by lia,rfl,hG,p'⟩,fun x H2 y=>hs i ys σ H x H2 hG p y⟩
 ·have e:i=n:=by lia
  subst e;exact .inl ⟨mz ys σ H p,hd ys σ H p⟩
theorem fZ{K:Frag}{a:Addr}{xs:List V}{ls:List Str}{js:List Nat}{g:TG}{tt:TT}{te:TE}{σ:St}{H1:Hp}{D:Addr}{Q:VK}(Pv:Nat→List V→St→Hp→Prop)
  (h0:Pv 0 [] (lM ls js σ) (upd H1 D (.lst []))) (hl:∀i ys σ H,i≤xs.length→Pv i ys σ H→iK K H a xs)
  (hs:∀i x ys σ H,xs[i]?=some x→Pv i ys σ H→g x σ H fun f' H3=>tt f' H3 fun b H4=>if b=true then te f' H4 fun y H5=>H5 D=some (.lst ys)∧ys.length<sizeLine∧Pv (i+1) (ys++[y]) f' (upd H5 D (.lst (ys++[y])))else Pv (i+1) ys f' H4)
  (hd:∀ys σ H,Pv xs.length ys σ H→Q (.ref D) H):
  tE (Mc K a) ls js g tt te σ H1 D Q:=
 oO (n:=xs.length) Pv h0 (fun i ys σ H hi p=>⟨xs,xs[i],hl i ys σ H (Nat.le_of_lt hi) p,by simp[hi]⟩) (fun ys σ H p=>⟨xs,hl _ ys σ H Β p,Nat.le_refl _⟩)
  (fun i ys σ H x H2 hi p y=>by
   obtain⟨e,y⟩:=y;subst e;exact hs i x ys σ _ (y xs (hl i ys σ _ (Nat.le_of_lt hi) p)) p) hd
theorem Ao{lo:Int}{n:Nat}{ls:List Str}{js:List Nat}{g:TG}{tt:TT}{te:TE}{σ:St}{H1:Hp}{D:Addr}{Q:VK}(Pv:Nat→List V→St→Hp→Prop)
  (h0:Pv 0 [] (lM ls js σ) (upd H1 D (.lst [])))
  (hs:∀i ys σ H,i<n→Pv i ys σ H→g (.int (lo+i)) σ H fun f' H3=>tt f' H3 fun b H4=>if b=true then te f' H4 fun y H5=>H5 D=some (.lst ys)∧ys.length<sizeLine∧Pv (i+1) (ys++[y]) f' (upd H5 D (.lst (ys++[y])))else Pv (i+1) ys f' H4)
  (hd:∀ys σ H,Pv n ys σ H→Q (.ref D) H):
  tE (II lo n) ls js g tt te σ H1 D Q:=
 oO (n:=n) Pv h0 (fun i ys σ H hi p=>hi) (fun ys σ H p=>Nat.le_refl _)
  (fun i ys σ H x H2 hi p y=>by
   obtain⟨e,y⟩:=y;subst e y;exact hs i ys σ _ hi p) hd
theorem EB{z:Str}{ls:List Str}{js:List Nat}{g:TG}{tt:TT}{te:TE}{σ:St}{H1:Hp}{D:Addr}{Q:VK}(Pv:Nat→List V→St→Hp→Prop)
  (h0:Pv 0 [] (lM ls js σ) (upd H1 D (.lst [])))
  (hs:∀i c ys σ H,z.cps.toList[i]?=some c→Pv i ys σ H→g (.str ⟨#[c]⟩) σ H fun f' H3=>tt f' H3 fun b H4=>if b=true then te f' H4 fun y H5=>H5 D=some (.lst ys)∧ys.length<sizeLine∧Pv (i+1) (ys++[y]) f' (upd H5 D (.lst (ys++[y])))else Pv (i+1) ys f' H4)
  (hd:∀ys σ H,Pv z.length ys σ H→Q (.ref D) H):
  tE (P6 z) ls js g tt te σ H1 D Q:=
 oO (n:=z.length) Pv h0 (fun i ys σ H hi p=>hi) (fun ys σ H p=>Nat.le_refl _)
  (fun i ys σ H x H2 hi p y=>by
   obtain⟨e,c,hc,ex⟩:=y;subst e ex;exact hs i c ys σ _ hc p) hd
theorem vR(z:Str)(lo hi:Option Int):(Txt.slice z lo hi).cps.toList=(z.cps.toList.drop (HT.jX z.length 0 lo)).take (HT.jX z.length z.length hi-HT.jX z.length 0 lo):=by
 have WV:=HT.En z.length 0 (Nat.zero_le _) lo;have WW:=HT.En z.length z.length Β hi;have ix:Builtin.Str.strSliceIndices lo hi 1 z.length=(Zv (HT.jX z.length z.length hi-HT.jX z.length 0 lo)).map (HT.jX z.length 0 lo+·):=by
  rw[←sliceRange_one];have pos:(1:Int)>0:=WD;cases lo with
  |none=>
   cases hi with
   |none=>rfl
   |some j=>
    simp only[Builtin.Str.strSliceIndices,HT.jX,pos,if_true]
    congr 1
    by_cases h:j<0
    ·simp only[h,if_true];lia
    ·simp only[h,if_false];lia
  |some i=>
   have e1:max 0 (min (if i<0 then i+(z.length:Int)else i) (z.length:Int))=((HT.jX z.length 0 (some i):Nat):Int):=by
    simp only[HT.jX];by_cases h:i<0
    ·simp only[h,if_true];lia
    ·simp only[h,if_false];lia
   cases hi with
   |none=>
    simp only[Builtin.Str.strSliceIndices,pos,if_true];rw[e1];rfl
   |some j=>
    have e2:max 0 (min (if j<0 then j+(z.length:Int)else j) (z.length:Int))=((HT.jX z.length z.length (some j):Nat):Int):=by
     simp only[HT.jX];by_cases h:j<0
     ·simp only[h,if_true];lia
     ·simp only[h,if_false];lia
    simp only[Builtin.Str.strSliceIndices,pos,if_true];rw[e1,e2]
 have hp:=pick_run z.cps (HT.jX z.length 0 lo) (HT.jX z.length z.length hi-HT.jX z.length 0 lo);unfold Txt.slice;rw[ix];split
 ·rename_i h
  simp only[List.length_map,List.length_range,beq_self_eq_true,Bool.true_and,beq_iff_eq]at h;have h0:HT.jX z.length 0 lo=0:=by lia
  have h1:HT.jX z.length z.length hi=z.length:=by lia
  rw[h0,h1,List.drop_zero,Nat.sub_zero,List.take_of_length_le (by simp[Str.length])]
 ·rw[←hp]
theorem vS(z:Str)(lo hi:Option Int):(Txt.slice z lo hi).length≤z.length:=Txt.slice_le z lo hi
section
variable{X:Cx}
def RT:V→Option Int→Option Int→Hp→VK→Prop:=fun x lo hi H Q=>∃z,x= .str z∧z.length≤sizeLine∧Q (.str (Txt.slice z lo hi)) H
theorem Ap:PF X RT:=by
 intro pins s σ H x v vl vu lo hi sl Q I rx hs pl pu h;obtain⟨z,rfl,hz,q⟩:=h;obtain⟨t,rfl⟩:=rx;refine⟨"str",_,F.slot_str_getitem.lookup,typeIs_str _ _ _,?_⟩;have go:∀l u:Option (Int×Tok),vl=partValue l→vu=partValue u→l.map (·.1)=lo→u.map (·.1)=hi→wpAny (model X.prog X.w) X.A (getItem (.str z t) (.ref sl)) (EP X pins σ Q) X.xe s:=by
  rintro l u rfl rfl rfl rfl;obtain⟨o,h1,h2,h3⟩:=hs;refine wpAny_getItem_str_slice (l:=l) (u:=u) (st:=none) ⟨o,h1,h2,h3⟩ rfl ?_;exact post_val_or_str ⟨Nat.le_trans (Txt.slice_le z _ _) hz,fun t' k=>⟨.str (Txt.slice z (l.map (·.1)) (u.map (·.1))),H,I.tok _,⟨_,rfl⟩,q⟩⟩
 cases pl with
 |none=>
  cases pu with
  |none=>exact go none none rfl rfl rfl rfl
  |int j tj=>exact go none (some (j,tj)) rfl rfl rfl rfl
 |int i ti=>
  cases pu with
  |none=>exact go (some (i,ti)) none rfl rfl rfl rfl
  |int j tj=>exact go (some (i,ti)) (some (j,tj)) rfl rfl rfl rfl
theorem vT:rz X (compareOp .LtE) (fun x y H Q=>∃i j,x= .str i∧y= .str j∧Q (.bl (!decide (j.cps.toList<i.cps.toList))) H):=by
 intro pins s σ H x y v u Q I rx ry h;obtain⟨i,j,rfl,rfl,q⟩:=h;obtain⟨t,rfl⟩:=rx;obtain⟨t',rfl⟩:=ry;exact P.le_str (bK I q rfl)
theorem BG{bs:List Bool}{us:List Value}(r:Vals (bs.map V.bl) us)(i:Nat)(v:Value)(h:us[i]?=some v):v= .bool (bs.getD i false):=by
 induction bs generalizing us i with
 |nil=>cases r;simp at h
 |cons b r' ih=>
  cases r with
  |cons r0 rr=>
   cases i with
   |zero=>
    have h0:some _=some v:=h;cases h0;exact r0
   |succ i=>simpa using ih rr i (by simpa using h)
theorem all_range(bs:List Bool):(Zv bs.length).all (fun i=>bs.getD i false)=bs.all id:=by
 rw[Bool.eq_iff_iff,List.all_eq_true,List.all_eq_true];constructor
 ·intro h b hb;obtain⟨i,hi,rfl⟩:=List.mem_iff_getElem.mp hb;have:=h i (by simpa using hi);simpa[hi]using this
 ·intro h i hi;have hi:i<bs.length:=by simpa using hi
  simpa[hi]using h bs[i] (List.getElem_mem hi)
theorem any_range(bs:List Bool):(Zv bs.length).any (fun i=>bs.getD i false)=bs.any id:=by
 rw[Bool.eq_iff_iff,List.any_eq_true,List.any_eq_true];constructor
 ·rintro⟨i,hi,h⟩;have hi:i<bs.length:=by simpa using hi
  exact⟨bs[i],List.getElem_mem hi,by simpa[hi]using h⟩
 ·rintro⟨b,hb,h⟩;obtain⟨i,hi,rfl⟩:=List.mem_iff_getElem.mp hb;exact⟨i,by simpa using hi,by simpa[hi]using h⟩
def G_(K:Frag)(f:List Bool→Bool):List V→Hp→VK→Prop:=fun xs H Q=>∃a bs,xs=[.ref a]∧iK K H a (bs.map V.bl)∧Q (.bl (f bs)) H
theorem EC(hc:X.calm=true):ir X (.builtin "all") (G_ X.K fun bs=>bs.all id):=by
 intro pins s σ H xs us Q I r h;obtain⟨a,bs,rfl,hq,q⟩:=h;cases r with
 |cons r rr=>
  cases rr;cases r;obtain⟨its,rv,p,hz⟩:=I.list hq;have hl:=rv.length;rw[List.length_map]at hl;refine call_all_walk (wpAny_pyIter_list p.isList ?_);have eJ:a≠s.heap.objs.size:=by
   obtain⟨o,n,e,_⟩:=p;exact Κ (Α e)
  refine⟨s.heap.objs.size,_,_,_,_,_,fun i=>bs.getD i false,rfl,Walks.list (A:=X.A.in1) (show X.A.in1.handled=none from I.ok.hd hc) _ a eJ its.toArray,⟨⟨_,Heap.get?_push_size _ rfl,rfl,rfl⟩,p.isList.at fun o e=>ZZ e⟩,fun i v s1 Q1 E1 hv q1=>?_,fun h' tk hk=>?_⟩
  ·have hv:=BG rv i v (by simpa using hv);subst hv;exact wpAny_truthy_bool q1
  ·rw[List.size_toArray,←hl,all_range];refine⟨.bl (bs.all id),H,I.kept fun b o e=>hk b o (fun z=>?_) (ZZ e),rfl,q⟩;have z:b=s.heap.objs.size:=by simpa using z
   exact Y7 (z▸Α e) (Nat.lt_irrefl _)
theorem ED(hc:X.calm=true):ir X (.builtin "any") (G_ X.K fun bs=>bs.any id):=by
 intro pins s σ H xs us Q I r h;obtain⟨a,bs,rfl,hq,q⟩:=h;cases r with
 |cons r rr=>
  cases rr;cases r;obtain⟨its,rv,p,hz⟩:=I.list hq;have hl:=rv.length;rw[List.length_map]at hl;refine call_any_walk (wpAny_pyIter_list p.isList ?_);have eJ:a≠s.heap.objs.size:=by
   obtain⟨o,n,e,_⟩:=p;exact Κ (Α e)
  refine⟨s.heap.objs.size,_,_,_,_,_,fun i=>bs.getD i false,rfl,Walks.list (A:=X.A.in1) (show X.A.in1.handled=none from I.ok.hd hc) _ a eJ its.toArray,⟨⟨_,Heap.get?_push_size _ rfl,rfl,rfl⟩,p.isList.at fun o e=>ZZ e⟩,fun i v s1 Q1 E1 hv q1=>?_,fun h' tk hk=>?_⟩
  ·have hv:=BG rv i v (by simpa using hv);subst hv;exact wpAny_truthy_bool q1
  ·rw[List.size_toArray,←hl,any_range];refine⟨.bl (bs.any id),H,I.kept fun b o e=>hk b o (fun z=>?_) (ZZ e),rfl,q⟩;have z:b=s.heap.objs.size:=by simpa using z
   exact Y7 (z▸Α e) (Nat.lt_irrefl _)
def Ja:V→Option Value
 | .ty n=>some (.type n)
 | .ref C=>some (.ref C)
 | _=>none
theorem CQ{c:V}{cv u:Value}(h:Ja c=some cv)(r:RelV c u):u=cv:=by
 cases c<;>first
  |(cases h;done)
  |(cases h;exact r)
inductive KG(K:Frag)(xs:List V)(H:Hp)(Q:VK):Prop
 |mk (x:_) (c:_) (t:_) (b:_) (cv:_) (_:xs=[x,c]) (_:Ja c=some cv) (_:qo K H x t) (_:kitOne K t cv=some b) (_:Q (.bl b) H):KG K xs H Q
theorem EE:ir X (.builtin "isinstance") (KG X.K):=by
 intro pins s σ H xs us Q I r h;obtain⟨x,c,t,b,cv,rfl,rc,ty,hk,q⟩:=h;cases r with
 |cons r1 rr=>
  cases rr with
  |cons r2 rr=>
   cases rr;cases CQ rc r2;exact CB I r1 ty hk fun tk=>⟨.bl b,H,I.tok _,rfl,q⟩
end
section
variable{P:Program}{w:World}{K:Frag}{mg:Str→Option Value}{base:Heap}
abbrev P7(P:Program)(w:World)(K:Frag)(mg:Str→Option Value)(base:Heap)(cm:Bool)(N:List Str)(qual:Str)(scope:Scope)(f:Addr)(cd:Value)(A:Around)(outer:List Env)(s:Shared)(H:Hp)(E:XK):Cx:=
 Af (cV P w) cm P w K mg base N qual scope f cd A outer s H E
theorem jy.gk{cm:Bool}{x qual:Str}{st:Stmt}{f:Addr}{fd:FuncData}{N ps:List Str}{k:Nat}{sp:Sp}(F:jy K x qual st f fd)(S:aL N ps (av st))(len:∀vs H Q E,sp vs H Q E→vs.length=ps.length)
  (yC:∀(bR:Value)(A:Around)(outer:List Env)(s:Shared)(H:Hp)(vs:List V)(Q:VK)(E:XK),eZ cm k (A.deeper (ε qual (av st) f bR))→sp vs H Q E→
   PM (P7 P w K mg base cm N qual (av st) f bR A outer s H E) (fun _=>E)→
   ∃t,Ct (P7 P w K mg base cm N qual (av st) f bR A outer s H E) (eQ st) t∧t {nx:=fun _ H'=>Q .cS H',rt:=Q} (start N vs) H):a8 P w K mg base (cV P w) cm (k+1) f fd ps sp:=by
 obtain⟨oc,od,kV,doc,pm,an,bR,ct,By,rfl,lk,Cu⟩:=F.ex;exact IQ lk Cu S len fun A outer s H vs Q E hr Gk=>yC bR A outer s H vs Q E hr Gk BE
end
def bJ(P:Program)(w:World)(K:Frag)(mg:Str→Option Value)(base:Heap)(cm:Bool)(k:Nat)(x:Str)(ps:List Str)(sp:Sp):Prop:=
 ∃f fd,a8 P w K mg base (cV P w) cm k f fd ps sp∧mg x=some (.ref f)∧keepIn K (.ref f)=true∧Binds K fd ps []
theorem EF{P:Program}{w:World}{K:Frag}{mg:Str→Option Value}{base:Heap}{cm:Bool}{k:Nat}{x y:Str}{ps:List Str}{sp:Sp}{st:Stmt}{f:Addr}{fd:FuncData}(F:jy K x y st f fd)(hm:mg x=some (.ref f))(b:Binds K fd ps [])
  (ok:a8 P w K mg base (cV P w) cm k f fd ps sp):bJ P w K mg base cm k x ps sp:=⟨f,fd,ok,hm,F.kp,b⟩
section
variable{X:Cx}{cm:Bool}{k:Nat}{x:Str}{ps:List Str}{sp:Sp}{E:St→XK}{e:Expr}{es:List Expr}{t:TA}{p pos:Pos}
theorem aN(D:bJ X.prog X.w X.K X.mg X.base cm k x ps sp)(hr:eZ cm k X.A)(hx:Passes (cV X.prog X.w) X E)(ha:PA X (e::es) t)(hg:Gl X x:=by rfl)(wB:(x==("__debug__":Str))=false:=by decide)
  (he:starEach (e::es) X.env=(false,eval e X.env)::starEach es X.env:=by rfl) (rB:(backTo pos (starEach es X.env)).any (·.1)=false:=by rfl):PE X (.Call (.Name x p) (e::es) [] pos) (IP sp [] E t):=by
 obtain⟨f,fd,ok,hm,hk,hb⟩:=D;exact GK ok hr hg hm hk hb .nil hx ha wB he rB
theorem fM{v:V}(h:∃u,X.mg x=some u∧RelV v u)(hg:Gl X x:=by rfl)(hd:(x==("__debug__":Str))=false:=by decide):PE X (.Name x pos) (tC v):=by
 obtain⟨u,h1,h2⟩:=h;exact Bn hg h1 h2 hd
end
theorem wQ{σ:St}{H:Hp}{A B:Hp→Prop}(h:A H):KC σ H (fun b H4=>if b=true then A H4 else B H4):=by
 show if true=true then A H else B H
 exact jY h
theorem qu{i:Nat}{x:V}{σ:St}{H:Hp}{A B:St→Hp→Prop}(h:A (σ.set i (some x)) H):Bp i x σ H (fun f' H3=>KC f' H3 (fun b H4=>if b=true then A f' H4 else B f' H4)):=by
 show if true=true then A (σ.set i (some x)) H else B (σ.set i (some x)) H
 exact jY h
theorem aE{n:Nat}(h:n≤100000):n≤sizeLine:=Nat.le_trans h (WD)
theorem ba{n:Nat}(h:n≤100000):n<sizeLine:=Nat.lt_of_le_of_lt h (WD)
def RU(t u:TS):TS:=fun D σ H=>∃Pm:St→Hp→Prop,t {D with nx:=Pm} σ H∧∀bx H',Pm bx H'→u D bx H'
theorem aC{X:Cx}{st:Stmt}{rest:List Stmt}{t u:TS}(h1:PS X st t)(h2:Ct X rest u):Ct X (st::rest) (RU t u):=by
 intro pins s σ H D I h;obtain⟨Pm,ht,hu⟩:=h;refine wpAny_execs_cons (cH (h1 pins s σ H {D with nx:=Pm} I ht) fun f s1 q=>?_);cases f with
 |next=>obtain⟨bx,H',I',p⟩:=q;exact h2 pins s1 bx H' D I' (hu bx H' p)
 |brk=>exact q
 |cont=>exact q
 |ret v=>exact q
theorem au.upd{H:Hp}{a:Addr}{o:HO}(h:H a=none):au H (upd H a o):=fun b u e=>by rw[ao (aF e h)];exact e
theorem au.eL{H H':Hp}{a:Addr}{o:HO}(s:au H H')(h:H a=none):au H (L2.upd H' a o):=fun b u e=>by rw[ao (aF e h)];exact s b u e
end L2
namespace QF
open PySem L2
theorem qf{n:Nat}{P:List Value→Prop}(h:∀a us,us.length=n→P (a::us)):∀us:List Value,us.length=n+1→P us:=fun us e=>by
 cases us with
 |nil=>cases e
 |cons a r=>exact h a r (Nat.succ.inj e)
theorem KH{P:List Value→Prop}(h:P []):∀us:List Value,us.length=0→P us:=fun us e=>by
 cases us with
 |nil=>exact h
 |cons a r=>cases e
theorem WX{P:List Value→Prop}(h:∀a,P [a]):∀us:List Value,us.length=1→P us:=qf fun a=>KH (h a)
theorem WY{P:List Value→Prop}(h:∀a b,P [a,b]):∀us:List Value,us.length=2→P us:=qf fun a=>qf fun b=>KH (h a b)
theorem WZ{P:List Value→Prop}(h:∀a b c,P [a,b,c]):∀us:List Value,us.length=3→P us:=qf fun a=>qf fun b=>qf fun c=>KH (h a b c)
theorem W0{P:List Value→Prop}(h:∀a b c d,P [a,b,c,d]):∀us:List Value,us.length=4→P us:=qf fun a=>qf fun b=>qf fun c=>qf fun d=>KH (h a b c d)
theorem W4{P:List Value→Prop}(h:∀a b c d e,P [a,b,c,d,e]):∀us:List Value,us.length=5→P us:=qf fun a=>qf fun b=>qf fun c=>qf fun d=>qf fun e=>KH (h a b c d e)
theorem W5{P:List Value→Prop}(h:∀a b c d e f,P [a,b,c,d,e,f]):∀us:List Value,us.length=6→P us:=qf fun a=>qf fun b=>qf fun c=>qf fun d=>qf fun e=>qf fun f=>KH (h a b c d e f)
theorem W6{P:List Value→Prop}(h:∀a b c d e f g,P [a,b,c,d,e,f,g]):∀us:List Value,us.length=7→P us:=qf fun a=>qf fun b=>qf fun c=>qf fun d=>qf fun e=>qf fun f=>qf fun g=>KH (h a b c d e f g)
theorem RV(us:List Value)(e:us.length=7):∃a b c d e f g,us=[a,b,c,d,e,f,g]:=W6 (P:=fun us=>∃a b c d e f g,us=[a,b,c,d,e,f,g]) (fun a b c d e f g=>⟨a,b,c,d,e,f,g,rfl⟩) us e
end QF
namespace L2
open PySem PySem.Spec PyProof.Rows PySem.W PySem.Calls
def notStar:Expr→Bool
 | .Starred _ _=>false
 | _=>true
theorem tF{e:Expr}{es:List Expr}{env:Env}(h:notStar e=true):starEach (e::es) env=(false,eval e env)::starEach es env:=by
 cases e<;>first|rfl|cases h
theorem ak{X:Cx}{e:Expr}{es:List Expr}{te:TE}{t:TA}(ha:PE X e te)(hr:PA X es t)(hn:notStar e=true:=by rfl):PA X (e::es) (IM te t):=GJ ha hr (tF hn)
structure iG(K:Frag)(x qual:Str)(st:Stmt)(f:Addr)(fd:FuncData):Prop where
 ex:∃(oc:Value)(od:Option Addr)(dV kV doc pm:Value)(an:Option Addr)(bR ct:Value)(By:Array (Option Value)),
  fd=fnOf x qual (fL st) (eQ st) (av st) dV kV doc pm an bR ct∧K.lookup f=some ⟨oc,od, .func fd,By⟩∧codeIn K bR qual=true
 kp:keepIn K (.ref f)=true
theorem BH{K:Frag}{x qual:Str}{st:Stmt}{f:Addr}{oc:Value}{od an:Option Addr}{By:Array (Option Value)}{dV kV doc pm bR ct:Value}(l:K.lookup f=some ⟨oc,od, .func (fnOf x qual (fL st) (eQ st) (av st) dV kV doc pm an bR ct),By⟩)
  (c:codeIn K bR qual=true) (k:keepIn K (.ref f)=true):iG K x qual st f (fnOf x qual (fL st) (eQ st) (av st) dV kV doc pm an bR ct):=⟨⟨oc,od,dV,kV,doc,pm,an,bR,ct,By,rfl,l,c⟩,k⟩
section
variable{P:Program}{w:World}{K:Frag}{mg:Str→Option Value}{base:Heap}
theorem iG.gk{cm:Bool}{x qual:Str}{st:Stmt}{f:Addr}{fd:FuncData}{N ps:List Str}{k:Nat}{sp:Sp}(F:iG K x qual st f fd)(S:aL N ps (av st))(len:∀vs H Q E,sp vs H Q E→vs.length=ps.length)
  (yC:∀(bR:Value)(A:Around)(outer:List Env)(s:Shared)(H:Hp)(vs:List V)(Q:VK)(E:XK),eZ cm k (A.deeper (ε qual (av st) f bR))→sp vs H Q E→
   PM (P7 P w K mg base cm N qual (av st) f bR A outer s H E) (fun _=>E)→
   ∃t,Ct (P7 P w K mg base cm N qual (av st) f bR A outer s H E) (eQ st) t∧t {nx:=fun _ H'=>Q .cS H',rt:=Q} (start N vs) H):a8 P w K mg base (cV P w) cm (k+1) f fd ps sp:=by
 obtain⟨oc,od,dV,kV,doc,pm,an,bR,ct,By,rfl,lk,Cu⟩:=F.ex;exact IQ lk Cu S len fun A outer s H vs Q E hr Gk=>yC bR A outer s H vs Q E hr Gk BE
end
def eM(P:Program)(w:World)(K:Frag)(mg:Str→Option Value)(base:Heap)(cm:Bool)(k:Nat)(C:Addr)(m:Str)(ps:List Str)(sp:Sp):Prop:=
 ∃f fd,a8 P w K mg base (cV P w) cm k f fd ps sp∧Meth K C m f∧Binds K fd ps []∧wA K C
def m6(P:Program)(w:World)(K:Frag)(mg:Str→Option Value)(base:Heap)(cm:Bool)(k:Nat)(x:Str)(C:Addr)(ps:List Str)(mB:List V)(sp:Sp):Prop:=
 ∃f fd ds,a8 P w K mg base (cV P w) cm k f fd ps sp∧Mk K C f∧mg x=some (.ref C)∧Binds K fd ps ds∧Vals mB ds
theorem yK{P:Program}{w:World}{K:Frag}{mg:Str→Option Value}{base:Heap}{cm:Bool}{k:Nat}{x:Str}{C f:Addr}{fd:FuncData}{ps:List Str}{mB:List V}{ds:List Value}{sp:Sp}(h1:a8 P w K mg base (cV P w) cm k f fd ps sp)(h2:Mk K C f)(h3:mg x=some (.ref C))(h4:Binds K fd ps ds)(h5:Vals mB ds):m6 P w K mg base cm k x C ps mB sp:=⟨f,fd,ds,h1,h2,h3,h4,h5⟩
theorem CS{P:Program}{w:World}{K:Frag}{mg:Str→Option Value}{base:Heap}{cm:Bool}{k:Nat}{m:Str}{C f:Addr}{fd:FuncData}{ps:List Str}{sp:Sp}(h1:a8 P w K mg base (cV P w) cm k f fd ps sp)(h2:Meth K C m f)(h3:Binds K fd ps [])(h4:wA K C):eM P w K mg base cm k C m ps sp:=⟨f,fd,h1,h2,h3,h4⟩
section
variable{X:Cx}{cm:Bool}{k:Nat}{x m:Str}{ps:List Str}{sp:Sp}{E:St→XK}{e o:Expr}{es:List Expr}{t:TA}{to:TE}{p pos apos:Pos}{C:Addr}{mB:List V}
theorem sL(D:m6 X.prog X.w X.K X.mg X.base cm k x C ps mB sp)(hr:eZ cm (k+1) X.A)(hx:Passes (cV X.prog X.w) X E)(ha:PA X (e::es) t)(hg:Gl X x:=by rfl)(wB:(x==("__debug__":Str))=false:=by decide)
  (he:starEach (e::es) X.env=(false,eval e X.env)::starEach es X.env:=by rfl) (rB:(backTo pos (starEach es X.env)).any (·.1)=false:=by rfl):PE X (.Call (.Name x p) (e::es) [] pos) (Bx C sp mB E t):=by
 obtain⟨f,fd,ds,ok,M,hm,hb,hd⟩:=D;exact GN M ok hr hg hm hb hd hx ha wB he rB
theorem bN{pl:Sem Bool}(ho:PE X o to)(D:eM X.prog X.w X.K X.mg X.base cm k C m ps sp)(hr:eZ cm k X.A)(hx:Passes (cV X.prog X.w) X E)(ha:PA X (e::es) t)
  (mz:starEach (e::es) X.env=(false,eval e X.env)::starEach es X.env:=by rfl) (rB:(backTo pos (starEach es X.env)).any (·.1)=false:=by rfl)
  (ht:eval (.Call (.Attribute o m apos) (e::es) [] pos) X.env=(do
   let ov←eval o X.env
   standAt apos.atName
   let (f,first)←holding [ov] (getMethod ov m pl)
   callWith pos f first (backTo pos (starEach (e::es) X.env)) (backToKw pos (keywordEach [] X.env))):=by rfl):PE X (.Call (.Attribute o m apos) (e::es) [] pos) (Bw C m sp [] E to t):=by
 obtain⟨f,fd,ok,hm,hb,c⟩:=D;exact GL ho c hm ok hr hb .nil hx ha mz rB ht
theorem CU{pl:Sem Bool}(ho:PE X o to)(D:eM X.prog X.w X.K X.mg X.base cm k C m ps sp)(hr:eZ cm k X.A)(hx:Passes (cV X.prog X.w) X E)
  (ht:eval (.Call (.Attribute o m apos) [] [] pos) X.env=(do
   let ov←eval o X.env
   standAt apos.atName
   let (f,first)←holding [ov] (getMethod ov m pl)
   callWith pos f first (backTo pos (starEach [] X.env)) (backToKw pos (keywordEach [] X.env))):=by rfl):PE X (.Call (.Attribute o m apos) [] [] pos) (Bw C m sp [] E to Ed):=by
 obtain⟨f,fd,ok,hm,hb,c⟩:=D;exact Ef ho c hm ok hr hb .nil hx ht
end
section
variable{X:Cx}
theorem aZ(K:Frag){tg l:Expr}{tl:TE}(hl:PE X l tl)(h:X.K=K:=by rfl):PI X tg l (IJ K tl):=h▸GD hl
theorem aD(K:Frag){e:Expr}{f:Str}{pos:Pos}{ta:TE}(he:PE X e ta)(hb:attributeBase e f X.env (eval e X.env)=eval e X.env:=by rfl)(h:X.K=K:=by rfl):PE X (.Attribute e f pos) (Nr K ta f):=h▸Kb he hb
theorem cj(K:Frag){o value:Expr}{f:Str}{pos pos':Pos}{ta tv:TE}(ha:PE X o ta)(hv:PE X value tv)(hs:swapsWith value (some (.Attribute o f pos')) pos.line X.env=pure false:=by rfl)(h:X.K=K:=by rfl):PS X (.Assign [.Attribute o f pos'] value pos) (Nt K ta tv f):=h▸Kc ha hv hs
theorem aq(K:Frag)(h:X.K=K:=by rfl):Mf X (Kk K):=h▸GX
theorem bj(K:Frag)(h:X.K=K:=by rfl):Mf X (Kl K):=h▸Km
theorem kf(K:Frag)(h:X.K=K:=by rfl):PF X (Ko K):=h▸GY
inductive Jb(K:Frag)(xs:List V)(H:Hp)(Q:VK):Prop
 |mk (p:_) (ys:_) (_:xs=[.ref p]) (_:(iK K H p ys∨D6 K H p ys)) (_:Q (.int ys.length) H):Jb K xs H Q
theorem aK(K:Frag)(h:X.K=K:=by rfl):ir X (.builtin "len") (Jb K):=by
 subst h;intro pins s σ H xs us Q I r hq;obtain⟨p,ys,e,d,q⟩:=hq;exact wJ pins s σ H xs us Q I r ⟨p,ys,e,d,q⟩
inductive BI(K:Frag)(xs:List V)(H:Hp)(Q:VK):Prop
 |mk (p:_) (ys:_) (_:xs=[.ref p]) (_:(iK K H p ys∨D6 K H p ys)) (_:∀l,H l=none→Q (.ref l) (upd H l (.lst ys))):BI K xs H Q
theorem hJ(K:Frag)(h:X.K=K:=by rfl):ir X (.type "list") (BI K):=by
 subst h;intro pins s σ H xs us Q I r hq;obtain⟨p,ys,e,d,q⟩:=hq;exact wK pins s σ H xs us Q I r ⟨p,ys,e,d,q⟩
theorem CV(K:Frag)(hc:X.calm=true)(h:X.K=K:=by rfl):ir X (.builtin "all") (G_ K fun bs=>bs.all id):=h▸EC hc
theorem CW(K:Frag)(hc:X.calm=true)(h:X.K=K:=by rfl):ir X (.builtin "any") (G_ K fun bs=>bs.any id):=h▸ED hc
theorem ja(K:Frag)(h:X.K=K:=by rfl):ir X (.builtin "isinstance") (KG K):=h▸EE
theorem gm(K:Frag){es:List Expr}{k:Nat}{t:IH}{n:Nat}{pos:Pos}(hc:X.calm=true)(h:Ng X es t)
  (hn:(assignEach es X.env).length=n:=by rfl) (mz:(assignEach es X.env).findIdx? (·.1)=none:=by rfl) (hK:X.K=K:=by rfl):PG X (.Tuple es k pos) (J5 K n t):=hK▸J6 hc h hn mz
theorem eO(K:Frag){T:String}{name:Str}{id:String}{r:V→List V→Hp→VK→Prop}{o e:Expr}{es:List Expr}{apos eK:Pos}{to:TE}{t:TA}(pa:PlainAttrs T)(slot:Slot T name id)(DM:typeOf (.builtin id)=pure (.type "method_descriptor"))(hm:PH X id r)(ho:PE X o to)(ha:PA X (e::es) t)
  (oI:attributeBase o name X.env (eval o X.env)=eval o X.env:=by rfl)
  (CL:((backTo eK (starEach (e::es) X.env)).all (fun x=>!x.1)&&(backToKw eK (keywordEach [] X.env)).all (fun x=>x.1.isSome)
   &&decide ((e::es).length+([]:List Keyword).length+(if ([]:List Keyword).isEmpty then 0 else 1)<30))=true:=by rfl)
  (oJ:(apos.endLine==eK.line)=true:=by rfl) (hs:starEach (e::es) X.env=(false,eval e X.env)::starEach es X.env:=by rfl) (Ah:(backTo eK (starEach es X.env)).any (·.1)=false:=by rfl) (hK:X.K=K:=by rfl):
  PE X (.Call (.Attribute o name apos) (e::es) [] eK) (UA K T r to t):=hK▸ND pa slot DM hm ho ha oI CL oJ hs Ah
end
section
variable{X:Cx}
end
end L2
namespace QF
open PySem L2
structure TB(mg:Str→Option Value):Prop where
 cK:mg "len"=none
 dh:mg "range"=none
 fB:mg "isinstance"=none
 BJ:mg "int"=none
 KI:mg "bool"=none
 UJ:mg "str"=none
 nF:mg "list"=none
 Ha:mg "tuple"=none
 RW:mg "dict"=none
 NZ:mg "all"=none
 N0:mg "any"=none
 EG:mg "min"=none
 Jc:mg "max"=none
 jE:mg "enumerate"=none
 Hb:mg "ValueError"=none
def Ec(mg:Str→Option Value)(x:Str)(v:V):Prop:=∃u,mg x=some u∧RelV v u
def cell(ns:List Int)(k:Int):Int:=ns.getD k.toNat 0
theorem He{ns:List Int}{k:Int}(h0:0≤k)(h:k<(ns.length:Int)):rV (ns.map V.int) k=some (.int (cell ns k)):=by
 obtain⟨j,rfl⟩:=Int.eq_ofNat_of_zero_le h0;have hj:j<ns.length:=by lia
 refine ar ?_;simp[cell,hj]
theorem cell_out{ns:List Int}{k:Int}(h0:0≤k)(h:¬k<(ns.length:Int)):cell ns k=0:=by
 have hj:ns.length≤k.toNat:=by lia
 simp[cell,hj]
def low(c:Nat):Bool:=decide (97≤c)&&decide (c≤122)
def tG(z:Str):Bool:=decide (1≤z.length)&&decide (z.length≤12)&&z.cps.toList.all low
theorem UK(a b:Nat):(([a]:List Nat)<[b])↔a<b:=by
 constructor
 ·intro h;cases h with
  |rel h=>exact h
  |cons h=>cases h
 ·intro h;exact .rel h
theorem RX(c:Nat):(!decide (([c]:List Nat)<(Str.ofString "a").cps.toList))=decide (97≤c):=by
 have e:(Str.ofString "a").cps.toList=[97]:=by decide+kernel
 rw[e,Bool.eq_iff_iff];simp only[Bool.not_eq_true',decide_eq_false_iff_not,decide_eq_true_eq,UK]
 lia
theorem RY(c:Nat):(!decide ((Str.ofString "z").cps.toList<([c]:List Nat)))=decide (c≤122):=by
 have e:(Str.ofString "z").cps.toList=[122]:=by decide+kernel
 rw[e,Bool.eq_iff_iff];simp only[Bool.not_eq_true',decide_eq_false_iff_not,decide_eq_true_eq,UK]
 lia
theorem len_app(x y:Str):(x++y).length=x.length+y.length:=by
 show(x.cps++y.cps).size=_;rw[Array.size_append];rfl
inductive EH(K:W.Frag)(vs:List V)(H:Hp)(Q:VK)(u3:XK):Prop
 |mk (a:_) (ns:_) (k:_) (_:vs=[.ref a, .int k]) (_:iK K H a (ns.map V.int)) (_:0≤k) (_:Q (.int (cell ns k)) H):EH K vs H Q u3
inductive tH(vs:List V)(H:Hp)(Q:VK)(u3:XK):Prop
 |mk (i:_) (_:vs=[.int i]) (_:Q (.bl true) H):tH vs H Q u3
inductive Aq(vs:List V)(H:Hp)(Q:VK)(u3:XK):Prop
 |mk (c:Nat) (_:vs=[.str ⟨#[c]⟩]) (_:Q (.bl (low c)) H):Aq vs H Q u3
inductive wR(vs:List V)(H:Hp)(Q:VK)(u3:XK):Prop
 |mk (z:Str) (_:vs=[.str z]) (_:z.length≤100000) (_:∀H',au H H'→Q (.bl (tG z)) H'):wR vs H Q u3
inductive nG(vs:List V)(H:Hp)(Q:VK)(u3:XK):Prop
 |mk (l n h:Int) (_:vs=[.int l, .int n, .int h]) (_:Q (.bl (decide (l≤n)&&decide (n≤h))) H):nG vs H Q u3
def BK(K:W.Frag):Sp:=fun vs H Q _=>∃(a:Addr)(ns:List Int),vs=[.ref a]∧iK K H a (ns.map V.int)∧ns.length≤63∧∀H',Q (.bl true) H'
structure Er(K:W.Frag)(mg:Str→Option Value)(x:Str)(C:Addr):Prop where
 m:mg x=some (.ref C)
 e:NN K C
def inR(l n h:Int):Bool:=decide (l≤n)&&decide (n≤h)
inductive qv(C:Addr)(vs:List V)(H:Hp)(Q:VK)(E:XK):Prop
 |mk (nm:Str) (n l h:Int) (_:vs=[.str nm, .int n, .int l, .int h]) (_:nm.length≤20) (_:(0≤l∧l≤1)) (_:(h=100∨h=999999)) (_:(if inR l n h=true then Q .cS H else E (.ref C) none H)):qv C vs H Q E
theorem oP{i:Int}(h:i=0∨i=1∨i=12∨i=40∨i=60∨i=100∨i=999999):i.natAbs.log2<1920∧(Str.ofString (toString i)).length≤6:=by
 rcases h with rfl|rfl|rfl|rfl|rfl|rfl|rfl<;>exact⟨by decide+kernel,by decide+kernel⟩
theorem mE:(Str.empty).length=0:=by decide+kernel
theorem iy{x:V}:[x].length≤sizeLine:=aE Xs
def iH(x y:Str)(p:Int):Bool:=tG x&&tG y&&!(x==y)&&inR 0 p 999999
inductive wU(C:Addr)(vs:List V)(H:Hp)(Q:VK)(E:XK):Prop
 |mk (x y:Str) (p:Int) (_:vs=[.str x, .str y, .int p]) (_:x.length≤100000) (_:y.length≤100000) (_:(if iH x y p=true then ∀H',au H H'→Q .cS H' else ∀H',au H H'→E (.ref C) none H')):wU C vs H Q E
abbrev Form:=Str×Str×Int
def KJ(f:Form):List V:=[.str f.1, .str f.2.1, .int f.2.2]
def lE(f:Form):List Key:=[.inr f.1, .inr f.2.1]
def lN(f:Form):List Key×V:=(lE f, .int f.2.2)
def DN(f:Form):Bool:=iH f.1 f.2.1 f.2.2
def dX(H:Hp)(xs:List V)(fs:List Form):Prop:=xs.length=fs.length∧∀(i:Nat)(f:Form),fs[i]?=some f→∃t,xs[i]?=some (V.ref t)∧H t=some (.tup (KJ f))
def bO(fs:List Form):Bool:=decide (fs.length≤60)&&fs.all DN&&decide ((fs.map lE).Nodup)
def Short(fs:List Form):Prop:=fs.length≤1000∧∀f∈fs,f.1.length≤100000∧f.2.1.length≤100000
theorem dX.same{H H':Hp}{xs:List V}{fs:List Form}(t:dX H xs fs)(s:au H H'):dX H' xs fs:=⟨t.1,fun i f e=>let ⟨b,h1,h2⟩:=t.2 i f e;⟨b,h1,s _ _ h2⟩⟩
theorem dX.nil{H:Hp}:dX H [] []:=⟨rfl,fun i f e=>by simp at e⟩
inductive qw(C:Addr)(vs:List V)(H:Hp)(Q:VK)(E:XK):Prop
 |mk (a:Addr) (xs:List V) (fs:List Form) (_:vs=[.ref a]) (_:H a=some (.lst xs)) (_:dX H xs fs) (_:Short fs) (_:(if bO fs=true then ∀H' d,au H H'→H d=none→H' d=some (.dT (fs.map lN))→Q (.ref d) H' else ∀H',au H H'→E (.ref C) none H')):qw C vs H Q E
theorem BL(fs:List Form):(fs.map lN).map (·.1)=fs.map lE:=by rw[List.map_map];rfl
theorem EI{fs:List Form}{i:Nat}{f:Form}(e:fs[i]?=some f)(h:DN f=false):bO fs=false:=by
 have hm:f∈fs:=ZS e;have:fs.all DN=false:=by
  rw[Bool.eq_false_iff];intro z;rw[List.all_eq_true]at z;rw[z f hm]at h;cases h
 simp[bO,this]
theorem CY{fs:List Form}{i:Nat}{f:Form}(e:fs[i]?=some f)(h:lE f∈(fs.take i).map lE):bO fs=false:=by
 have:¬(fs.map lE).Nodup:=fun z=>by
  obtain⟨hi,e'⟩:=ZF e;have e2:fs=fs.take i++f::fs.drop (i+1):=by
   rw[←e',List.getElem_cons_drop,List.take_append_drop]
  rw[e2,List.map_append,List.map_cons,List.nodup_append]at z;exact z.2.2 _ h _ (List.mem_cons_self) rfl
 simp[bO,this]
theorem CZ{fs:List Form}{i:Nat}{f:Form}(e:fs[i]?=some f):(fs.take (i+1)).map lN=(fs.take i).map lN++[lN f]:=by
 rw[List.take_succ,e,List.map_append];rfl
theorem N1{fs:List Form}{k:List Key}(h:bE (fs.map lN) k=none):k∉fs.map lE:=by
 have:=yJ h;rwa[BL]at this
theorem KL{fs:List Form}{k:List Key}{v:V}(h:bE (fs.map lN) k=some v):k∈fs.map lE:=by
 have:=BD h;rwa[BL]at this
structure EJ(K:W.Frag)(C:Addr):Prop where
 cl:wA K C
 same:bY K C "same"
 out:bY K C "out"
 into:bY K C "into"
 least:bY K C "least"
 part:bY K C "part"
 near:bY K C "near"
 EK:bY K C "prices"
structure Nums where
 same:Int
 out:Int
 into:Int
 least:Int
 part:Int
def jk(n:Nums):Bool:=inR 1 n.same 999999&&inR 0 n.out 999999&&inR 0 n.into 999999&&inR 1 n.least 999999&&inR 1 n.part 100
def wV(n:Nums)(l d:Addr):List (Str×V):=[("same", .int n.same),("out", .int n.out),("into", .int n.into),("least", .int n.least),("part", .int n.part),("near", .ref l),("prices", .ref d)]
def m7(n:Nums):List (Str×V):=[("same", .int n.same),("out", .int n.out),("into", .int n.into),("least", .int n.least),("part", .int n.part)]
def SameBut(x:Addr)(H H':Hp):Prop:=∀b u,b≠x→H b=some u→H' b=some u
structure kM(H:Hp)(C x:Addr)(n:Nums)(fs:List Form)(dx l d:Addr)(xs:List V):Prop where
 ob:H x=some (.ins C dx (wV n l d))
 own:H dx=some (.own x)
 li:H l=some (.lst xs)
 tr:dX H xs fs
 di:H d=some (.dT (fs.map lN))
def N2(H:Hp)(v:V)(xs:List V)(fs:List Form):Prop:=(v= .cS∧xs=[]∧fs=[])∨∃a,v= .ref a∧H a=some (.lst xs)∧dX H xs fs
inductive sM(C CT CN:Addr)(vs:List V)(H:Hp)(Q:VK)(E:XK):Prop
 |mk (x dx:Addr) (n:Nums) (nv:V) (xs:List V) (fs:List Form) (_:vs=[.ref x, .int n.same, .int n.out, .int n.into, .int n.least, .int n.part,nv]) (_:H x=some (.ins C dx [])) (_:H dx=some (.own x)) (_:N2 H nv xs fs) (_:Short fs) (_:(if jk n=true then(if bO fs=true then ∀H' l d,SameBut x H H'→kM H' C x n fs dx l d xs→H l=none→H d=none→Q .cS H' else ∀H',SameBut x H H'→E (.ref CN) none H')else ∀H',SameBut x H H'→E (.ref CT) none H')):sM C CT CN vs H Q E
theorem RZ(n:Nums):bu "part" (.int n.part) (bu "least" (.int n.least) (bu "into" (.int n.into) (bu "out" (.int n.out) (bu "same" (.int n.same) []))))=m7 n:=by kernel_rfl
theorem R0(n:Nums)(l d:Addr):bu "prices" (.ref d) (bu "near" (.ref l) (m7 n))=wV n l d:=by kernel_rfl
theorem N3(n:Nums)(l:Addr):(bu "near" (.ref l) (m7 n)).lookup ("near":Str)=some (V.ref l):=by kernel_rfl
theorem SameBut.refl{x:Addr}{H:Hp}:SameBut x H H:=fun _ _ _ h=>h
theorem SameBut.upd{x:Addr}{H H':Hp}{o:HO}(s:SameBut x H H'):SameBut x H (upd H' x o):=fun b u n h=>by rw[ao n];exact s b u n h
theorem SameBut.same{x:Addr}{H H' H2:Hp}(s:SameBut x H H')(t:au H' H2):SameBut x H H2:=fun b u n h=>t b u (s b u n h)
theorem SameBut.laid{x a:Addr}{H H':Hp}{o:HO}(s:SameBut x H H')(h:H a=none):SameBut x H (L2.upd H' a o):=fun b u n e=>by rw[ao (aF e h)];exact s b u n e
theorem SameBut.free{x l:Addr}{H H':Hp}{o:HO}(s:SameBut x H H')(hx:H' x=some o)(h:H' l=none):H l=none:=by
 cases e:H l with
 |none=>rfl
 |some u=>
  have n:l≠x:=fun z=>by rw[z,hx]at h;cases h
  rw[s l u n e]at h;cases h
theorem dX.but{x:Addr}{H H':Hp}{xs:List V}{fs:List Form}{C dx:Addr}{gs:List (Str×V)}(t:dX H xs fs)(s:SameBut x H H')(hx:H x=some (.ins C dx gs)):dX H' xs fs:=
 ⟨t.1,fun i f e=>let ⟨b,h1,h2⟩:=t.2 i f e;⟨b,h1,s _ _ (fun z=>by rw[z,hx]at h2;cases h2) h2⟩⟩
def fl(j:Nat):List V:=[.bl (decide (0=j)), .bl (decide (1=j)), .bl (decide (2=j)), .bl (decide (3=j)), .bl (decide (4=j)), .bl (decide (5=j)), .bl (decide (6=j)), .bl (decide (7=j)), .bl (decide (8=j)), .bl (decide (9=j)), .bl (decide (10=j)), .bl (decide (11=j)), .bl (decide (12=j)), .bl (decide (13=j))]
def kinds:List Str:=["word","book","terms","near","way","name","year","taken","full","many","no book","no finding","left","search","another"]
def kindOf(j:Nat):Str:=kinds.getD j ""
theorem int_at(is:List Int){i:Int}(h0:0≤i)(h:i<(is.length:Int)):∃m,m∈is∧rV (is.map V.int) i=some (.int m):=by
 obtain⟨j,rfl⟩:=Int.eq_ofNat_of_zero_le h0;have hj:j<is.length:=by lia
 exact⟨is[j],List.getElem_mem hj,ar (by simp[hj])⟩
theorem EL(n:Nums)(l d:Addr):(wV n l d).lookup ("same":Str)=some (V.int n.same):=by kernel_rfl
theorem l_out(n:Nums)(l d:Addr):(wV n l d).lookup ("out":Str)=some (V.int n.out):=by kernel_rfl
theorem KN(n:Nums)(l d:Addr):(wV n l d).lookup ("into":Str)=some (V.int n.into):=by kernel_rfl
theorem Hf(n:Nums)(l d:Addr):(wV n l d).lookup ("least":Str)=some (V.int n.least):=by kernel_rfl
theorem EM(n:Nums)(l d:Addr):(wV n l d).lookup ("prices":Str)=some (V.ref d):=by kernel_rfl
theorem wX(n:Nums)(l d:Addr):(wV n l d).lookup ("pair_worth":Str)=none:=by kernel_rfl
end QF
namespace L2
open PySem PySem.Spec PyProof.Rows PySem.W PySem.Calls
section
variable{X:Cx}
inductive N4(K:Frag)(x:V)(y:V)(H:Hp)(Q:VK):Prop
 |mk (p:_) (q:_) (xs:_) (_:x= .ref p) (_:y= .ref q) (_:iK K H p xs) (_:iK K H q []) (_:Q (.bl (!xs.isEmpty)) H):N4 K x y H Q
theorem tI(K:Frag)(hu:X.A.units<cLine)(hK:X.K=K:=by rfl):rz X (compareOp .NotEq) (N4 K):=by
 subst hK;intro pins s σ H x y v u Q I rx ry h;obtain⟨p,q,xs,rfl,rfl,hp,hq,k⟩:=h;cases rx;cases ry;obtain⟨its,r,pl,hz⟩:=I.list hp;obtain⟨e6,r2,KO,Gm⟩:=I.list hq;cases r2;obtain⟨⟨cls,dd,data,sl⟩,ho,hc,n,hd⟩:=id pl.isList;obtain⟨⟨N5,Hg,data2,zK⟩,As,wN,n2,hd2⟩:=id KO.isList;simp only at hc hd wN hd2;subst hc hd wN hd2;by_cases e:its=[]
 ·subst e;cases r;refine richCompare_meets_room (op:= .NotEq) ⟨_,ho,rfl⟩ ⟨_,As,rfl⟩ F.slot_list_ne F.entry_list_ne (F.args_list_ne_2 _ _) (SeqAt.list_neAt p q #[] #[] n n2 dd Hg sl zK rfl (fun _=>true)) ⟨ho,As,fun j h1 _=>absurd h1 Xs,?_⟩ hu;exact⟨(fun x=>nomatch x), .bl false,H,I,rfl,k⟩
 ·have hx:xs≠[]:=fun z=>by subst z;cases r;exact e rfl
  have hsz:(its.toArray.size !=(#[]:Array Value).size)=true:=by simpa using e
  refine richCompare_meets_room (op:= .NotEq) ⟨_,ho,rfl⟩ ⟨_,As,rfl⟩ F.slot_list_ne F.entry_list_ne (F.args_list_ne_2 _ _) (SeqAt.list_ne_lengthsAt p q its.toArray #[] n n2 dd Hg sl zK hsz) ⟨ho,As,?_⟩ hu;have:(!xs.isEmpty)=true:=by simpa using hx
  rw[this]at k;exact⟨(fun x=>nomatch x), .bl true,H,I,rfl,k⟩
end
end L2
namespace QF
open PySem L2
theorem UL{α:Type}{xs:List α}{i:Nat}{v:α}(h:xs[i]?=some v):rV xs (0+(i:Int))=some v:=by
 rw[Int.zero_add];exact ar h
def d7(fs:List Form)(x y:Str):Option Int:=(fs.find? fun f=>decide (f.1=x∧f.2.1=y)).map (·.2.2)
def dj(same:Int)(fs:List Form)(x y:Str):Option Int:=if x=y then some same else(d7 fs x y).map (same-·)
def bB:Option Int→V
 |none=> .cS
 |some i=> .int i
theorem wY(f:Form)(x y:Str):lE f=[.inr x, .inr y]↔f.1=x∧f.2.1=y:=by simp[lE]
theorem vU(x y:Str):∀fs:List Form,bE (fs.map lN) [.inr x, .inr y]=(d7 fs x y).map V.int
 |[]=>rfl
 |f::r=>by
  rw[List.map_cons];by_cases h:lE f=[.inr x, .inr y]
  ·have h':=(wY f x y).mp h;rw[cI (show(lN f).1=_ from h)];simp[d7,List.find?_cons,h'.1,h'.2,lN]
  ·have h':¬(f.1=x∧f.2.1=y):=fun z=>h ((wY f x y).mpr z)
   rw[cy (show ¬(lN f).1=_ from h),vU x y r];simp[d7,List.find?_cons,h']
inductive wZ(C:Addr)(vs:List V)(H:Hp)(Q:VK)(u3:XK):Prop
 |mk (t:Addr) (x y:Str) (n:Nums) (fs:List Form) (dx l d:Addr) (xs:List V) (_:vs=[.ref t, .str x, .str y]) (_:kM H C t n fs dx l d xs) (_:∀H',au H H'→Q (bB (dj n.same fs x y)) H'):wZ C vs H Q u3
abbrev N6:Str:=Str.ofString "abcdefghijklmnopqrstuvwxyz"
theorem Hh:N6.length=26:=by decide+kernel
theorem Au(zs:List Str){i:Int}(h0:0≤i)(h:i<(zs.length:Int)):∃m,m∈zs∧rV (zs.map V.str) i=some (.str m):=by
 obtain⟨j,rfl⟩:=Int.eq_ofNat_of_zero_le h0;have hj:j<zs.length:=by lia
 exact⟨zs[j],List.getElem_mem hj,ar (by simp[hj])⟩
theorem oQ(x y:Str):(x++y).cps.toList=x.cps.toList++y.cps.toList:=by
 show(x.cps++y.cps).toList=_;simp
def dW(H H':Hp):Prop:=∀t v,H t=some (.tup v)→H' t=some (.tup v)
theorem dW.same{H H':Hp}(s:au H H'):dW H H':=fun t v h=>s _ _ h
theorem dW.lst{H:Hp}{l:Addr}{xs:List V}{o:HO}(h:H l=some (.lst xs)):dW H (upd H l o):=fun t v e=>by
 rw[ao (jf e h (by intro z;cases z))];exact e
theorem dX.cF{H H':Hp}{xs:List V}{fs:List Form}(T:dX H xs fs)(k:dW H H'):dX H' xs fs:=⟨T.1,fun i f e=>let ⟨b,h1,h2⟩:=T.2 i f e;⟨b,h1,k _ _ h2⟩⟩
theorem dX.snoc{H:Hp}{xs:List V}{fs:List Form}{t:Addr}{f:Form}(T:dX H xs fs)(ht:H t=some (.tup (KJ f))):dX H (xs++[.ref t]) (fs++[f]):=by
 refine⟨by simp[T.1],fun i g e=>?_⟩;by_cases h:i<fs.length
 ·rw[Ι h]at e;obtain⟨b,h1,h2⟩:=T.2 i g e;exact⟨b,by rw[Ι (by rw[T.1];exact h)];exact h1,h2⟩
 ·have hi:i=fs.length:=by
   have:=(ZF e).1;simp at this
   lia
  subst hi;have hg:f=g:=by simpa using e
  subst hg;exact⟨t,by rw[←T.1];simp,ht⟩
theorem Hi{n j:Nat}(h:j<n):Eo n (j:Int)=some j:=by
 unfold Eo;rw[Z1 IL,Z1 IL];simp
theorem Hj:N6.cps.toList=(Zv 26).map (97+·):=by decide+kernel
theorem EN{r:Int}:rV N6.cps.toList (r%26)=some (97+(r%26).toNat):=by
 have h0:0≤r%26:=by lia
 have h1:r%26<26:=by lia
 generalize r%26=m at h0 h1;obtain⟨j,rfl⟩:=Int.eq_ofNat_of_zero_le h0;refine ar ?_;have hj:j<26:=by lia
 rw[Hj];simp[hj]
theorem BM(r:Int):low (97+(r%26).toNat)=true:=by
 have h1:(r%26).toNat≤25:=by lia
 simp[low]
 lia
def lows(z:Str):Prop:=z.cps.toList.all low=true
def kg(bT:Str)(cell other:Int)(k:Nat):Str:=
 let size:=1+cell/2%12
 if cell%2=1 then Txt.slice bT none (some (1+(size+k)%12))
 else Txt.slice bT none (some (other%size))++⟨#[97+((other/12+k)%26).toNat]⟩++Txt.slice bT (some (other%size+1)) (some size)
theorem kN{n d:Nat}{v:Int}(h0:0≤v)(h:v≤n):HT.jX n d (some v)=v.toNat:=by
 simp only[HT.jX];split<;>lia
theorem lO{z:Str}{v:Int}(h0:0≤v)(h:v≤z.length):(Txt.slice z none (some v)).cps.toList=z.cps.toList.take v.toNat:=by
 rw[vR,kN h0 h,HT.Em];simp
theorem EO{z:Str}{u v:Int}(h0:0≤u)(h1:u≤v)(h:v≤z.length):(Txt.slice z (some u) (some v)).cps.toList=(z.cps.toList.drop u.toNat).take (v.toNat-u.toNat):=by
 rw[vR,kN h0 IL,kN IL h]
theorem len_list(z:Str):z.cps.toList.length=z.length:=by simp[Str.length]
theorem ER{z:Str}(h1:1≤z.length)(h2:z.length≤12)(h:lows z):tG z=true:=by
 have h:z.cps.toList.all low=true:=h;simp[tG,h1,h2,h]
theorem ES{bT:Str}(hl:bT.length=12)(hs:lows bT)(cell other:Int)(k:Nat):tG (kg bT cell other k)=true:=by
 have m8:=List.all_eq_true.mp hs;have Mi:=len_list bT;have z0:1≤1+cell/2%12∧1+cell/2%12≤12:=by lia
 unfold kg;simp only;generalize 1+cell/2%12=size at z0;split
 ·have z1:1≤1+(size+(k:Int))%12∧1+(size+(k:Int))%12≤12:=by lia
  generalize 1+(size+(k:Int))%12=m at z1;have e:=lO (z:=bT) (v:=m) (by lia) (by lia);have el:(Txt.slice bT none (some m)).length=m.toNat:=by rw[←len_list,e,List.length_take,Mi];lia
  refine ER IL (by lia) ?_;unfold lows;rw[e,List.all_eq_true];exact fun c hc=>m8 c (List.mem_of_mem_take hc)
 ·have z1:0≤other%size∧other%size<size:=⟨Int.emod_nonneg _ (by lia),Int.emod_lt_of_pos _ (by lia)⟩
  generalize other%size=jz at z1;have e1:=lO (z:=bT) (v:=jz) (by lia) (by lia);have e2:=EO (z:=bT) (u:=jz+1) (v:=size) (by lia) (by lia) (by lia);have l1:(Txt.slice bT none (some jz)).length=jz.toNat:=by rw[←len_list,e1,List.length_take,Mi];lia
  have l2:(Txt.slice bT (some (jz+1)) (some size)).length=size.toNat-(jz+1).toNat:=by rw[←len_list,e2,List.length_take,List.length_drop,Mi];lia
  have el:(Txt.slice bT none (some jz)++(⟨#[97+((other/12+(k:Int))%26).toNat]⟩:Str)++Txt.slice bT (some (jz+1)) (some size)).length=size.toNat:=by
   rw[len_app,len_app,l1,l2];show jz.toNat+1+_=_
   lia
  refine ER IL (by lia) ?_;unfold lows;rw[oQ,oQ,e1,e2,List.all_append,List.all_append];have a1:(bT.cps.toList.take jz.toNat).all low=true:=List.all_eq_true.mpr fun c hc=>m8 c (List.mem_of_mem_take hc)
  have a2:((bT.cps.toList.drop (jz+1).toNat).take (size.toNat-(jz+1).toNat)).all low=true:=List.all_eq_true.mpr fun c hc=>m8 c (List.mem_of_mem_drop (List.mem_of_mem_take hc))
  have a3:=BM (other/12+(k:Int));rw[a1,a2];simp[a3]
theorem KP{A B:List Nat}{c:Nat}:(A++[c]++B)[A.length]?=some c:=XU
theorem ET{bT:Str}(hl:bT.length=12)(cell other:Int){k k':Nat}(hk:k<12)(EU:k'<12)(e:kg bT cell other k=kg bT cell other k'):k=k':=by
 have Mi:=len_list bT;have z0:1≤1+cell/2%12∧1+cell/2%12≤12:=by lia
 unfold kg at e;simp only at e;generalize 1+cell/2%12=size at z0 e;split at e
 ·have e:=congrArg (fun z:Str=>z.cps.toList.length) e;rw[lO IL (by lia),lO IL (by lia),List.length_take,List.length_take,Mi,hl]at e
  lia
 ·have z1:0≤other%size∧other%size<size:=⟨Int.emod_nonneg _ (by lia),Int.emod_lt_of_pos _ (by lia)⟩
  generalize other%size=jz at z1 e;have e1:=lO (z:=bT) (v:=jz) (by lia) (by lia);have l1:(bT.cps.toList.take jz.toNat).length=jz.toNat:=by rw[List.length_take,Mi];lia
  have at_:∀c:Nat,(Txt.slice bT none (some jz)++(⟨#[c]⟩:Str)++Txt.slice bT (some (jz+1)) (some size)).cps.toList[jz.toNat]?=some c:=fun c=>by
   rw[oQ,oQ,e1];have:=KP (A:=bT.cps.toList.take jz.toNat) (B:=(Txt.slice bT (some (jz+1)) (some size)).cps.toList) (c:=c);rw[l1]at this;exact this
  have e:=congrArg (fun z:Str=>z.cps.toList[jz.toNat]?) e;have e2:=(at_ _).symm.trans (e.trans (at_ _));have e3:=Zu e2
  lia
theorem Av{bT:Str}(hl:bT.length=12)(cell other:Int){n:Nat}(hn:n≤12):((Zv n).map (kg bT cell other)).Nodup:=by
 refine List.pairwise_map.mpr ?_;refine List.Pairwise.imp_of_mem (R:=fun a b=>a≠b) (fun{a b} ha hb h e=>h ?_) List.nodup_range;exact ET hl cell other (by have:=List.mem_range.mp ha;lia) (by have:=List.mem_range.mp hb;lia) e
inductive w6(vs:List V)(H:Hp)(Q:VK)(u3:XK):Prop
 |mk (cell other many:Int) (_:vs=[.int cell, .int other, .int many]) (_:0≤many) (_:many≤12) (_:∀H' b (zs:List Str),au H H'→H b=none→H' b=some (.lst (zs.map V.str))→zs.length=many.toNat→(∀z∈zs,tG z=true)→zs.Nodup→Q (.ref b) H'):w6 vs H Q u3
structure dq(zs:List Str)(i j:Nat)(fs:List Form):Prop where
 ok:∀f∈fs,DN f=true
 nd:(fs.map lE).Nodup
 old:∀f∈fs,∃i' j',(i'<i∨(i'=i∧j'<j))∧zs[i']?=some f.1∧zs[j']?=some f.2.1
 zJ:fs.length+(if i<j then 1 else 0)≤i*(zs.length-1)+j
theorem dq.nil{zs:List Str}:dq zs 0 0 []:=⟨XU,XU,XU,XU⟩
theorem dq.skip{zs:List Str}{i j:Nat}{fs:List Form}(p:dq zs i j fs):dq zs i (j+1) fs:=by
 refine⟨p.ok,p.nd,fun f hf=>?_,?_⟩
 ·obtain⟨i',j',h,r⟩:=p.old f hf;exact⟨i',j',by lia,r⟩
 ·have:=p.zJ;split<;>split at this<;>lia
theorem yL{zs:List Str}(hn:zs.Nodup){i j:Nat}{x:Str}(h1:zs[i]?=some x)(h2:zs[j]?=some x):i=j:=by
 obtain⟨a1,b1⟩:=ZF h1;obtain⟨a2,b2⟩:=ZF h2;exact(List.getElem_inj hn).mp (b1.trans b2.symm)
theorem dq.add{zs:List Str}{i j:Nat}{fs:List Form}(p:dq zs i j fs)(hn:zs.Nodup)(hw:∀z∈zs,tG z=true){x y:Str}(hx:zs[i]?=some x)(hy:zs[j]?=some y)(eJ:¬x=y){pr:Int}(h0:0≤pr)(h1:pr≤999999):
  dq zs i (j+1) (fs++[(x,y,pr)]):=by
 have uI:i≠j:=fun e=>eJ (by subst e;rw[hx]at hy;exact Zu hy)
 refine⟨fun f hf=>?_,?_,fun f hf=>?_,?_⟩
 ·rcases List.mem_append.mp hf with h|h
  ·exact p.ok f h
  ·have h:f=(x,y,pr):=by simpa using h
   rw[h];have a1:=hw x (ZS hx);have a2:=hw y (ZS hy);simp[DN,iH,a1,a2,eJ,inR,h0,h1]
 ·rw[List.map_append];refine List.nodup_append.mpr ⟨p.nd,XU,fun a ha b hb e=>?_⟩;have hb:b=lE (x,y,pr):=by simpa using hb
  rw[e,hb]at ha;obtain⟨f,hf,ef⟩:=List.mem_map.mp ha;obtain⟨e1,e2⟩:=(wY f x y).mp ef;obtain⟨i',j',h,r1,r2⟩:=p.old f hf;rw[e1]at r1;rw[e2]at r2;have:=yL hn r1 hx;have:=yL hn r2 hy
  lia
 ·rcases List.mem_append.mp hf with h|h
  ·obtain⟨i',j',h,r⟩:=p.old f h;exact⟨i',j',by lia,r⟩
  ·have h:f=(x,y,pr):=by simpa using h
   rw[h];exact⟨i,j,by lia,hx,hy⟩
 ·have:=p.zJ;rw[List.length_append];show fs.length+1+_≤_;split<;>split at this<;>lia
theorem dq.row{zs:List Str}{i:Nat}{fs:List Form}(p:dq zs i zs.length fs)(hi:i<zs.length):dq zs (i+1) 0 fs:=by
 refine⟨p.ok,p.nd,fun f hf=>?_,?_⟩
 ·obtain⟨i',j',h,r⟩:=p.old f hf;exact⟨i',j',by lia,r⟩
 ·have h:=p.zJ;rw[Z1 hi]at h;rw[ZY IL,Nat.succ_mul]
  lia
theorem dq.good{zs:List Str}{fs:List Form}(p:dq zs zs.length 0 fs)(h:zs.length≤8):bO fs=true:=by
 have h1:=p.zJ;have h2:zs.length*(zs.length-1)≤8*7:=Nat.mul_le_mul h IL;rw[ZY IL]at h1;have h3:fs.length≤60:=by lia
 have h4:fs.all DN=true:=List.all_eq_true.mpr p.ok;simp[bO,h3,h4,p.nd]
theorem Aw{fs:List Form}(h:bO fs=true):Short fs:=by
 simp only[bO,Bool.and_eq_true,decide_eq_true_eq,List.all_eq_true]at h;refine⟨by lia,fun f hf=>?_⟩;have h1:=h.1.2 f hf;simp only[DN,iH,tG,Bool.and_eq_true,decide_eq_true_eq]at h1
 lia
inductive w8(vs:List V)(H:Hp)(Q:VK)(u3:XK):Prop
 |mk (cell same:Int) (b:Addr) (zs:List Str) (_:vs=[.int cell, .ref b, .int same]) (_:H b=some (.lst (zs.map V.str))) (_:zs.length≤8) (_:(∀z∈zs,tG z=true)) (_:zs.Nodup) (_:1≤same) (_:same≤999999) (_:∀H' l xs fs,au H H'→H l=none→H' l=some (.lst xs)→dX H' xs fs→bO fs=true→Q (.ref l) H'):w8 vs H Q u3
inductive tJ(vs:List V)(H:Hp)(Q:VK)(u3:XK):Prop
 |mk (x y:Str) (same:Int) (l:Addr) (xs:List V) (fs:List Form) (_:vs=[.str x, .str y, .int same, .ref l]) (_:H l=some (.lst xs)) (_:dX H xs fs) (_:Q (bB (dj same fs x y)) H):tJ vs H Q u3
theorem mF{zs:List Str}{i:Nat}{v:V}(h:(zs.map V.str)[i]?=some v):∃x,zs[i]?=some x∧v= .str x:=by
 rw[List.getElem?_map]at h;cases e:zs[i]? with
 |none=>rw[e]at h;cases h
 |some x=>rw[e]at h;exact⟨x,rfl,(Zu h).symm⟩
theorem EV{fs:List Form}{x y:Str}(h:∀f∈fs,¬(f.1=x∧f.2.1=y)):d7 fs x y=none:=by
 have:fs.find? (fun f=>decide (f.1=x∧f.2.1=y))=none:=by
  rw[List.find?_eq_none];intro f hf;simpa using h f hf
 unfold d7;rw[this];rfl
theorem rD:∀{fs:List Form}{i:Nat}{x y x0 y0:Str}{p:Int},fs[i]?=some (x0,y0,p)→(∀f∈fs.take i,¬(f.1=x∧f.2.1=y))→(x0=x∧y0=y)→d7 fs x y=some p
 |f::r,0,x,y,x0,y0,p,h,_,e=>by
  have h:f=(x0,y0,p):=by simpa using h
  rw[h];simp[d7,List.find?_cons,e.1,e.2]
 |f::r,i+1,x,y,x0,y0,p,h,hn,e=>by
  have h1:¬(f.1=x∧f.2.1=y):=hn f Xs;have:=rD (fs:=r) (i:=i) (x:=x) (y:=y) (by simpa using h) (fun g hg=>hn g (by simp[hg])) e;simpa[d7,List.find?_cons,h1]using this
def sw(f:Form):Form:=(f.2.1,f.1,f.2.2)
inductive nH(K:W.Frag)(vs:List V)(H:Hp)(Q:VK)(u3:XK):Prop
 |mk (a:Addr) (ns:List Int) (k:Int) (_:vs=[.ref a, .int k]) (_:iK K H a (ns.map V.int)) (_:0≤k) (_:∀H' D (s o i l:Int),au H H'→H D=none→H' D=some (.lst [.int s, .int o, .int i, .int l])→(1≤s∧s≤999999)→(0≤o∧o≤999999)→(0≤i∧i≤999999)→(1≤l∧l≤999999)→Q (.ref D) H'):nH K vs H Q u3
theorem kM.same{H H':Hp}{C x:Addr}{n:Nums}{fs:List Form}{dx l d:Addr}{xs:List V}(T:kM H C x n fs dx l d xs)(s:au H H'):kM H' C x n fs dx l d xs:=⟨s _ _ T.ob,s _ _ T.own,s _ _ T.li,T.tr.same s,s _ _ T.di⟩
theorem Hk{is:List Int}(h:is.length=4):∃a b c d,is=[a,b,c,d]:=by
 match is,h with
 |[a,b,c,d],_=>exact⟨a,b,c,d,rfl⟩
theorem SameBut.Ax{x dx C:Addr}{H H':Hp}(hx:H x=none)(EW:H dx=none)(s:SameBut x (L2.upd (L2.upd H dx (.own x)) x (.ins C dx [])) H'):au H H':=fun b u e=>by
 have n1:b≠x:=aF e hx;have n2:b≠dx:=aF e EW;exact s b u n1 (by rw[ao n1,ao n2];exact e)
end QF
namespace L2
open PySem PySem.Spec PyProof.Rows PySem.W PySem.Calls
section
variable{X:Cx}{pins:List (Addr×Obj)}{σ:St}{H:Hp}{s:Shared}{h':Heap}
theorem Inv.Hl{t':Nat}{fp:List Addr}(I:Inv X pins σ H s)(hf:∀b∈fp,iE X pins H b)(k:∀b o,b∉fp→s.heap.get? b=some o→h'.get? b=some o):Inv X pins σ H {s with heap:=h',toks:=t'}:=by
 have ID:∀b u,H b=some u→b∉fp:=fun b u e z=>by rw[(hf b z).1]at e;cases e
 refine I.step (g':=s.gens) (d':=s.drawn) (ch:=fp) (fun b hb=>?_) (fun b o _ _ hc e _=>k b o hc e) (fun b o _ _ hc e _=>⟨o.slots,k b o hc e⟩) (fun _ _ _ _ n=>n)
  (fun b o hc e=>⟨o,k b o hc e⟩) (fun _ _ e=>e) (fun _ _ _ e=>e) (fun b ps e=>⟨#[],by rw[e];simp⟩) (fun m hm=>?_) (fun b u e=>?_) I.bare
 ·obtain⟨_,f1,_,f3,f4,f5⟩:=hf b hb;exact⟨f3,f1,f4,f5⟩
 ·obtain⟨o,es,ep,ho,r⟩:=hm;exact⟨o,es,ep,k _ o (fun z=>(hf _ z).2.1 rfl) ho,r⟩
 ·refine(I.bX b u e).wt (fun c v hc q=>k c v ?_ q) (fun _ q=>q) fun _ _ q=>q
  rcases hc with z|z
  ·rw[z];exact ID b u e
  ·exact ID c _ z
theorem Inv.BN{t':Nat}{fp:List Addr}{T:Addr}{u:HO}(I:Inv X pins σ H s)(hf:∀b∈fp,iE X pins H b)(hT:iE X pins H T)(k:∀b o,b∉fp→s.heap.get? b=some o→h'.get? b=some o)
  (new:cT X.prog X.w (upd H T u) h' T u):Inv X pins σ (upd H T u) {s with heap:=h',toks:=t'}:=by
 have ID:∀b u,H b=some u→b∉fp:=fun b u e z=>by rw[(hf b z).1]at e;cases e
 have nT:∀b v,H b=some v→b≠T:=fun b v e z=>by rw[z,hT.1]at e;cases e
 refine I.step (g':=s.gens) (d':=s.drawn) (ch:=T::fp) (fun b hb=>?_) (fun b o _ _ hc e _=>k b o (fun z=>hc (Ρ z)) e) (fun b o _ _ hc e _=>⟨o.slots,k b o (fun z=>hc (Ρ z)) e⟩) (fun b _ hc _ n=>?_)
  (fun b o hc e=>⟨o,k b o (fun z=>hc (Ρ z)) e⟩) (fun b xs e=>by rw[ao (nT b _ e)];exact e) (fun b o v e=>by rw[ao (nT b _ e)];exact e) (fun b ps e=>⟨#[],by rw[ao (nT b _ e),e];simp⟩) (fun m hm=>?_) (fun b v e=>?_) I.bare
 ·rcases List.mem_cons.mp hb with z|z
  ·subst z;obtain⟨_,f1,_,f3,f4,f5⟩:=hT;exact⟨f3,f1,f4,f5⟩
  ·obtain⟨_,f1,_,f3,f4,f5⟩:=hf b z;exact⟨f3,f1,f4,f5⟩
 ·rw[ao (fun z=>hc (by simp[z]))];exact n
 ·obtain⟨o,es,ep,ho,r⟩:=hm;exact⟨o,es,ep,k _ o (fun z=>(hf _ z).2.1 rfl) ho,r⟩
 ·by_cases hb:b=T
  ·subst hb;rw[ae]at e;cases e;exact new
  ·rw[ao hb]at e;refine(I.bX b v e).wt (fun c v' hc q=>k c v' ?_ q) (fun c q=>by rw[ao (nT c _ q)];exact q) fun c xs q=>by rw[ao (nT c _ q)];exact q
   rcases hc with z|z
   ·rw[z];exact ID b v e
   ·exact ID c _ z
theorem Inv.swap{d:Addr}{u u':HO}(I:Inv X pins σ H s)(e:H d=some u)(ht:∀xs,u≠ .tup xs)(ho:∀x,u≠ .own x)(hb:∀ps,u≠ .Gz ps)(hf:∀o v,X.e7 d≠some (.sF o v))(new:cT X.prog X.w (upd H d u') s.heap d u'):Inv X pins σ (upd H d u') s:=by
 have nd:∀b,H b=none→b≠d:=fun b n z=>by rw[z,e]at n;cases n
 have nt:∀b xs,H b=some (.tup xs)→b≠d:=fun b xs q z=>by rw[z,e]at q;cases q;exact ht xs rfl
 have no:∀b x,H b=some (.own x)→b≠d:=fun b xs q z=>by rw[z,e]at q;cases q;exact ho xs rfl
 refine⟨I.ok,I.os,I.bare,⟨I.base.keep,I.base.slot,fun b o q n hx=>?_,I.base.there,fun b xs q=>?_,fun b o v q=>?_,fun b ps q=>?_⟩,I.loc,I.cell,?_,fun x c q=>?_,fun p hp=>?_,fun b v q=>?_,I.len⟩
 ·have z:=I.base.free b o q n hx;rw[ao (nd b z)];exact z
 ·have z:=I.base.cF b xs q;rw[ao (nt b xs z)];exact z
 ·have z:=I.base.oC b o v q;rw[ao (fun y=>by subst y;exact hf o v q)];exact z
 ·obtain⟨m,z⟩:=I.base.rT b ps q;exact⟨m,by rw[ao (fun y=>by rw[y,e]at z;cases z;exact hb _ rfl)];exact z⟩
 ·rw[ao (nd _ I.free)];exact I.free
 ·rw[ao (nd _ (I.m4 x c q))];exact I.m4 x c q
 ·obtain⟨p1,p2,p3⟩:=I.pin p hp;exact⟨p1,by rw[ao (nd _ p2)];exact p2,p3⟩
 ·by_cases UM:b=d
  ·subst UM;rw[ae]at q;cases q;exact new
  ·rw[ao UM]at q;exact(I.bX b v q).wt (fun c v' _ z=>z) (fun c z=>by rw[ao (no c _ z)];exact z) fun c xs z=>by rw[ao (nt c _ z)];exact z
end
def Mj(K:Frag)(a:Addr):It:=
 ⟨fun i H=>∃xs x,iK K H a xs∧xs[i]?=some x,fun i H x H'=>∃T y,x= .ref T∧H T=none∧H'=upd H T (.tup [.int i,y])∧∀xs,iK K H a xs→xs[i]?=some y,fun i H=>∃xs,iK K H a xs∧xs.length≤i⟩
theorem C0{P:Program}{w:World}{K:Frag}{elts:List Expr}{n:Nat}{pos:Pos}(a e it:Addr)(eJ:e≠it):
  Turn P w K (.Tuple elts n pos) (Mj K a) [e,it] e (fun i h=>(∃old,IsEnum h e it (i:Nat) old)∧h.IsListIter it a i) where
 mem:=XU
 obj:=fun i h st b hb=>by
  obtain⟨⟨old,s1⟩,o,s2,_,s3⟩:=st;rcases List.mem_cons.mp hb with z|z
  ·subst z;exact⟨_,s1,fun v z=>by
    have z':Data.fields _=Data.cell v:=z;cases z'⟩
  ·have e:b=it:=by simpa using z
   subst e;exact⟨o,s2,fun v z=>by rw[s3]at z;cases z⟩
 keep:=fun i h h' st k=>⟨⟨st.1.choose,k e Xs _ st.1.choose_spec⟩,st.2.at fun o q=>k it (XU) o q⟩
 item:=by
  intro X hP hw hK hc i pins s σ H E I hf st hg;subst hP hw hK;obtain⟨xs,x,hq,hx⟩:=hg;obtain⟨⟨old,s1⟩,s2⟩:=st;obtain⟨its,rv,p,hz⟩:=I.list hq;obtain⟨u,hu,ru⟩:=rv.get hx;refine wpAny_pyNext_enum_item s1 s2 p.isList (x:=u) (by simpa using hu) eJ fun h' o1 o2 o3 o4 o5=>?_
  refine⟨_,rfl,wpAny_letOwnedTupleGo_enum (s:={s with heap:=h',toks:=s.toks+1}) o1 fun h2 q1 q2=>?_⟩;have uO:h2.get? s.heap.objs.size=some {cls:=Value.type "tuple",data:=Data.seq #[Value.int (↑i) s.toks,u]}:=by
   exact(q2.2 _ (Nat.ne_of_gt (Α s1))).trans o3
  have hT:iE X pins H s.heap.objs.size:=I.uM Β (I.bX.fresh Β);have I1:Inv X pins σ (upd H s.heap.objs.size (.tup [.int i,x])) {s with heap:=h2,toks:=s.toks+1}:=by
   refine I.BN hf hT (fun b o hb q=>?_) ⟨by simp[sizeLine],[Value.int (↑i) s.toks,u], .cons ⟨_,rfl⟩ (.cons ru .nil),?_⟩
   ·have b1:b≠e:=fun z=>hb (by simp[z])
    have b2:b≠it:=fun z=>hb (by simp[z])
    exact(q2.2 b b1).trans (o5 b o b1 b2 q)
   ·exact⟨_,uO,rfl,_,rfl⟩
  refine⟨.ref s.heap.objs.size,_,I1,rfl,⟨_,x,rfl,hT.1,rfl,fun ys hy=>by rw[I.yv hy hq];exact hx⟩,⟨⟨u,by simpa using q1⟩,o2.at fun o q=>(q2.2 it (Zd eJ)).trans q⟩,fun b hb=>?_⟩;rw[ao (fun z=>?_)]
  ·exact(hf b hb).1
  ·have h1:=Heap.lt_size s1;obtain⟨_,h2,_⟩:=s2;have h3:=Α h2;rcases List.mem_cons.mp hb with y|y
   ·rw[z.symm.trans y]at h1;exact Y7 h1 (Nat.lt_irrefl _)
   ·have:b=it:=by simpa using y
    rw[z.symm.trans this]at h3;exact Y7 h3 (Nat.lt_irrefl _)
 done:=by
  intro X hP hw hK hc i pins s σ H E I hf st hg;subst hP hw hK;obtain⟨xs,hq,hx⟩:=hg;obtain⟨⟨old,s1⟩,s2⟩:=st;obtain⟨its,rv,p,hz⟩:=I.list hq;have hl:=rv.length;exact wpAny_pyNext_enum_end (I.ok.hd hc) s1 s2 p.isList Ξ fun h' eb=>⟨rfl,I.Hl (t':=s.toks) hf (fun b o hb q=>eb b o (fun z=>hb (by simp[z])) q)⟩
 self:=fun _ _ _ _ _ st h=>wpAny_pyIter_enum st.1.choose_spec h
section
variable{X:Cx}{tg:Expr}
def Jd(K:Frag)(ta:TA):TI:=fun σ H R=>ta σ H fun vs H1=>∃a,vs=[.ref a]∧(∃xs,iK K H1 a xs)∧R (Mj K a) H1
theorem Hm{elts:List Expr}{n:Nat}{tp:Pos}{a:Expr}{ta:TA}{p pos:Pos}(hg:Gl X "enumerate")(hm:X.mg "enumerate"=none)(ha:PA X [a] ta)(hs:starEach [a] X.env=[(false,eval a X.env)]:=by rfl):
  PI X (.Tuple elts n tp) (.Call (.Name "enumerate" p) [a] [] pos) (Jd X.K ta):=by
 intro pins s σ H R I h;refine Call_ (kH I hg hm boot_enumerate (PyProof.Rows.callWith_type1 (cH (ha pos pins s σ H _ I h) fun us s1 ⟨vs,H1,I1,r1,q1⟩=>?_) hs rfl));obtain⟨l,e,⟨xs,hq⟩,q⟩:=q1;subst e;cases r1 with
 |cons r rr=>
  cases rr;cases r;obtain⟨its,rv,p,hz⟩:=I1.list hq;refine call_enumerate_list p.isList fun h' o1 o2 o3 o4=>?_
  refine wpAny_pyIter_enum (s:={s1 with heap:=h'}) o1 ?_;refine⟨s1.heap.objs.size+1,[s1.heap.objs.size+1,s1.heap.objs.size],_,_,H1,rfl,I1.kept (t':=s1.toks) o4,C0 l _ _ (Nat.succ_ne_self _),⟨⟨_,o1⟩,o2⟩,fun b hb=>?_,q⟩;have Ml:s1.heap.objs.size≤b:=by
   rcases List.mem_cons.mp hb with y|y
   ·rw[y];exact Nat.le_succ _
   ·have:b=s1.heap.objs.size:=by simpa using y
    exact Nat.le_of_eq this.symm
  exact I1.uM Ml (I1.bX.fresh Ml)
end
theorem oR{X:Cx}(K:Frag){elts:List Expr}{n:Nat}{tp:Pos}{a:Expr}{ta:TA}{p pos:Pos}(hg:Gl X "enumerate")(hm:X.mg "enumerate"=none)(ha:PA X [a] ta)(hs:starEach [a] X.env=[(false,eval a X.env)]:=by rfl)(h:X.K=K:=by rfl):
  PI X (.Tuple elts n tp) (.Call (.Name "enumerate" p) [a] [] pos) (Jd K ta):=h▸Hm hg hm ha hs
theorem yM{K:Frag}{a:Addr}{xs:List V}{g:TG}{tb:TS}{D:Ends}{σ:St}{H:Hp}(Pv:Nat→St→Hp→Prop)(h0:Pv 0 σ H)(hl:∀i σ H,i≤xs.length→Pv i σ H→iK K H a xs)
  (hs:∀i x T σ H,xs[i]?=some x→Pv i σ H→H T=none→g (.ref T) σ (upd H T (.tup [.int i,x])) fun f' H2=>tb {D with nx:=Pv (i+1),ct:=Pv (i+1),bk:=D.nx} f' H2) (hd:∀σ H,Pv xs.length σ H→D.nx σ H):
  ∃W:Nat→Nat→St→Hp→Prop,(∃m,W 0 m σ H)∧∀i m σ H,W i m σ H→
   ((Mj K a).stop i H∧D.nx σ H)∨((Mj K a).go i H∧∃N:St→Hp→Prop,(∀bx H',N bx H'→∃m',m'<m∧W (i+1) m' bx H')∧∀x H',(Mj K a).GC i H x H'→g x σ H' fun f' H2=>tb {D with nx:=N,ct:=N,bk:=D.nx} f' H2):=by
 refine⟨fun i m σ H=>m=xs.length-i∧i≤xs.length∧Pv i σ H,⟨xs.length,XU,Nat.zero_le _,h0⟩,?_⟩;rintro i m σ H ⟨rfl,hi,p⟩;have hq:=hl i σ H hi p;by_cases hG:i<xs.length
 ·refine .inr ⟨⟨xs,xs[i],hq,by simp[hG]⟩,Pv (i+1),fun bx H' p'=>⟨xs.length-(i+1),by lia,rfl,hG,p'⟩,fun x H' y=>?_⟩;obtain⟨T,y,rfl,hT,rfl,hy⟩:=y;exact hs i y T σ H (hy xs hq) p hT
 ·have e:i=xs.length:=by lia
  subst e;exact .inl ⟨⟨xs,hq,Nat.le_refl _⟩,hd σ H p⟩
def NF(e7:Hp)(d:Addr):Prop:=∀o v,e7 d≠some (.sF o v)
section
variable{X:Cx}{tg:Expr}
end
end L2
namespace QF
open PySem L2
inductive w9(K:W.Frag)(vs:List V)(H:Hp)(Q:VK)(u3:XK):Prop
 |mk (a b:Addr) (ns:List Int) (zs:List Str) (c p m:Int) (_:vs=[.ref a, .int c, .int p, .int m, .ref b]) (_:iK K H a (ns.map V.int)) (_:H b=some (.lst (zs.map V.str))) (_:(1≤zs.length∧zs.length≤1000)) (_:0≤p) (_:0≤m) (_:m≤1000) (_:∀H' l (ws:List Str),au H H'→H l=none→H' l=some (.lst (ws.map V.str))→ws.length=m.toNat→(∀w∈ws,w∈zs)→Q (.ref l) H'):w9 K vs H Q u3
end QF
namespace L2
open PySem PySem.Spec PyProof.Rows PySem.W PySem.Calls
section
variable{X:Cx}
theorem Hn(K:Frag){T:String}{name:Str}{id:String}{r:V→List V→Hp→VK→Prop}{o:Expr}{apos eK:Pos}{to:TE}(pa:PlainAttrs T)(slot:Slot T name id)(DM:typeOf (.builtin id)=pure (.type "method_descriptor"))(hm:PH X id r)(ho:PE X o to)
  (oI:attributeBase o name X.env (eval o X.env)=eval o X.env:=by rfl) (oJ:(apos.endLine==eK.line)=true:=by rfl) (hK:X.K=K:=by rfl):PE X (.Call (.Attribute o name apos) [] [] eK) (NC K T r to):=hK▸Kq pa slot DM hm ho oI oJ
end
end L2
namespace QF
open PySem L2
def RL(c:Nat):Bool:=decide (65≤c)&&decide (c≤90)
def conv(c:Nat):Nat:=if low c=true then c else if RL c=true then c+32 else 32
abbrev great:Str:=Str.ofString "ABCDEFGHIJKLMNOPQRSTUVWXYZ"
def rd(st:KWd.St)(cs:List Nat):KWd.St:=(cs.map conv).foldl KWd.step st
abbrev both:Str:=Str.ofString "abcdefghijklmnopqrstuvwxyzABCDEFGHIJKLMNOPQRSTUVWXYZ"
abbrev marks:Str:=Str.ofString " .,-'0123456789!?()[]{}@`_~/:;<=>#$&*+|^\\\""
end QF
namespace L2
open PySem PySem.Spec PyProof.Rows PySem.W PySem.Calls
section
variable{X:Cx}
def UN(xs ys:List V)(f:Nat→Bool):Prop:=∀(j:Nat)(x y:V),xs[j]?=some x→ys[j]?=some y→(rC x=true∧rC y=true∧f j=wH x y)∨(∃a,x= .ref a∧y= .ref a∧f j=true)
theorem EX{A:Around}{s:Shared}{xs ys:List V}{its e6:List Value}{f:Nat→Bool}(r:Vals xs its)(r2:Vals ys e6)(h:UN xs ys f):
  ∀j (h1:j<its.toArray.size) (h2:j<e6.toArray.size),SeqAt.EqAt A s its.toArray[j] e6.toArray[j] (f j):=fun j h1 h2=>by
 have Mm:j<xs.length:=by have:=r.length;simp at h1;lia
 have Je:j<ys.length:=by have:=r2.length;simp at h2;lia
 obtain⟨a1,e1,q1⟩:=r.get (i:=j) (x:=xs[j]) (by simp[Mm]);obtain⟨a2,e2,q2⟩:=r2.get (i:=j) (x:=ys[j]) (by simp[Je]);have g1:its.toArray[j]=a1:=by simpa[List.getElem?_eq_some_iff]using(ZF e1).2
 have g2:e6.toArray[j]=a2:=by simpa[List.getElem?_eq_some_iff]using(ZF e2).2
 rw[g1,g2];rcases h j xs[j] ys[j] (by simp[Mm]) (by simp[Je])with⟨f1,f2,ef⟩|⟨a,ex,ey,ef⟩
 ·rw[ef];exact wI q1 q2 f1 f2
 ·rw[ef];rw[ex]at q1;rw[ey]at q2;cases q1;cases q2;exact SeqAt.EqAt.same _
inductive N7(K:Frag)(x:V)(y:V)(H:Hp)(Q:VK):Prop
 |mk (p:_) (q:_) (xs:_) (ys:_) (f:_) (_:x= .ref p) (_:y= .ref q) (_:iK K H p xs) (_:iK K H q ys) (_:UN xs ys f) (_:Q (.bl (decide (xs.length=ys.length)&&(Zv xs.length).all f)) H):N7 K x y H Q
theorem rE(K:Frag)(hu:X.A.units<cLine)(hK:X.K=K:=by rfl):rz X (compareOp .Eq) (N7 K):=by
 subst hK;intro pins s σ H x y v u Q I rx ry h;obtain⟨p,q,xs,ys,f,rfl,rfl,hp,hq,hf,k⟩:=h;cases rx;cases ry;obtain⟨its,r,pl,hz⟩:=I.list hp;obtain⟨e6,r2,KO,Gm⟩:=I.list hq;have l1:=r.length;have l2:=r2.length;obtain⟨⟨cls,dd,data,sl⟩,ho,hc,n,hd⟩:=id pl.isList;obtain⟨⟨N5,Hg,data2,zK⟩,As,wN,n2,hd2⟩:=id KO.isList;simp only at hc hd wN hd2;subst hc hd wN hd2;by_cases e:xs.length=ys.length
 ·have hsz:its.toArray.size=e6.toArray.size:=by rw[List.size_toArray,List.size_toArray];lia
  refine richCompare_meets_room (op:= .Eq) ⟨_,ho,rfl⟩ ⟨_,As,rfl⟩ F.slot_list_eq F.entry_list_eq (F.args_list_eq_2 _ _) (SeqAt.list_eqAt p q its.toArray e6.toArray n n2 dd Hg sl zK hsz f) ⟨ho,As,EX r r2 hf,?_⟩ hu;rw[decide_eq_true e,Bool.true_and]at k;refine⟨(fun x=>nomatch x), .bl ((Zv xs.length).all f),H,I,?_,k⟩;rw[List.size_toArray,←l1];rfl
 ·have hsz:(its.toArray.size !=e6.toArray.size)=true:=by
   rw[List.size_toArray,List.size_toArray];simp;lia
  refine richCompare_meets_room (op:= .Eq) ⟨_,ho,rfl⟩ ⟨_,As,rfl⟩ F.slot_list_eq F.entry_list_eq (F.args_list_eq_2 _ _) (SeqAt.list_eq_lengthsAt p q its.toArray e6.toArray n n2 dd Hg sl zK hsz) ⟨ho,As,?_⟩ hu;rw[decide_eq_false e,Bool.false_and]at k;exact⟨(fun x=>nomatch x), .bl false,H,I,rfl,k⟩
end
section
variable{X:Cx}
end
end L2
namespace QF
open PySem L2
abbrev Pr:=Int×Int
def j_(p:Pr):List V:=[.int p.1, .int p.2]
def eF(H:Hp)(vs:List V)(ps:List Pr):Prop:=vs.length=ps.length∧∀(i:Nat)(p:Pr),ps[i]?=some p→∃t,vs[i]?=some (V.ref t)∧H t=some (.tup (j_ p))
theorem eF.nil{H:Hp}:eF H [] []:=⟨rfl,fun i f e=>by simp at e⟩
theorem eF.cF{H H':Hp}{xs:List V}{fs:List Pr}(T:eF H xs fs)(k:dW H H'):eF H' xs fs:=⟨T.1,fun i f e=>let ⟨b,h1,h2⟩:=T.2 i f e;⟨b,h1,k _ _ h2⟩⟩
theorem eF.same{H H':Hp}{xs:List V}{fs:List Pr}(t:eF H xs fs)(s:au H H'):eF H' xs fs:=t.cF (dW.same s)
theorem eF.append{H:Hp}{xs ys:List V}{fs gs:List Pr}(T:eF H xs fs)(U:eF H ys gs):eF H (xs++ys) (fs++gs):=by
 refine⟨by simp[T.1,U.1],fun i p e=>?_⟩;by_cases h:i<fs.length
 ·rw[Ι h]at e;obtain⟨b,h1,h2⟩:=T.2 i p e;exact⟨b,by rw[Ι (by rw[T.1];exact h)];exact h1,h2⟩
 ·rw[Ο IL]at e;obtain⟨b,h1,h2⟩:=U.2 _ p e;exact⟨b,by rw[Ο (by rw[T.1];lia),T.1];exact h1,h2⟩
theorem eF.one{H:Hp}{t:Addr}{p:Pr}(ht:H t=some (.tup (j_ p))):eF H [.ref t] [p]:=by
 refine⟨rfl,fun i q e=>?_⟩
 match i,e with
 |0,e=>cases e;exact⟨t,rfl,ht⟩
 |i+1,e=>simp at e
theorem eF.snoc{H:Hp}{xs:List V}{fs:List Pr}{t:Addr}{f:Pr}(T:eF H xs fs)(ht:H t=some (.tup (j_ f))):eF H (xs++[.ref t]) (fs++[f]):=T.append (.one ht)
theorem eF.take{H:Hp}{xs:List V}{fs:List Pr}(T:eF H xs fs)(k:Nat):eF H (xs.take k) (fs.take k):=by
 refine⟨by simp[T.1],fun i p e=>?_⟩;rw[List.getElem?_take]at e;split at e
 ·rename_i h
  obtain⟨b,h1,h2⟩:=T.2 i p e;exact⟨b,by rw[List.getElem?_take,Z1 h];exact h1,h2⟩
 ·cases e
theorem eF.drop{H:Hp}{xs:List V}{fs:List Pr}(T:eF H xs fs)(k:Nat):eF H (xs.drop k) (fs.drop k):=by
 refine⟨by simp[T.1],fun i p e=>?_⟩;rw[List.getElem?_drop]at e;obtain⟨b,h1,h2⟩:=T.2 _ p e;exact⟨b,by rw[List.getElem?_drop];exact h1,h2⟩
def pr(ps:List Pr)(k:Nat):Pr:=ps.getD k (0,0)
theorem Jf{ps:List Pr}{k:Nat}(h:k<ps.length):ps[k]?=some (pr ps k):=by
 simp[pr,h]
theorem eF.Jg{H:Hp}{xs:List V}{ps:List Pr}(T:eF H xs ps){k:Nat}(h:k<ps.length):∃t,xs[k]?=some (V.ref t)∧H t=some (.tup [.int (pr ps k).1, .int (pr ps k).2]):=T.2 k _ (Jf h)
theorem Ho{ps:List Pr}{k n:Nat}(h:k<n):pr (ps.take n) k=pr ps k:=by
 simp[pr,List.getD_eq_getElem?_getD,List.getElem?_take,h]
theorem hU{ps:List Pr}{p:Pr}{k:Nat}(h:k<ps.length):pr (ps++[p]) k=pr ps k:=by
 simp[pr,List.getD_eq_getElem?_getD,Ι h]
theorem sN{ps:List Pr}{p:Pr}:pr (ps++[p]) ps.length=p:=by
 simp[pr,List.getD_eq_getElem?_getD]
structure Case where
 xs:List Str
 ys:List Str
 same:Int
 out:Int
 into:Int
 least:Int
 fs:List Form
structure iL(H:Hp)(a:Addr)(c:Case)(f g m l:Addr)(vs:List V):Prop where
 ca:H a=some (.lst [.ref f, .ref g, .ref m, .ref l])
 fi:H f=some (.lst (c.xs.map V.str))
 se:H g=some (.lst (c.ys.map V.str))
 nu:H m=some (.lst [.int c.same, .int c.out, .int c.into, .int c.least])
 ne:H l=some (.lst vs)
 tr:dX H vs c.fs
theorem iL.keep{H H':Hp}{a:Addr}{c:Case}{f g m l:Addr}{vs:List V}(C:iL H a c f g m l vs)(s:au H H'):iL H' a c f g m l vs:=⟨s _ _ C.ca,s _ _ C.fi,s _ _ C.se,s _ _ C.nu,s _ _ C.ne,C.tr.same s⟩
structure fG(most:Nat)(c:Case):Prop where
 x:c.xs.length≤most
 y:c.ys.length≤most
 good:bO c.fs=true
 same:1≤c.same∧c.same≤999999
 out:0≤c.out∧c.out≤999999
 into:0≤c.into∧c.into≤999999
 least:1≤c.least∧c.least≤999999
def wd(xs:List Str)(i:Int):Option Str:=if 0≤i then xs[i.toNat]? else none
theorem tK{xs:List Str}{i:Nat}:wd xs (i:Int)=xs[i]?:=by simp[wd]
theorem rF{xs:List Str}{i:Int}(h0:0≤i)(h:i<(xs.length:Int)):∃x,wd xs i=some x∧rV (xs.map V.str) i=some (.str x):=by
 obtain⟨j,rfl⟩:=Int.eq_ofNat_of_zero_le h0;have hj:j<xs.length:=by lia
 exact⟨xs[j],by rw[tK];simp[hj],ar (by simp[hj])⟩
theorem BO{xs:List Str}{i:Int}{x:Str}(h:wd xs i=some x):0≤i∧i<(xs.length:Int):=by
 unfold wd at h;split at h
 ·have:=(ZF h).1
  lia
 ·cases h
def Case.pw(c:Case)(p:Pr):Option Int:=(wd c.xs p.1).bind fun x=>(wd c.ys p.2).bind fun y=>dj c.same c.fs x y
theorem Case.pw_of{c:Case}{p:Pr}{x y:Str}(h1:wd c.xs p.1=some x)(h2:wd c.ys p.2=some y):c.pw p=dj c.same c.fs x y:=by simp[Case.pw,h1,h2]
theorem Case.pw_in{c:Case}{p:Pr}{w:Int}(h:c.pw p=some w):(0≤p.1∧p.1<(c.xs.length:Int))∧(0≤p.2∧p.2<(c.ys.length:Int)):=by
 unfold Case.pw at h;cases e1:wd c.xs p.1 with
 |none=>rw[e1]at h;cases h
 |some x=>
  cases e2:wd c.ys p.2 with
  |none=>rw[e1,e2]at h;cases h
  |some y=>exact⟨BO e1,BO e2⟩
theorem Case.pw_out{c:Case}{p:Pr}(h:¬((0≤p.1∧p.1<(c.xs.length:Int))∧(0≤p.2∧p.2<(c.ys.length:Int)))):c.pw p=none:=by
 cases e:c.pw p with
 |none=>rfl
 |some w=>exact Y7 (c.pw_in e) h
def stepOk(q p:Pr):Bool:=decide (q.1<p.1)&&decide (q.2<p.2)
def Case.gap(c:Case)(q p:Pr):Int:=c.out*(p.1-q.1-1)+c.into*(p.2-q.2-1)
def cW(c:Case)(ps:List Pr)(k:Nat):Bool:=(c.pw (pr ps k)).isSome&&(decide (k=0)||stepOk (pr ps (k-1)) (pr ps k))
def fe(c:Case)(ps:List Pr)(n:Nat):Prop:=∀k,k<n→cW c ps k=true
def iM(c:Case)(ps:List Pr):Bool:=!ps.isEmpty&&(Zv ps.length).all (cW c ps)
def dJ(c:Case)(ps:List Pr):Nat→Int
 |0=>(c.pw (pr ps 0)).getD 0
 |k+1=>(c.pw (pr ps (k+1))).getD 0+dJ c ps k-c.gap (pr ps k) (pr ps (k+1))
theorem jb{c:Case}{ps:List Pr}(h:ps≠[])(g:fe c ps ps.length):iM c ps=true:=by
 have h1:ps.isEmpty=false:=by simpa using h
 have h2:(Zv ps.length).all (cW c ps)=true:=List.all_eq_true.mpr fun k hk=>g k (by simpa using hk)
 simp[iM,h1,h2]
theorem EY{c:Case}{ps:List Pr}{k:Nat}(hk:k<ps.length)(g:cW c ps k=false):iM c ps=false:=by
 have h2:(Zv ps.length).all (cW c ps)=false:=by
  rw[Bool.eq_false_iff];intro z;rw[List.all_eq_true]at z;rw[z k (by simpa using hk)]at g;cases g
 simp[iM,h2]
theorem kO{c:Case}{ps:List Pr}(h:iM c ps=true):ps≠[]∧fe c ps ps.length:=by
 simp only[iM,Bool.and_eq_true,List.all_eq_true]at h;refine⟨fun z=>by subst z;simp at h,fun k hk=>h.2 k (by simpa using hk)⟩
theorem fe.next{c:Case}{ps:List Pr}{n:Nat}(h:fe c ps n)(g:cW c ps n=true):fe c ps (n+1):=fun k hk=>by
 by_cases e:k=n
 ·rw[e];exact g
 ·exact h k (by lia)
theorem Hq{c:Case}{ps:List Pr}{k:Nat}(h:cW c ps k=true):∃w,c.pw (pr ps k)=some w:=by
 simp only[cW,Bool.and_eq_true]at h;exact Option.isSome_iff_exists.mp h.1
theorem vV{c:Case}{ps:List Pr}{p:Pr}(g:fe c ps ps.length)(h:(c.pw p).isSome=true)(f:ps=[]∨stepOk (pr ps (ps.length-1)) p=true):fe c (ps++[p]) (ps.length+1):=fun k hk=>by
 by_cases e:k<ps.length
 ·have:=g k e;simp only[cW]at this⊢;rw[hU e];by_cases k0:k=0
  ·subst k0;simpa using this
  ·rw[hU (by lia:k-1<ps.length)];exact this
 ·have:k=ps.length:=by lia
  subst this;simp only[cW];rw[sN,h];rcases f with f|f
  ·subst f;rfl
  ·by_cases e0:ps.length=0
   ·simp[e0]
   ·rw[hU IL,f];simp
theorem EZ{xs:List V}{i:Int}(h0:0≤i)(h:i≤(xs.length:Int)):qr xs none (some i)=xs.take i.toNat:=by
 have e0:HT.jX xs.length 0 none=0:=by simp[HT.jX]
 unfold qr;rw[e0,kN h0 h];simp
theorem yN{xs:List V}{i:Int}(h0:0≤i)(h:i≤(xs.length:Int)):qr xs (some i) none=xs.drop i.toNat:=by
 have e0:HT.jX xs.length xs.length none=xs.length:=by simp[HT.jX]
 unfold qr;rw[e0,kN h0 h];exact List.take_of_length_le (by rw[List.length_drop];lia)
structure BP(c:Case):Prop where
 out:0≤c.out∧c.out≤999999
 into:0≤c.into∧c.into≤999999
theorem fG.num{m:Nat}{c:Case}(h:fG m c):BP c:=⟨h.out,h.into⟩
def yO(H:Hp)(CT t:Addr)(c:Case):Prop:=∃n dx l d vs,kM H CT t n c.fs dx l d vs∧n.same=c.same∧n.out=c.out∧n.into=c.into∧n.least=c.least
theorem yO.keep{H H':Hp}{CT t:Addr}{c:Case}(T:yO H CT t c)(s:au H H'):yO H' CT t c:=by
 obtain⟨n,dx,l,d,vs,T,r⟩:=T;exact⟨n,dx,l,d,vs,T.same s,r⟩
inductive tL(K:W.Frag)(vs:List V)(H:Hp)(Q:VK)(u3:XK):Prop
 |mk (a b x:Addr) (ns:List Int) (zs ws:List Str) (c p m:Int) (_:vs=[.ref a, .int c, .int p, .int m, .ref x, .ref b]) (_:iK K H a (ns.map V.int)) (_:H b=some (.lst (zs.map V.str))) (_:H x=some (.lst (ws.map V.str))) (_:(1≤zs.length∧zs.length≤1000)) (_:ws.length≤1000) (_:(∀w∈ws,w∈zs)) (_:0≤p) (_:0≤m) (_:m≤1000) (_:∀H' l (ws:List Str),au H H'→H l=none→H' l=some (.lst (ws.map V.str))→ws.length=m.toNat→(∀w∈ws,w∈zs)→Q (.ref l) H'):tL K vs H Q u3
inductive w_(K:W.Frag)(vs:List V)(H:Hp)(Q:VK)(u3:XK):Prop
 |mk (a:Addr) (ns:List Int) (most:Int) (_:vs=[.ref a, .int most]) (_:iK K H a (ns.map V.int)) (_:0≤most) (_:most≤40) (_:∀H' b c f g m l us,au H H'→H b=none→iL H' b c f g m l us→fG most.toNat c→Q (.ref b) H'):w_ K vs H Q u3
inductive qx(vs:List V)(H:Hp)(Q:VK)(u3:XK):Prop
 |mk (a:Addr) (k:Int) (c:Case) (f g m l:Addr) (us:List V) (_:vs=[.ref a, .int k]) (_:iL H a c f g m l us) (_:c.xs.length≤40) (_:c.ys.length≤40) (_:∀H' b xs ps,au H H'→H b=none→H' b=some (.lst xs)→eF H' xs ps→ps.length≤2000→fe c ps ps.length→Q (.ref b) H'):qx vs H Q u3
inductive qy(C:Addr)(vs:List V)(H:Hp)(Q:VK)(u3:XK):Prop
 |mk (a:Addr) (c:Case) (f g m l:Addr) (us:List V) (most:Nat) (_:vs=[.ref a]) (_:iL H a c f g m l us) (_:fG most c) (_:∀H' t,au H H'→yO H' C t c→Q (.ref t) H'):qy C vs H Q u3
inductive qz(vs:List V)(H:Hp)(Q:VK)(u3:XK):Prop
 |mk (a:Addr) (us:List V) (ps:List Pr) (_:vs=[.ref a]) (_:H a=some (.lst us)) (_:eF H us ps) (_:Q (.bl true) H):qz vs H Q u3
inductive tM(vs:List V)(H:Hp)(Q:VK)(u3:XK):Prop
 |mk (a w:Addr) (c:Case) (f g m l:Addr) (us:List V) (ws:List V) (ps:List Pr) (_:vs=[.ref a, .ref w]) (_:iL H a c f g m l us) (_:H w=some (.lst ws)) (_:eF H ws ps) (_:ps.length≤10000) (_:∀H',au H H'→Q (.bl (iM c ps)) H'):tM vs H Q u3
inductive qA(vs:List V)(H:Hp)(Q:VK)(u3:XK):Prop
 |mk (a w:Addr) (c:Case) (f g m l:Addr) (us:List V) (ws:List V) (ps:List Pr) (_:vs=[.ref a, .ref w]) (_:iL H a c f g m l us) (_:BP c) (_:H w=some (.lst ws)) (_:eF H ws ps) (_:ps.length≤10000) (_:iM c ps=true) (_:Q (.int (dJ c ps (ps.length-1))) H):qA vs H Q u3
end QF
namespace L2
open PySem PySem.Spec PyProof.Rows PySem.W PySem.Calls
section
variable{pg:Program}{wd:World}{Ar:Around}{Rs:Result→Shared→Prop}{it:Addr}{fp wr:List Addr}{n:Nat}{Pv:Nat→Value→Prop}{Sv:Nat→Heap→Prop}
def xa:(toString "max"++toString ".loop":String)="max.loop":=WD
theorem C4(Wk:Walks pg wd Ar.in1 it fp wr n Pv Sv)(bt:Nat→Nat→Bool)(cmp:CmpOf pg wd Ar.in1 .Gt Pv bt)(B:Addr)(nb:B∉fp)(dv:Value):
  ∀(k j:Nat)(st:Shared)(old:List Value)(c:Nat),n-j=k→j≤n→Sv j st.heap→((j=0∧old=[])∨∃vb,0<j∧old=[vb,vb]∧Pv (argBest bt (j-1)) vb)→
  st.heap.get? B=some {cls:= .type "list",dict:=none,data:= .seq old.toArray c,slots:=#[]}→
  (∀v h' tk,((n=0∧v=dv)∨(0<n∧Pv (argBest bt (n-1)) v))→(∀b o,b∉wr→b≠B→st.heap.get? b=some o→h'.get? b=some o)→Rs (.ok (.ret v)) {st with heap:=h',toks:=tk})→
  codeAny (model pg wd) Ar (.builtin "max.loop" ⟨[.ref it, .none, .ref B],[("default",dv)]⟩) Rs st:=by
 have nw:B∉wr:=fun z=>nb (Wk.sub _ z)
 intro k
 induction k with
 |zero=>
  intro j st old c ek lj sv ol eB fin;have ej:j=n:=by lia
  subst ej;refine codeAny_builtin F.entry_max_loop ?_;rw[Around.under_plainId F.plain_max_loop _];show wpAny _ Ar.in1 (seqItems? (.ref B)>>=_) _ _ st;refine wpAny_bind (wpAny_seqItems eB rfl ?_);show wpAny _ Ar.in1 (tryCatch (pyNext (.ref it)) _>>=_) _ _ st;refine wpAny_bind (wpAny_tryCatch (Wk.done st _ _ sv fun h' tk kp=>?_));rcases ol with⟨z0,rfl⟩|⟨vb,z0,rfl,pb⟩
  ·refine wpAny_bind (wpAny_rule (YZ ?_));exact fin dv _ tk (.inl ⟨z0,rfl⟩) fun b o hb _ e=>kp b o hb e
  ·have KR:=kp B _ nw eB;show wpAny _ Ar.in1 (updateSeq B (fun _=>#[])>>=_) _ _ _;refine wpAny_bind ?_;refine wpAny_updateSeq KR rfl (Zk (wpAny_letGo (YZ ?_)));exact fin vb _ tk (.inr ⟨z0,pb⟩) fun b o hb hB e=>(Heap.get?_update_other _ _ (Zd hB)).trans (kp b o hb e)
 |succ k ih=>
  intro j st old c ek lj sv ol eB fin;have lt:j<n:=by lia
  refine codeAny_builtin F.entry_max_loop ?_;rw[Around.under_plainId F.plain_max_loop _];show wpAny _ Ar.in1 (seqItems? (.ref B)>>=_) _ _ st;refine wpAny_bind (wpAny_seqItems eB rfl ?_);show wpAny _ Ar.in1 (tryCatch (pyNext (.ref it)) _>>=_) _ _ st;refine wpAny_bind (wpAny_tryCatch (Wk.item j st _ _ lt sv fun v h' tk pv R1 kp=>?_));have KR:=kp B _ nw eB;have up:∀(g:Array Value→Array Value)(b:Addr),b∈fp→∀o,h'.get? b=some o→(h'.update B (Obj.mapSeq g)).get? b=some o:=fun g b hb o e=>(Heap.get?_update_other _ _ (fun z:B=b=>nb (by rw[z];exact hb))).trans e
  rcases ol with⟨rfl,rfl⟩|⟨vb,z0,rfl,pb⟩
  ·show wpAny _ Ar.in1 (updateSeq B (fun _=>#[v,v])>>=_) _ _ _;refine wpAny_bind ?_;refine wpAny_updateSeq KR rfl ?_;rw[xa];refine wpAny_pure ⟨plainId_quiet F.plain_max_loop _,ih 1 _ [v,v] _ (by lia) lt (Wk.frame _ _ _ R1 (up _)) (.inr ⟨v,WD,rfl,pv⟩) (Heap.get?_update_self _ KR rfl) fun v' h2 N8 pf N9=>?_⟩;exact fin v' h2 N8 pf fun b o hb hB e=>N9 b o hb hB ((Heap.get?_update_other _ _ (Zd hB)).trans (kp b o hb e))
  ·obtain⟨i,rfl⟩:∃i,j=i+1:=⟨j-1,by lia⟩
   have pb:Pv (argBest bt i) vb:=pb;show wpAny _ Ar.in1 (tryCatch (holding [v,v] (richCompare .Gt v vb>>=_)) _>>=_) _ _ _;refine wpAny_bind (wpAny_tryCatch (wpAny_holding (Zk (cmp (i+1) (argBest bt i) v vb _ _ _ pv pb ?_))));refine wpAny_bind (wpAny_holding (wpAny_truthy_bool ?_));refine wpAny_bind (wpAny_letGo (YZ ?_));cases hb:bt (i+1) (argBest bt i)with
   |true=>
    simp only[if_true];refine wpAny_bind ?_;refine wpAny_updateSeq KR rfl (Zk (wpAny_letGo ?_));rw[xa];refine wpAny_pure ⟨plainId_quiet F.plain_max_loop _,ih (i+2) _ [v,v] _ (by lia) lt (Wk.frame _ _ _ R1 (up _)) (.inr ⟨v,by lia,rfl,?_⟩) (Heap.get?_update_self _ KR rfl) fun v' h2 N8 pf N9=>?_⟩
    ·show Pv (argBest bt (i+1)) v;simp only[argBest,hb,if_true];exact pv
    ·exact fin v' h2 N8 pf fun b o hb hB e=>N9 b o hb hB ((Heap.get?_update_other _ _ (Zd hB)).trans (kp b o hb e))
   |false=>
    simp only[Bool.false_eq_true,if_false];refine wpAny_bind (wpAny_letGo ?_);rw[xa];refine wpAny_pure ⟨plainId_quiet F.plain_max_loop _,ih (i+2) _ [vb,vb] c (by lia) lt R1 (.inr ⟨vb,by lia,rfl,?_⟩) KR fun v' h2 N8 pf N9=>?_⟩
    ·show Pv (argBest bt (i+1)) vb;simp only[argBest,hb,Bool.false_eq_true,if_false];exact pb
    ·exact fin v' h2 N8 pf fun b o hb hB e=>N9 b o hb hB (kp b o hb e)
theorem C5(a d:Value):argsOk "max" ⟨[a],[("default",d)]⟩:=by unfold argsOk;kernel_rfl
end
section
variable{X:Cx}
def KS:Option Int→V
 |none=> .cS
 |some i=> .int i
theorem Ay{is:List Int}{us:List Value}(r:Vals (is.map V.int) us):us.length=is.length∧∀(j:Nat)(v:Value),us[j]?=some v→∃t,v= .int (is.getD j 0) t:=by
 have hl:=r.length;rw[List.length_map]at hl;refine⟨hl.symm,fun j v e=>?_⟩;have hj:j<is.length:=by have:=(ZF e).1;lia
 obtain⟨u,eu,ru⟩:=r.get (i:=j) (x:= .int is[j]) (by simp[hj]);rw[e]at eu;cases eu;obtain⟨t,rfl⟩:=ru;exact⟨t,by simp[hj]⟩
theorem KU{is:List Int}{k:Nat}(hk:k<is.length)(h:∀j,j<is.length→is.getD j 0≤is.getD k 0):is.max?=some (is.getD k 0):=by
 rw[List.max?_eq_some_iff];refine⟨by simp[hk],fun b hb=>?_⟩;obtain⟨j,hj,rfl⟩:=List.mem_iff_getElem.mp hb;have:=h j hj;simpa[hj]using this
theorem C6(hc:X.calm=true){pins:List (Addr×Obj)}{s:Shared}{σ:St}{H:Hp}{a:Addr}{is:List Int}{Q:VK}(I:Inv X pins σ H s)(hq:iK X.K H a (is.map V.int))(q:Q (KS is.max?) H):
  wpAny (model X.prog X.w) X.A (call (.builtin "max") [.ref a] [("default", .none)]) (EP X pins σ Q) X.xe s:=by
 obtain⟨its,rv,p,hz⟩:=I.list hq;obtain⟨hl,hv⟩:=Ay rv;refine wpAny_call (codeAny_call_builtin F.plain_max F.entry_max ?_);simp only[checkBuiltinCall,F.kind_max];have body:wpAny (model X.prog X.w) X.A.in1 (Builtin.«max» ⟨[.ref a],[("default", .none)]⟩) (fun fin s'=>match fin with
   | .done f=>(match (Except.ok f:Result)with| .ok (.ret v)=>EP X pins σ Q v s'| .ok _=>False| .error e=>X.xe e s')
   | .again c'=>c'.quiet=true∧codeAny (model X.prog X.w) X.A c' (fun r s'=>match r with| .ok (.ret v)=>EP X pins σ Q v s'| .ok _=>False| .error e=>X.xe e s') s') X.xe s:=by
  show wpAny _ X.A.in1 (Builtin.Builtins.bindParams "max" ["key","default"] 0 ⟨[],[("default", .none)]⟩>>=_) _ _ s;refine wpAny_bind (wpAny_of_eq (show Builtin.Builtins.bindParams "max" ["key","default"] 0 ⟨[],[("default", .none)]⟩=pure [none,some .none]from rfl) ?_);refine wpAny_bind (YZ (Zk (wpAny_pyIter_list p.isList ?_)));have eJ:a≠s.heap.objs.size:=by
   obtain⟨o,n,e,_⟩:=p;exact Κ (Α e)
  refine wpAny_bind (wpAny_newObj_type ?_);rw[xa];have eS:(s.heap.push {cls:= .type "list_iterator",data:= .fields #[.ref a, .int 0 0]}).objs.size=s.heap.objs.size+1:=by simp[Heap.push]
  have Wk:=Walks.list (prog:=X.prog) (w:=X.w) (A:=X.A.in1) (show X.A.in1.handled=none from I.ok.hd hc) s.heap.objs.size a eJ its.toArray;refine wpAny_pure ⟨plainId_quiet F.plain_max_loop _,C4 (pg:=X.prog) (wd:=X.w) Wk _ (CmpOf.ints_gt (fun j=>is.getD j 0) fun j v e=>hv j v (by simpa using e)) (s.heap.push {cls:= .type "list_iterator",data:= .fields #[.ref a, .int 0 0]}).objs.size ?_ .none _ 0 _ [] 0 rfl (Nat.zero_le _) ?_ (.inl ⟨rfl,rfl⟩) ?_ fun v h' tk pf kp=>?_⟩
  ·intro z;simp only[List.mem_cons,List.not_mem_nil,or_false]at z;rw[eS]at z;rcases z with z|z
   ·exact Nat.succ_ne_self _ z
   ·obtain⟨o,n,e,_⟩:=p;have lt:=Α e;rw[←z]at lt;exact Nat.lt_irrefl _ (Nat.lt_of_succ_lt lt)
  ·exact⟨⟨_,ZZ (Heap.get?_push_size _ rfl),rfl,rfl⟩,p.isList.at fun o e=>ZZ (ZZ e)⟩
  ·exact Heap.get?_push_size _ rfl
  ·have keep:∀b o,s.heap.get? b=some o→h'.get? b=some o:=fun b o e=>by
    have lt:=Α e;refine kp b o (fun z=>?_) (fun z=>?_) (ZZ (ZZ e))
    ·have z:b=s.heap.objs.size:=by simpa using z
     rw[z]at lt;exact Nat.lt_irrefl _ lt
    ·rw[z,eS]at lt;exact Nat.lt_irrefl _ (Nat.lt_of_succ_lt lt)
   have sz:its.toArray.size=is.length:=by simp[hl]
   rcases pf with⟨h0,rfl⟩|⟨h0,pf⟩
   ·have:is=[]:=List.length_eq_zero_iff.mp IL;subst this;exact⟨.cS,H,I.kept (t':=tk) keep,rfl,q⟩
   ·rw[List.getElem?_toArray]at pf;obtain⟨t,rfl⟩:=hv _ v pf;obtain⟨b1,b2⟩:=argBest_gt (fun j=>is.getD j 0) (its.toArray.size-1);have em:=KU (is:=is) (k:=argBest (fun i j=>decide (is.getD i 0>is.getD j 0)) (its.toArray.size-1)) (by lia) fun j hj=>b2 j IL
    rw[em]at q;exact⟨.int _,H,I.kept (t':=tk) keep,⟨t,rfl⟩,q⟩
 cases R3:Manifest.signature? "max" with
 |none=>exact YZ body
 |some sig=>
  have ha:=C5 (.ref a) .none;simp only[argsOk,R3]at ha;have h2:Bind.checkArgs "max" sig ⟨[.ref a],[("default", .none)]⟩=pure ():=ha;show wpAny _ X.A.in1 (Bind.checkArgs "max" sig ⟨[.ref a],[("default", .none)]⟩) _ _ s;rw[h2];exact YZ body
def N_(K:Frag)(ta:TE):TE:=fun σ H Q=>ta σ H fun x H1=>∃(a:Addr)(is:List Int),x= .ref a∧iK K H1 a (is.map V.int)∧Q (KS is.max?) H1
theorem Hr(K:Frag){e:Expr}{ta:TE}{p pos kp cp:Pos}{j:Nat}(hc:X.calm=true)(hg:Gl X "max")(hm:X.mg "max"=none)(he:PE X e ta)(hs:starEach [e] X.env=[(false,eval e X.env)]:=by rfl)(hK:X.K=K:=by rfl):
  PE X (.Call (.Name "max" p) [e] [⟨some "default", .Constant .none j cp,kp⟩] pos) (N_ K ta):=by
 subst hK;intro pins s σ H Q I h;refine wpAny_Call_Name_kw (kH I hg hm (PyProof.Rows.Boot.«max») ?_ (WD) (WD));rw[hs];refine callWith_builtin_kwB (first:=[]) rfl rfl (evalArgs_kwB rfl ?_);refine Calls.spliced_cons ?_;show wpAny _ _ (eval e X.env) _ _ s;refine cH (he pins s σ H _ I h) fun v s1 ⟨x,H1,I1,r1,q1⟩=>Calls.spliced_nil ?_
 obtain⟨a,is,rfl,hq,q⟩:=q1;cases r1;refine kws_cons ?_;refine Constant_none ?_;refine kws_nil ?_;exact C6 hc I1 hq q
def uP:List V→List V→Bool
 |[],[]=>true
 |x::xs,y::ys=>wH x y&&uP xs ys
 | _,_=>false
theorem nJ:∀(xs ys:List V),((Zv (min xs.length ys.length)).all (fun j=>wH (xs.getD j .cS) (ys.getD j .cS))&&xs.length==ys.length)=uP xs ys
 |[],[]=>rfl
 |[],y::ys=>by simp[uP]
 |x::xs,[]=>by simp[uP]
 |x::xs,y::ys=>by
  have ih:=nJ xs ys;simp only[uP];rw[←ih];have e:min (x::xs).length (y::ys).length=min xs.length ys.length+1:=by simp[Nat.succ_min_succ]
  rw[e,List.range_succ_eq_map,List.all_cons,List.all_map];simp only[List.getD_cons_zero,Function.comp_def,List.getD_cons_succ,List.length_cons,Bool.and_assoc]
  congr 2
  simp
theorem yP{A:Around}{s:Shared}{xs ys:List V}{its e6:List Value}(r:Vals xs its)(r2:Vals ys e6)(f1:xs.all rC=true)(f2:ys.all rC=true):
  ∀j (h1:j<its.toArray.size) (h2:j<e6.toArray.size),SeqAt.EqAt A s its.toArray[j] e6.toArray[j] ((fun j=>wH (xs.getD j .cS) (ys.getD j .cS)) j):=by
 refine EX r r2 fun j x y hx hy=> .inl ⟨List.all_eq_true.mp f1 x (ZS hx),List.all_eq_true.mp f2 y (ZS hy),?_⟩
 simp[List.getD_eq_getElem?_getD,hx,hy]
open Classical in
end
theorem vW{K:Frag}{a:Addr}{xs:List V}{ls:List Str}{js:List Nat}{g:TG}{tt:TT}{te:TE}{σ:St}{H1:Hp}{D:Addr}{Q:VK}(Pv:Nat→List V→St→Hp→Prop)
  (h0:Pv 0 [] (lM ls js σ) (upd H1 D (.lst []))) (hl:∀i ys σ H,i≤xs.length→Pv i ys σ H→iK K H a xs)
  (hs:∀i x T ys σ H,xs[i]?=some x→Pv i ys σ H→H T=none→g (.ref T) σ (upd H T (.tup [.int i,x])) fun f' H3=>tt f' H3 fun b H4=>if b=true then te f' H4 fun y H5=>H5 D=some (.lst ys)∧ys.length<sizeLine∧Pv (i+1) (ys++[y]) f' (upd H5 D (.lst (ys++[y])))else Pv (i+1) ys f' H4)
  (hd:∀ys σ H,Pv xs.length ys σ H→Q (.ref D) H):
  tE (Mj K a) ls js g tt te σ H1 D Q:=
 oO (n:=xs.length) Pv h0 (fun i ys σ H hi p=>⟨xs,xs[i],hl i ys σ H (Nat.le_of_lt hi) p,by simp[hi]⟩) (fun ys σ H p=>⟨xs,hl _ ys σ H Β p,Nat.le_refl _⟩)
  (fun i ys σ H x H2 hi p y=>by
   obtain⟨T,z,rfl,hT,rfl,hy⟩:=y;exact hs i z T ys σ H (hy xs (hl i ys σ H (Nat.le_of_lt hi) p)) p hT) hd
end L2
namespace QF
open PySem L2
def f6(S:Int→Prop):Option Int→Prop
 |none=>∀v,¬S v
 |some m=>S m∧∀v,S v→v≤m
theorem f6.iff{S T:Int→Prop}{a:Option Int}(ha:f6 S a)(h:∀v,S v↔T v):f6 T a:=by
 cases a with
 |none=>exact fun v hv=>ha v ((h v).mpr hv)
 |some m=>exact⟨(h m).mp ha.1,fun v hv=>ha.2 v ((h v).mpr hv)⟩
def bF:Option Int→Int→Option Int
 |none,_=>none
 |some v,p=>some (v-p)
theorem f6.less{S:Int→Prop}{a:Option Int}(ha:f6 S a)(p:Int):f6 (fun v=>∃u,S u∧v=u-p) (bF a p):=by
 cases a with
 |none=>exact fun v ⟨u,hu,_⟩=>ha u hu
 |some m=>
  refine⟨⟨m,ha.1,rfl⟩,?_⟩;rintro v ⟨u,hu,rfl⟩;have:=ha.2 u hu
  lia
def oS(l:List (Option Int)):Option Int:=(l.filterMap id).max?
theorem kP(l:List (Option Int)):f6 (fun v=>some v∈l) (oS l):=by
 have key:∀v,v∈l.filterMap id↔some v∈l:=fun v=>by
  rw[List.mem_filterMap];exact⟨fun⟨o,ho,eo⟩=>by have eo:o=some v:=eo;rw[eo]at ho;exact ho,fun h=>⟨some v,h,rfl⟩⟩
 unfold oS;cases e:(l.filterMap id).max? with
 |none=>
  rw[List.max?_eq_none_iff]at e;intro v hv;have:=(key v).mpr hv;rw[e]at this;cases this
 |some m=>
  rw[List.max?_eq_some_iff]at e;exact⟨(key m).mp e.1,fun v hv=>e.2 v ((key v).mpr hv)⟩
theorem f6.UO{S T:Int→Prop}{a:Option Int}(ha:f6 S a)(h1:∀v,S v→T v)(h2:∀v,T v→∃u,S u∧v≤u):f6 T a:=by
 cases a with
 |none=>
  intro v hv;obtain⟨u,hu,_⟩:=h2 v hv;exact ha u hu
 |some m=>
  refine⟨h1 m ha.1,fun v hv=>?_⟩;obtain⟨u,hu,hle⟩:=h2 v hv;have:=ha.2 u hu
  lia
theorem yQ{S1 S2 S3:Int→Prop}{a b c:Option Int}(h1:f6 S1 a)(h2:f6 S2 b)(h3:f6 S3 c):f6 (fun v=>S1 v∨S2 v∨S3 v) (oS [a,b,c]):=by
 refine(kP [a,b,c]).UO (fun v hv=>?_) (fun v hv=>?_)
 ·simp only[List.mem_cons,List.not_mem_nil,or_false]at hv;rcases hv with e|e|e
  ·rw[←e]at h1;exact .inl h1.1
  ·rw[←e]at h2;exact .inr (.inl h2.1)
  ·rw[←e]at h3;exact .inr (.inr h3.1)
 ·have one:∀{S:Int→Prop}{o:Option Int},f6 S o→S v→o∈[a,b,c]→∃u,some u∈[a,b,c]∧v≤u:=fun{S o} hm hs ho=>by
   cases o with
   |none=>exact Y7 hs (hm v)
   |some m=>exact⟨m,ho,hm.2 v hs⟩
  rcases hv with hs|hs|hs
  ·exact one h1 hs Xs
  ·exact one h2 hs Xs
  ·exact one h3 hs Xs
def kh(ps:List Pr):Pr:=pr ps (ps.length-1)
def wW(c:Case)(ps:List Pr):Int:=dJ c ps (ps.length-1)
def oT(c:Case)(shut:List Pr)(ps:List Pr):Prop:=iM c ps=true∧∀p∈ps,p∉shut
def oB(c:Case)(shut:List Pr)(p:Pr):Option Int:=if p∈shut then none else c.pw p
theorem nK{ps:List Pr}{p:Pr}:kh (ps++[p])=p:=by
 unfold kh;rw[List.length_append];exact sN
theorem tN{c:Case}{ps:List Pr}{p:Pr}:∀{k:Nat},k<ps.length→dJ c (ps++[p]) k=dJ c ps k
 |0,h=>by simp only[dJ];rw[hU h]
 |k+1,h=>by simp only[dJ];rw[hU h,hU (by lia:k<ps.length),tN (by lia:k<ps.length)]
theorem KW{c:Case}{p:Pr}{w:Int}(h:c.pw p=some w):wW c [p]=w:=by
 simp[wW,dJ,pr,h]
theorem Hs{c:Case}{ps:List Pr}{p:Pr}{w:Int}(eJ:ps≠[])(h:c.pw p=some w):wW c (ps++[p])=w+wW c ps-c.gap (kh ps) p:=by
 have hp:0<ps.length:=List.length_pos_iff.mpr eJ;obtain⟨k,hk⟩:∃k,ps.length=k+1:=⟨ps.length-1,by lia⟩
 have e1:(ps++[p]).length-1=k+1:=by rw[List.length_append];simp;lia
 unfold wW kh;rw[e1];have e2:pr (ps++[p]) (k+1)=p:=by rw[←hk];exact sN
 simp only[dJ,e2,h,Option.getD_some];rw[hU (by lia:k<ps.length),tN (by lia:k<ps.length),hk];rfl
theorem oT.one{c:Case}{shut:List Pr}{p:Pr}{w:Int}(h:oB c shut p=some w):oT c shut [p]:=by
 unfold oB at h;split at h
 ·cases h
 ·rename_i hs
  refine⟨jb Xs fun k hk=>?_,fun q hq=>?_⟩
  ·have:k=0:=by simp at hk;exact hk
   subst this;simp[cW,pr,h]
  ·have:q=p:=by simpa using hq
   rw[this];exact hs
theorem oT.snoc{c:Case}{shut:List Pr}{ps:List Pr}{p:Pr}{w:Int}(o:oT c shut ps)(h:oB c shut p=some w)(st:stepOk (kh ps) p=true):oT c shut (ps++[p]):=by
 obtain⟨eJ,hg⟩:=kO o.1;unfold oB at h;split at h
 ·cases h
 ·rename_i hs
  refine⟨jb Xs ?_,fun q hq=>?_⟩
  ·rw[List.length_append];exact vV hg (by rw[h];rfl) (.inr st)
  ·rcases List.mem_append.mp hq with hq|hq
   ·exact o.2 q hq
   ·have:q=p:=by simpa using hq
    rw[this];exact hs
theorem yR{c:Case}{ps:List Pr}{p:Pr}{k:Nat}(h:k<ps.length):cW c (ps++[p]) k=cW c ps k:=by
 simp only[cW];rw[hU h,hU (by lia:k-1<ps.length)]
theorem oT.split{c:Case}{shut:List Pr}{ps:List Pr}(o:oT c shut ps):∃qs,ps=qs++[kh ps]∧(∃w,oB c shut (kh ps)=some w)∧(qs=[]∨(oT c shut qs∧stepOk (kh qs) (kh ps)=true)):=by
 obtain⟨eJ,hg⟩:=kO o.1;obtain⟨qs,p,rfl⟩:∃qs p,ps=qs++[p]:=⟨ps.dropLast,ps.getLast eJ,(List.dropLast_concat_getLast eJ).symm⟩
 rw[nK];have gl:=hg qs.length Xs;simp only[cW,sN,Bool.and_eq_true]at gl;refine⟨qs,rfl,?_,?_⟩
 ·obtain⟨w,hw⟩:=Option.isSome_iff_exists.mp gl.1;have:=o.2 p Xs;exact⟨w,by simp[oB,this,hw]⟩
 ·by_cases e:qs=[]
  ·exact .inl e
  ·have hp:0<qs.length:=List.length_pos_iff.mpr e;refine .inr ⟨⟨jb e fun k hk=>?_,fun q hq=>o.2 q (δ hq)⟩,?_⟩
   ·have:=hg k (by simp;lia);rwa[yR hk]at this
   ·have g2:=gl.2;simp only[Bool.or_eq_true,decide_eq_true_eq]at g2;rcases g2 with g2|g2
    ·lia
    ·rw[hU (by lia:qs.length-1<qs.length)]at g2;exact g2
def Ht:Option Int→Option Int→Option Int
 |none,_=>none
 |some w,none=>some w
 |some w,some b=>if b<0 then some w else some (w+b)
def Bq(f:Nat→Nat→Option Int)(o p:Int):Nat→Nat→Option Int
 |0,_=>none
 | _+1,0=>none
 |i+1,j+1=>oS [Ht (f i j) (Bq f o p i j),bF (Bq f o p i (j+1)) o,bF (Bq f o p (i+1) j) p]
termination_by i j=>(i,j)
def dH(f:Nat→Nat→Option Int)(o p:Int)(i j:Nat):Option Int:=Ht (f i j) (Bq f o p i j)
def jc(c:Case)(shut:List Pr)(i j:Nat):Option Int:=oB c shut ((i:Int),(j:Int))
theorem yS{q p:Pr}:stepOk q p=true↔q.1<p.1∧q.2<p.2:=by simp[stepOk]
theorem Hu(o:Option Int):KS o=bB o:=by cases o<;>rfl
def fF(H:Hp)(vs:List V)(L:List (List Pr)):Prop:=vs.length=L.length∧∀(k:Nat)(ps:List Pr),L[k]?=some ps→∃a us,vs[k]?=some (V.ref a)∧H a=some (.lst us)∧eF H us ps
def Oa(l:Addr)(vs:List V):Prop:=∀k:Nat,vs[k]?≠some (V.ref l)
theorem fF.nil{H:Hp}:fF H [] []:=⟨rfl,fun k ps e=>by simp at e⟩
theorem fF.same{H H':Hp}{vs:List V}{L:List (List Pr)}(w:fF H vs L)(s:au H H'):fF H' vs L:=⟨w.1,fun k ps e=>let ⟨a,us,h1,h2,h3⟩:=w.2 k ps e;⟨a,us,h1,s _ _ h2,h3.same s⟩⟩
theorem fF.put{H:Hp}{vs:List V}{L:List (List Pr)}{l:Addr}{zs:List V}{o:HO}(w:fF H vs L)(n:Oa l vs)(h:H l=some (.lst zs)):fF (upd H l o) vs L:=⟨w.1,fun k ps e=>by
 obtain⟨a,us,h1,h2,h3⟩:=w.2 k ps e;refine⟨a,us,h1,?_,h3.cF (dW.lst h)⟩;rw[ao (fun z=>n k (by rw[h1,z]))];exact h2⟩
theorem fF.append{H:Hp}{vs ws:List V}{L M:List (List Pr)}(a:fF H vs L)(b:fF H ws M):fF H (vs++ws) (L++M):=by
 refine⟨by simp[a.1,b.1],fun i p e=>?_⟩;by_cases h:i<L.length
 ·rw[Ι h]at e;obtain⟨x,us,h1,h2⟩:=a.2 i p e;exact⟨x,us,by rw[Ι (by rw[a.1];exact h)];exact h1,h2⟩
 ·rw[Ο IL]at e;obtain⟨x,us,h1,h2⟩:=b.2 _ p e;exact⟨x,us,by rw[Ο (by rw[a.1];lia),a.1];exact h1,h2⟩
theorem fF.one{H:Hp}{a:Addr}{us:List V}{ps:List Pr}(h:H a=some (.lst us))(P:eF H us ps):fF H [.ref a] [ps]:=by
 refine⟨rfl,fun i q e=>?_⟩
 match i,e with
 |0,e=>cases e;exact⟨a,us,rfl,h,P⟩
 |i+1,e=>simp at e
def du(m:Nat)(f:Nat→Option Int):List V:=(Zv m).map fun j=>bB (f j)
theorem dw(m:Nat)(f:Nat→Option Int):(du m f).length=m:=by simp[du]
theorem dz{m j:Nat}{f:Nat→Option Int}(h:j<m):(du m f)[j]?=some (bB (f j)):=by simp[du,h]
theorem qB(m:Nat)(f:Nat→Option Int):du (m+1) f=du m f++[bB (f m)]:=by simp[du,List.range_succ]
structure jl(H:Hp)(as:List Addr)(f:Nat→Nat→Option Int)(n m:Nat):Prop where
 len:as.length=n
 row:∀(i:Nat)(a:Addr),as[i]?=some a→H a=some (.lst (du m (f i)))
theorem jl.same{H H':Hp}{as:List Addr}{f:Nat→Nat→Option Int}{n m:Nat}(t:jl H as f n m)(s:au H H'):jl H' as f n m:=⟨t.len,fun i a e=>s _ _ (t.row i a e)⟩
theorem jl.at{H:Hp}{as:List Addr}{f:Nat→Nat→Option Int}{n m i:Nat}(t:jl H as f n m)(h:i<n):∃a,as[i]?=some a∧(as.map V.ref)[i]?=some (.ref a)∧H a=some (.lst (du m (f i))):=by
 have hi:i<as.length:=by rw[t.len];exact h
 refine⟨as[i],by simp[hi],by simp[hi],t.row i _ (by simp[hi])⟩
def Tab(H H':Hp)(e:Addr)(f:Nat→Nat→Option Int)(n m:Nat):Prop:=∃as:List Addr,H' e=some (.lst (as.map V.ref))∧H e=none∧jl H' as f n m∧∀a∈as,H a=none
structure BQ(K:W.Frag)(C:Addr):Prop where
 cl:wA K C
 out:bY K C "out"
 into:bY K C "into"
 kQ:bY K C "ending"
 jF:bY K C "brought"
def gR(o p:Int)(e b:Addr):List (Str×V):=[("out", .int o),("into", .int p),("ending", .ref e),("brought", .ref b)]
theorem Jh(o p:Int)(e b:Addr):(gR o p e b).lookup ("out":Str)=some (V.int o):=by kernel_rfl
theorem E2(o p:Int)(e b:Addr):(gR o p e b).lookup ("into":Str)=some (V.int p):=by kernel_rfl
theorem iz(o p:Int)(e b:Addr):(gR o p e b).lookup ("ending":Str)=some (V.ref e):=by kernel_rfl
theorem gY(o p:Int)(e b:Addr):(gR o p e b).lookup ("brought":Str)=some (V.ref b):=by kernel_rfl
theorem E3(o p:Int)(e b:Addr):(gR o p e b).lookup ("brought_behind":Str)=none:=by kernel_rfl
theorem Ob(o p:Int)(e b:Addr):bu "brought" (.ref b) (bu "ending" (.ref e) (bu "into" (.int p) (bu "out" (.int o) [])))=gR o p e b:=by kernel_rfl
def rX(f g:Nat→Option Int)(o p:Int):Nat→Option Int
 |0=>none
 |j+1=>oS [f j,bF (g (j+1)) o,bF (rX f g o p j) p]
theorem BR(f:Nat→Nat→Option Int)(o p:Int)(i:Nat):∀j,rX (dH f o p i) (Bq f o p i) o p j=Bq f o p (i+1) j
 |0=>by unfold rX Bq;rfl
 |j+1=>by
  rw[rX,Bq,BR f o p i j];rfl
theorem iR(f:Nat→Nat→Option Int)(o p:Int)(j:Nat):Bq f o p 0 j=none:=by unfold Bq;rfl
inductive lP(vs:List V)(H:Hp)(Q:VK)(u3:XK):Prop
 |mk (a:Addr) (os:List (Option Int)) (_:vs=[.ref a]) (_:H a=some (.lst (os.map bB))) (_:os.length≤1000) (_:∀H',au H H'→Q (bB (oS os)) H'):lP vs H Q u3
inductive xb(vs:List V)(H:Hp)(Q:VK)(u3:XK):Prop
 |mk (o:Option Int) (p:Int) (_:vs=[bB o, .int p]) (_:Q (bB (bF o p)) H):xb vs H Q u3
inductive Az(vs:List V)(H:Hp)(Q:VK)(u3:XK):Prop
 |mk (w b:Option Int) (_:vs=[bB w,bB b]) (_:Q (bB (Ht w b)) H):Az vs H Q u3
inductive qC(C:Addr)(vs:List V)(H:Hp)(Q:VK)(u3:XK):Prop
 |mk (x e a dx te tb:Addr) (o p:Int) (m:Nat) (f g:Nat→Option Int) (_:vs=[.ref x, .ref e, .ref a]) (_:H x=some (.ins C dx (gR o p te tb))) (_:H e=some (.lst (du m f))) (_:H a=some (.lst (du (m+1) g))) (_:m≤1000) (_:∀H' r,au H H'→H r=none→H' r=some (.lst (du (m+1) (rX f g o p)))→Q (.ref r) H'):qC C vs H Q u3
def E4(H:Hp)(v:V)(shut:List Pr):Prop:=(v= .cS∧shut=[])∨∃l us,v= .ref l∧H l=some (.lst us)∧eF H us shut
def bb(p:Pr):List Key:=[.inl p.1, .inl p.2]
def m9(kvs:List (List Key×V))(shut:List Pr):Prop:=∀p:Pr,(bE kvs (bb p)).isSome=decide (p∈shut)
inductive xc(vs:List V)(H:Hp)(Q:VK)(u3:XK):Prop
 |mk (v:V) (shut:List Pr) (_:vs=[v]) (_:E4 H v shut) (_:shut.length≤1000) (_:∀H' d kvs,au H H'→H' d=some (.dT kvs)→m9 kvs shut→Q (.ref d) H'):xc vs H Q u3
theorem eF.last{H:Hp}{xs:List V}{ps:List Pr}(P:eF H xs ps)(eJ:ps≠[]):∃t,rV xs (-1)=some (.ref t)∧H t=some (.tup [.int (kh ps).1, .int (kh ps).2]):=by
 have hp:0<ps.length:=List.length_pos_iff.mpr eJ;have hl:=P.1;obtain⟨t,h1,h2⟩:=P.Jg (k:=ps.length-1) (by lia);refine⟨t,?_,h2⟩;have e:xs=xs.take (ps.length-1)++[V.ref t]:=by
  apply List.ext_getElem?;intro n;by_cases hn:n<ps.length-1
  ·rw[Ι (by rw[List.length_take];lia),List.getElem?_take,Z1 hn]
  ·rw[Ο (by rw[List.length_take];lia),List.length_take];by_cases vF:n=ps.length-1
   ·subst vF;rw[h1];have:ps.length-1-min (ps.length-1) xs.length=0:=by lia
    rw[this];rfl
   ·rw[List.getElem?_eq_none IL,List.getElem?_eq_none Ξ]
 rw[e];exact tw _ _
theorem BS(p q:Pr):uP (j_ p) (j_ q)=decide (p=q):=by
 simp only[j_,uP,wH,Bool.and_true];rw[Bool.eq_iff_iff];simp[Prod.ext_iff]
theorem E5{m j:Nat}{f:Nat→Option Int}{u:Option Int}:(du m f).set j (bB u)=du m (fun k=>if k=j then u else f k):=by
 apply List.ext_getElem?;intro k;by_cases hk:k<m
 ·rw[dz hk];by_cases e:j=k
  ·subst e;rw[List.getElem?_set_self (by rw[dw];exact hk)];simp
  ·rw[List.getElem?_set_ne e,dz hk];have:¬k=j:=fun z=>e z.symm
   simp[this]
 ·rw[List.getElem?_eq_none (by rw[List.length_set,dw];lia),List.getElem?_eq_none (by rw[dw];lia)]
end QF
namespace L2
open PySem PySem.Spec PyProof.Rows PySem.W PySem.Calls
section
variable{X:Cx}{tg:Expr}
end
section
variable{X:Cx}
end
section
variable{X:Cx}
end
end L2
namespace QF
open PySem L2
def R4(fs:List Form)(x t:Str):Bool:=decide (x=t)||fs.any fun f=>(decide (f.1=x)&&decide (f.2.1=t))||(decide (f.1=t)&&decide (f.2.1=x))
def Oc(fs:List Form)(t:Str):List Str:=[t]++(fs.filter fun f=>decide (f.1=t)).map (·.2.1)++(fs.filter fun f=>decide (f.2.1=t)).map (·.1)
def Ji(p:Nat→Bool):Nat→Int
 |0=> -1
 |n+1=>if p n then(n:Int)else Ji p n
structure NS where
 ws:List Str
 ts:List Str
 fs:List Form
 span:Nat
def NS.p(c:NS)(t:Str)(i:Nat):Bool:=match c.ws[i]? with
 |some x=>R4 c.fs x t
 |none=>false
def NS.Od(c:NS)(n:Nat):List Int:=c.ts.map fun t=>Ji (c.p t) n
def NS.low(c:NS)(n:Nat):Int:=((c.Od n).min?).getD (-1)
def NS.at_(c:NS)(h:Nat):Option Pr:=if c.low h<c.low (h+1)∧(h:Int)-c.low (h+1)<c.span then some (c.low (h+1),(h:Int))else none
def NS.told(c:NS)(k:Nat):List Pr:=(Zv k).filterMap c.at_
def NS.holds(c:NS)(l h:Nat):Bool:=c.ts.all fun t=>(((c.ws.map fun x=>decide (x∈Oc c.fs t)).drop l).take (h-l)).any id
def NS.ok(c:NS)(l h:Nat):Bool:=c.holds l (h+1)&&!(c.holds (l+1) (h+1))&&!(c.holds l h)
def NS.row(c:NS)(l k:Nat):List Pr:=(Zv k).filterMap fun d=>if c.ok l (l+d)=true then some ((l:Int),((l+d:Nat):Int))else none
def NS.Y5(c:NS)(i:Nat):List Pr:=(Zv i).flatMap fun l=>c.row l (min c.ws.length (l+c.span)-l)
end QF
namespace L2
open PySem PySem.Spec PyProof.Rows PySem.W PySem.Calls
section
variable{X:Cx}{tg:Expr}
end
section
variable{pg:Program}{wd:World}{Ar:Around}{sh:Shared}{Rs:Result→Shared→Prop}{it:Addr}{fp wr:List Addr}{Gn:Array GenState→Array GenState→Prop}{n:Nat}{Pv:Nat→Value→Prop}{Sv:Nat→Shared→Prop}
end
section
variable{X:Cx}
end
end L2
namespace QF
open PySem L2
def qD(q p:Pr):Prop:=q.1<p.1∧q.2<p.2
def gp(o i:Int)(q p:Pr):Int:=o*(p.1-q.1-1)+i*(p.2-q.2-1)
structure Wy(g:Pr→Option Int)(ps:List Pr):Prop where
 ne:ps≠[]
 ok:∀p∈ps,(g p).isSome=true
 up:ps.Pairwise qD
def vl(g:Pr→Option Int)(o i:Int):List Pr→Int
 |[]=>0
 |[p]=>(g p).getD 0
 |p::q::r=>(g p).getD 0-gp o i p q+vl g o i (q::r)
def jZ(ps:List Pr):Pr:=ps.headD (0,0)
def lstP(ps:List Pr):Pr:=ps.getLastD (0,0)
theorem dO{ps:List Pr}{p:Pr}:lstP (ps++[p])=p:=by simp[lstP]
theorem xf(g:Pr→Option Int)(o i:Int)(q:Pr)(bs:List Pr):∀(as:List Pr),vl g o i (as++q::bs)=vl g o i (as++[q])+vl g o i (q::bs)-(g q).getD 0
 |[]=>by simp only[List.nil_append,vl];lia
 |[a]=>by
  simp only[List.cons_append,List.nil_append,vl]
  lia
 |a::b::r=>by
  have ih:=xf g o i q bs (b::r);simp only[List.cons_append]at ih⊢;simp only[vl];rw[ih]
  lia
theorem oU(g:Pr→Option Int)(o i:Int){ps:List Pr}(eJ:ps≠[])(p:Pr):vl g o i (ps++[p])=(g p).getD 0+vl g o i ps-gp o i (lstP ps) p:=by
 obtain⟨qs,q,rfl⟩:∃qs q,ps=qs++[q]:=⟨ps.dropLast,ps.getLast eJ,(List.dropLast_concat_getLast eJ).symm⟩
 rw[dO,List.append_assoc];have:=xf g o i q [p] qs;simp only[List.singleton_append]at this⊢;rw[this];simp only[vl]
 lia
theorem Wy.one{g:Pr→Option Int}{p:Pr}(h:(g p).isSome=true):Wy g [p]:=by
 refine⟨XU,fun q hq=>?_,XU⟩;have e:q=p:=by simpa using hq
 rw[e];exact h
theorem qE{a b c:Pr}(h1:qD a b)(h2:qD b c):qD a c:=⟨Int.lt_trans h1.1 h2.1,Int.lt_trans h1.2 h2.2⟩
theorem pw_lst{ps:List Pr}(h:ps.Pairwise qD){q:Pr}(hq:q∈ps):q=lstP ps∨qD q (lstP ps):=by
 have eJ:ps≠[]:=fun z=>by rw[z]at hq;cases hq
 obtain⟨qs,x,rfl⟩:∃qs x,ps=qs++[x]:=⟨ps.dropLast,ps.getLast eJ,(List.dropLast_concat_getLast eJ).symm⟩
 rw[dO];rcases List.mem_append.mp hq with hq|hq
 ·exact .inr ((List.pairwise_append.mp h).2.2 q hq x (XU))
 ·exact .inl (by simpa using hq)
theorem Wy.snoc{g:Pr→Option Int}{ps:List Pr}{p:Pr}(w:Wy g ps)(h:(g p).isSome=true)(s:qD (lstP ps) p):Wy g (ps++[p]):=by
 refine⟨XU,fun q hq=>?_,ζ ⟨w.up,XU,fun a ha b hb=>?_⟩⟩
 ·rcases List.mem_append.mp hq with hq|hq
  ·exact w.ok q hq
  ·have:q=p:=by simpa using hq
   rw[this];exact h
 ·have:b=p:=by simpa using hb
  rw[this];rcases pw_lst w.up ha with e|e
  ·rw[e];exact s
  ·exact qE e s
theorem Wy.split{g:Pr→Option Int}{ps:List Pr}(w:Wy g ps):∃qs,ps=qs++[lstP ps]∧(∃v,g (lstP ps)=some v)∧(qs=[]∨(Wy g qs∧qD (lstP qs) (lstP ps))):=by
 obtain⟨qs,x,rfl⟩:∃qs x,ps=qs++[x]:=⟨ps.dropLast,ps.getLast w.ne,(List.dropLast_concat_getLast w.ne).symm⟩
 rw[dO];refine⟨qs,rfl,Option.isSome_iff_exists.mp (w.ok x (XU)),?_⟩;by_cases e:qs=[]
 ·exact .inl e
 ·have h:=List.pairwise_append.mp w.up;refine .inr ⟨⟨e,fun q hq=>w.ok q (δ hq),h.1⟩,h.2.2 _ ?_ x (XU)⟩;obtain⟨rs,y,rfl⟩:∃rs y,qs=rs++[y]:=⟨qs.dropLast,qs.getLast e,(List.dropLast_concat_getLast e).symm⟩
  rw[dO];simp
theorem dA{ps:List Pr}(h:ps≠[]):lstP ps∈ps:=by
 obtain⟨rs,y,rfl⟩:∃rs y,ps=rs++[y]:=⟨ps.dropLast,ps.getLast h,(List.dropLast_concat_getLast h).symm⟩
 rw[dO];simp
def lf(f:Nat→Nat→Option Int)(p:Pr):Option Int:=if 0≤p.1∧0≤p.2 then f p.1.toNat p.2.toNat else none
theorem qF(f:Nat→Nat→Option Int)(i j:Nat):lf f ((i:Int),(j:Int))=f i j:=by simp[lf]
theorem BU{f:Nat→Nat→Option Int}{p:Pr}(h:(lf f p).isSome=true):∃i j:Nat,p=((i:Int),(j:Int)):=by
 unfold lf at h;split at h
 ·rename_i hh
  exact⟨p.1.toNat,p.2.toNat,Prod.ext Ξ (by simp;lia)⟩
 ·cases h
def P8(f:Nat→Nat→Option Int)(o p:Int)(i j:Nat)(v:Int):Prop:=∃ps,Wy (lf f) ps∧(lstP ps).1<(i:Int)∧(lstP ps).2<(j:Int)∧v=vl (lf f) o p ps-(o*((i:Int)-1-(lstP ps).1)+p*((j:Int)-1-(lstP ps).2))
def P9(f:Nat→Nat→Option Int)(o p:Int)(q:Pr)(v:Int):Prop:=∃ps,Wy (lf f) ps∧lstP ps=q∧v=vl (lf f) o p ps
theorem BV{f:Nat→Nat→Option Int}{o p:Int}{i j:Nat}{b:Option Int}(h:f6 (P8 f o p i j) b):f6 (P9 f o p ((i:Int),(j:Int))) (Ht (f i j) b):=by
 cases e:f i j with
 |none=>
  rintro v ⟨ps,w,el,rfl⟩;obtain⟨qs,_,⟨x,hx⟩,_⟩:=w.split;rw[el,qF,e]at hx;cases hx
 |some x=>
  have eg:lf f ((i:Int),(j:Int))=some x:=by rw[qF];exact e
  have AA:∀ps,Wy (lf f) ps→lstP ps=((i:Int),(j:Int))→vl (lf f) o p ps=x∨∃v,P8 f o p i j v∧vl (lf f) o p ps=x+v:=fun ps w el=>by
   obtain⟨qs,eq,_,hq⟩:=w.split;rw[el]at eq hq;rcases hq with rfl|⟨wq,st⟩
   ·left
    rw[eq];simp[vl,eg]
   ·right
    refine⟨_,⟨qs,wq,st.1,st.2,rfl⟩,?_⟩;rw[eq,oU _ _ _ wq.ne,eg];simp only[gp,Option.getD_some];have e1:(i:Int)-(lstP qs).1-1=(i:Int)-1-(lstP qs).1:=by lia
    have e2:(j:Int)-(lstP qs).2-1=(j:Int)-1-(lstP qs).2:=by lia
    rw[e1,e2]
    lia
  have alone:P9 f o p ((i:Int),(j:Int)) x:=⟨[((i:Int),(j:Int))], .one (by rw[eg];rfl),rfl,by simp[vl,eg]⟩
  have more:∀v,P8 f o p i j v→P9 f o p ((i:Int),(j:Int)) (x+v):=by
   rintro v ⟨ps,w,l1,l2,rfl⟩;refine⟨ps++[((i:Int),(j:Int))],w.snoc (by rw[eg];rfl) ⟨l1,l2⟩,dO,?_⟩;rw[oU _ _ _ w.ne,eg];simp only[gp,Option.getD_some];have e1:(i:Int)-(lstP ps).1-1=(i:Int)-1-(lstP ps).1:=by lia
   have e2:(j:Int)-(lstP ps).2-1=(j:Int)-1-(lstP ps).2:=by lia
   rw[e1,e2]
   lia
  cases b with
  |none=>
   refine⟨alone,?_⟩;rintro v ⟨ps,w,el,rfl⟩;rcases AA ps w el with h1|⟨u,hu,_⟩
   ·lia
   ·exact Y7 hu (h u)
  |some m=>
   simp only[Ht];split
   ·refine⟨alone,?_⟩;rintro v ⟨ps,w,el,rfl⟩;rcases AA ps w el with h1|⟨u,hu,h2⟩
    ·lia
    ·have:=h.2 u hu
     lia
   ·refine⟨more m h.1,?_⟩;rintro v ⟨ps,w,el,rfl⟩;rcases AA ps w el with h1|⟨u,hu,h2⟩
    ·lia
    ·have:=h.2 u hu
     lia
theorem yT{f:Nat→Nat→Option Int}{ps:List Pr}(w:Wy (lf f) ps):0≤(lstP ps).1∧0≤(lstP ps).2:=by
 obtain⟨a,b,e⟩:=BU (w.ok _ (dA w.ne));rw[e];simp
theorem f7(f:Nat→Nat→Option Int)(o p:Int):∀i j:Nat,f6 (P8 f o p i j) (Bq f o p i j)
 |0,j=>by
  unfold Bq;rintro v ⟨ps,w,l1,_⟩;have:=yT w;simp at l1
  lia
 |i+1,0=>by
  unfold Bq;rintro v ⟨ps,w,_,l2,_⟩;have:=yT w;simp at l2
  lia
 |i+1,j+1=>by
  rw[Bq];refine(yQ (BV (f7 f o p i j)) ((f7 f o p i (j+1)).less o) ((f7 f o p (i+1) j).less p)).iff fun v=>?_
  constructor
  ·rintro(⟨ps,w,el,rfl⟩|⟨u,⟨ps,w,l1,l2,rfl⟩,rfl⟩|⟨u,⟨ps,w,l1,l2,rfl⟩,rfl⟩)
   ·refine⟨ps,w,by rw[el];simp;lia,by rw[el];simp;lia,?_⟩;rw[el];have e1:((i+1:Nat):Int)-1-(i:Int)=0:=by lia
    have e2:((j+1:Nat):Int)-1-(j:Int)=0:=by lia
    simp only[e1,e2,Int.mul_zero]
    lia
   ·refine⟨ps,w,by lia,by lia,?_⟩;have e1:((i+1:Nat):Int)-1-(lstP ps).1=((i:Int)-1-(lstP ps).1)+1:=by lia
    rw[e1,Int.mul_add]
    lia
   ·refine⟨ps,w,by lia,by lia,?_⟩;have e1:((j+1:Nat):Int)-1-(lstP ps).2=((j:Int)-1-(lstP ps).2)+1:=by lia
    rw[e1,Int.mul_add]
    lia
  ·rintro⟨ps,w,l1,l2,rfl⟩;by_cases h1:(lstP ps).1<(i:Int)
   ·right;left
    refine⟨_,⟨ps,w,h1,l2,rfl⟩,?_⟩;have e1:((i+1:Nat):Int)-1-(lstP ps).1=((i:Int)-1-(lstP ps).1)+1:=by lia
    rw[e1,Int.mul_add]
    lia
   ·by_cases h2:(lstP ps).2<(j:Int)
    ·right;right
     refine⟨_,⟨ps,w,l1,h2,rfl⟩,?_⟩;have e1:((j+1:Nat):Int)-1-(lstP ps).2=((j:Int)-1-(lstP ps).2)+1:=by lia
     rw[e1,Int.mul_add]
     lia
    ·left
     have a1:(lstP ps).1=(i:Int):=by lia
     have a2:(lstP ps).2=(j:Int):=by lia
     refine⟨ps,w,Prod.ext a1 a2,?_⟩;have e1:((i+1:Nat):Int)-1-(lstP ps).1=0:=by lia
     have e2:((j+1:Nat):Int)-1-(lstP ps).2=0:=by lia
     simp only[e1,e2,Int.mul_zero]
     lia
termination_by i j=>(i,j)
theorem tO(f:Nat→Nat→Option Int)(o p:Int)(i j:Nat):f6 (P9 f o p ((i:Int),(j:Int))) (dH f o p i j):=BV (f7 f o p i j)
def fr(f:Nat→Nat→Option Int)(n m:Nat)(a b:Nat):Option Int:=if a<n∧b<m then f (n-1-a) (m-1-b)else none
def DO(f:Nat→Nat→Option Int)(n m:Nat):Prop:=∀i j,(f i j).isSome=true→i<n∧j<m
theorem xg(c:Case)(shut:List Pr)(p:Pr):lf (jc c shut) p=oB c shut p:=by
 unfold lf;split
 ·rename_i h
  unfold jc
  congr 1
  exact Prod.ext Ξ (by simp;lia)
 ·rename_i h
  unfold oB;split
  ·rfl
  ·exact(c.pw_out IL).symm
theorem KY(c:Case)(shut:List Pr):DO (jc c shut) c.xs.length c.ys.length:=fun i j h=>by
 unfold jc oB at h;split at h
 ·cases h
 ·obtain⟨w,hw⟩:=Option.isSome_iff_exists.mp h;have:=c.pw_in hw;simp at this
  lia
theorem xh{ps:List Pr}(h:ps≠[]):kh ps=lstP ps:=by
 obtain⟨qs,x,rfl⟩:∃qs x,ps=qs++[x]:=⟨ps.dropLast,ps.getLast h,(List.dropLast_concat_getLast h).symm⟩
 rw[nK,dO]
theorem KZ{c:Case}{shut:List Pr}{p:Pr}{w:Int}(h:oB c shut p=some w):c.pw p=some w∧p∉shut:=by
 unfold oB at h;split at h
 ·cases h
 ·rename_i hs
  exact⟨h,hs⟩
theorem xi{c:Case}{shut:List Pr}:∀{k:Nat}{ps:List Pr},ps.length=k→oT c shut ps→Wy (oB c shut) ps∧wW c ps=vl (oB c shut) c.out c.into ps
 |0,ps,hk,o=>Y7 (List.length_eq_zero_iff.mp hk) (kO o.1).1
 |k+1,ps,hk,o=>by
  obtain⟨qs,eq,⟨w,hw⟩,hq⟩:=o.split;generalize kh ps=p at eq hw hq;subst eq;have hp:=KZ hw;rcases hq with rfl|⟨oq,st⟩
  ·exact⟨.one (by rw[hw];rfl),by rw[List.nil_append,KW hp.1];simp[vl,hw]⟩
  ·have hlen:qs.length=k:=by simpa using hk
   obtain⟨wq,vq⟩:=xi hlen oq;have el:=xh wq.ne;rw[yS,el]at st;refine⟨wq.snoc (by rw[hw];rfl) st,?_⟩;rw[Hs wq.ne hp.1,oU _ _ _ wq.ne,hw,vq,el];rfl
theorem BX{c:Case}{shut:List Pr}:∀{k:Nat}{ps:List Pr},ps.length=k→Wy (oB c shut) ps→oT c shut ps
 |0,ps,hk,w=>Y7 (List.length_eq_zero_iff.mp hk) w.ne
 |k+1,ps,hk,w=>by
  obtain⟨qs,eq,⟨v,hv⟩,hq⟩:=w.split;generalize lstP ps=p at eq hv hq;subst eq;rcases hq with rfl|⟨wq,st⟩
  ·exact .one hv
  ·have hlen:qs.length=k:=by simpa using hk
   exact(BX hlen wq).snoc hv (yS.mpr (by rw[xh wq.ne];exact st))
theorem yU{c:Case}{shut:List Pr}{ps:List Pr}:oT c shut ps↔Wy (lf (jc c shut)) ps:=by
 have:lf (jc c shut)=oB c shut:=by funext p;exact xg c shut p
 rw[this];exact⟨fun o=>(xi rfl o).1,fun w=>BX rfl w⟩
theorem Hv{c:Case}{shut:List Pr}{ps:List Pr}(o:oT c shut ps):wW c ps=vl (lf (jc c shut)) c.out c.into ps:=by
 have:lf (jc c shut)=oB c shut:=by funext p;exact xg c shut p
 rw[this];exact(xi rfl o).2
end QF
namespace L2
open PySem PySem.Spec PyProof.Rows PySem.W PySem.Calls
section
variable{X:Cx}
open Classical in
end
end L2
namespace QF
open PySem L2
theorem eF.first{H:Hp}{xs:List V}{ps:List Pr}(P:eF H xs ps)(eJ:ps≠[]):∃t,rV xs 0=some (.ref t)∧H t=some (.tup [.int (jZ ps).1, .int (jZ ps).2]):=by
 cases ps with
 |nil=>exact absurd rfl eJ
 |cons p r=>
  obtain⟨t,h1,h2⟩:=P.2 0 p rfl;exact⟨t,ar (j:=0) h1,h2⟩
end QF
namespace L2
open PySem PySem.Spec PyProof.Rows PySem.W PySem.Calls
section
variable{prog:Program}{w:World}{κ:Type}[DecidableEq κ]{knd:HeapKind prog w κ}{A:Around}{E:Value→Shared→Prop}{s:Shared}
theorem vX{α β:Type}(f:α→β):∀(xs:List α)(j:Nat),(xs.eraseIdx j).map f=(xs.map f).eraseIdx j
 |[],_=>XU
 | _::_,0=>XU
 | _::r,j+1=>by simp[vX f r j]
theorem C9{xs:List (κ×Addr×Value)}(hn:(xs.map (·.1)).Nodup):∀{j:Nat}{k:κ}{p:Addr×Value},xs[j]?=some (k,p)→xs.eraseIdx j=xs.filter fun x=>decide (x.1≠k):=by
 induction xs with
 |nil=>intro j k p h;simp at h
 |cons x r ih=>
  intro j k p h;have D1:=List.nodup_cons.mp (by simpa using hn:(x.1::r.map (·.1)).Nodup);cases j with
  |zero=>
   have:x=(k,p):=by simpa using h
   subst this;have hf:r.filter (fun x=>decide (x.1≠k))=r:=List.filter_eq_self.mpr fun y hy=>by
    have:y.1≠k:=fun e=>D1.1 (List.mem_map.mpr ⟨y,hy,e⟩)
    simpa using this
   simp only[List.eraseIdx_cons_zero,List.filter_cons];rw[hf];simp
  |succ j=>
   have hj:r[j]?=some (k,p):=by simpa using h
   have hx:x.1≠k:=fun e=>D1.1 (e▸(List.mem_map.mpr ⟨(k,p),ZS hj,rfl⟩))
   simp only[List.eraseIdx_cons_succ,List.filter_cons];rw[ih D1.2 hj,Z1 (by simpa using hx)]
theorem xj{d a:Addr}{xs:List (κ×Addr×Value)}{k:κ}{p:Addr×Value}{Q:Option DictEntry→Shared→Prop}(hu:knd.room A)(oG:knd.is s.heap k a)(hm:s.heap.DictOfH knd d xs)(hp:atKey xs k=some p)(hsz:xs.length≤sizeLine)
  (h:∀h' e,e.val=p.2→h'.DictOfH knd d (xs.filter fun x=>decide (x.1≠k))→Heap.SameBut d s.heap h'→Q (some e) {s with heap:=h',toks:=s.toks+knd.draws k}):wpAny (model prog w) A (Builtin.Dict.takeOut d (.ref a)) Q E s:=by
 obtain⟨o,es,ep,ho,hc,hd,he,R5,hn⟩:=hm;unfold Builtin.Dict.takeOut
 try with_reducible refine wpAny_holding ?_
 refine wpAny_bind (knd.pyHash hu oG ?_);refine wpAny_bind (wpAny_dictFind_heap (s:={s with toks:=s.toks+knd.draws k}) hu oG ho hd he R5 hn ?_ ?_)
 ·intro C_;rw[atKey_none_of_get C_]at hp;cases hp
 ·intro j q hj;have eq:q=p:=by rw[atKey_of_get hn hj]at hp;exact Zu hp
  subst eq;refine wpAny_bind (wpAny_dictEntries (s:={s with toks:=s.toks+knd.draws k}) ho hd ?_);rw[entry_at he j,hj];refine wpAny_bind (wpAny_updateDictKeys (hz:=by have e:=size_of_entries he;lia) (s:={s with toks:=s.toks+knd.draws k}) ho hd (wpAny_pure (h _ _ rfl ⟨_,_,ep+1,Heap.get?_update_self _ ho (Obj.isFreed_of_dict (Obj.data_mapDictKeys hd _)),
   hc.mapDictKeys _,Obj.data_mapDictKeys hd _,?_,?_,?_⟩ (Heap.SameBut.update ..))))
  ·rw[←C9 hn hj,vX,←he];obtain⟨l⟩:=es;simp
  ·intro x hx;exact knd.keeps (R5 x (List.mem_filter.mp hx).1) ho hd (Heap.SameBut.update ..)
  ·exact hn.sublist (List.filter_sublist.map _)
theorem AB(d a:Addr):
  MeetsIn prog w (Builtin.«dict.pop» ⟨[.ref d, .ref a],[]⟩) (fun A R s=>knd.room A.in1∧∃k xs p,knd.is s.heap k a∧s.heap.DictOfH knd d xs∧xs.length≤sizeLine∧atKey xs k=some p∧
   ∀h',h'.DictOfH knd d (xs.filter fun x=>decide (x.1≠k))→Heap.SameBut d s.heap h'→R (.ok (.ret p.2)) {s with heap:=h',toks:=s.toks+knd.draws k}):=
 .of_wp fun A R s ⟨hu,k,xs,p,oG,hm,hsz,hp,h⟩=>by
  obtain⟨o,es,ep,ho,hc,hd,he,R5,hn⟩:=id hm;have eJ:es.isEmpty=false:=by
   cases hx:xs with
   |nil=>rw[hx]at hp;cases hp
   |cons x r=>
    have:=size_of_entries he;rw[hx]at this;simp at this;rw[Array.isEmpty_eq_false_iff];intro e;rw[e]at this;simp at this
  unfold Builtin.«dict.pop»;refine wpAny_bind ?_;unfold Builtin.Dict.keyAndDefault;refine wpAny_bind (wpAny_notOrdered_dict hm.typeIs ?_);show wpAny _ _ (pure (d,Value.ref a,none)) _ _ s;refine wpAny_pure ?_;have Oe:(keyPart (Value.ref a)).isSome=false:=rfl;simp only[Oe,Bool.false_eq_true,if_false];refine wpAny_bind (wpAny_dictEntries ho hd (Zk (YZ ?_)));rw[eJ];simp only[Bool.false_eq_true,if_false];refine wpAny_bind (xj hu oG hm hp hsz fun h' e W7 I_ m8=>?_);simp only[Option.isNone_some,Bool.false_eq_true,if_false];exact Zk (wpAny_letGo (YZ ⟨e.val,rfl,by rw[W7];exact h h' I_ m8⟩))
end
section
variable{X:Cx}{pins:List (Addr×Obj)}{σ:St}{H:Hp}{s:Shared}{a:Addr}{u:Value}{A:Around}{E:Value→Shared→Prop}{kvs:List (List Key×V)}
theorem KT.drop{xs:List (List Key×Addr×Value)}(r:KT H kvs xs)(k:List Key):KT H (jh kvs k) (xs.filter fun x=>decide (x.1≠k)):=by
 unfold jh
 induction r with
 |nil=>exact .nil
 |cons z t ih=>
  simp only[List.filter_cons];rw[z.1];split
  ·exact .cons z ih
  ·exact ih
theorem K0{v:V}{k:List Key}{b:Addr}{Q:Value→Shared→Prop}(hu:A.units+1<cLine)(I:Inv X pins σ H s)(e:H a=some (.dT kvs))(eb:H b=some (.tup (k.map kV)))(l:bE kvs k=some v)
  (h:∀w' s',Inv X pins σ (upd H a (.dT (jh kvs k))) s'→RelV v w'→Q w' s'):wpAny (model X.prog X.w) A (call (.builtin "dict.pop") [.ref a, .ref b]) Q E s:=by
 obtain⟨z,hd,xs,rel,dd⟩:=IU I.bX e;have rv:=rel.val k;rw[l]at rv;obtain⟨w',hw,f9⟩:=kG.some_of rv;obtain⟨p,hp,rfl⟩:=Option.map_eq_some_iff.mp hw;refine call_meetsIn PySem.F.slot_dict_pop dd.typeIs PySem.F.entry_dict_pop (PySem.F.args_dict_pop_2 _ _) (AB (knd:=tupleKind (c_ X.prog X.w)) a b)
  ⟨tupleKind_room_in1 hu,k,xs,p,nE I.bX eb,dd,by rw[←Paired.length rel];exact z,hp,fun h' IV hs=>h _ _ ?_ f9⟩
 obtain⟨q,es,ep,hq,h2,h3,h4,_,h5⟩:=IV;refine wD I (by rw[e];exact True.intro) hs ⟨q,hq⟩ ⟨Nat.le_trans (yE kvs k) z,hd,_,(rel.drop k).keeps fun c ys ec=>?_,q,es,ep,hq,h2,h3,h4,h5⟩;rw[ao (jf ec e (fun z=>nomatch z))];exact ec
end
inductive Jj(x y:V)(H:Hp)(Q:VK):Prop
 |mk (a b:Addr) (kvs:List (List Key×V)) (k:List Key) (v:V) (_:x= .ref a) (_:y= .ref b) (_:H a=some (.dT kvs)) (_:H b=some (.tup (k.map kV))) (_:bE kvs k=some v) (_:Q v (upd H a (.dT (jh kvs k)))):Jj x y H Q
def Of(td ty:TE):TE:=fun σ H Q=>td σ H fun x H1=>∃a,x= .ref a∧Rv H1 a∧ty σ H1 fun y H2=>Jj x y H2 Q
theorem E6{X:Cx}{o e:Expr}{apos eK:Pos}{td ty:TE}(hu:X.A.units+1<cLine)(ho:PE X o td)(he:PE X e ty)(m:M1 X o "pop" apos e eK):PE X (.Call (.Attribute o "pop" apos) [e] [] eK) (Of td ty):=by
 intro pins s σ H Q I h;refine wpAny_Call_method m.base m.zJ m.line PySem.F.plainAttrs_dict PySem.F.slot_dict_pop PySem.F.type_dict_pop (cH (ho pins s σ H _ I h) fun u s1 ⟨x,H1,I1,rx,a,ex,d,q1⟩=>?_);subst ex;obtain rfl:u=Value.ref a:=rx;obtain⟨t1,t2,_⟩:=Ek I1 d;refine⟨t1,t2,?_⟩;rw[m.trees];refine Calls.callWith_builtin rfl (Calls.evalArgs_plain (Calls.spliced_cons (cH (he pins s1 σ H1 _ I1 q1) fun iv s2 ⟨y,H2,I2,ry,q2⟩=>Calls.spliced_nil ?_)));obtain⟨a',b,kvs,k,v,e1,rfl,e2,e3,l,q⟩:=q2;cases e1;obtain rfl:iv=Value.ref b:=ry;exact K0 hu I2 e2 e3 l fun w' s3 I3 f9=>⟨v,_,I3,f9,q⟩
section
variable{prog:Program}{w:World}{A:Around}{E:Value→Shared→Prop}{s:Shared}{it d:Addr}{i ep:Nat}{od:Obj}{es:Array DictEntry}{Q:Option Value→Shared→Prop}
theorem E7(hit:s.heap.IsValIter it d i es.size ep)(Jk:s.heap.get? d=some od)(Jl:od.data= .dict es ep)(hi:i<es.size)
  (hQ:∀h',h'.IsValIter it d (i+1) es.size ep→Heap.SameBut it s.heap h'→Q (some es[i].val) {s with heap:=h'}):wpAny (model prog w) A (pyNext (.ref it)) Q E s:=by
 obtain⟨o,ho,hc,hd⟩:=id hit;have T:=hit.typeIs;have C_:Builtin.Dict_items.ownsTuple "dict_valueiterator"=false:=WD;unfold pyNext;refine wpAny_bind (wpAny_attempt (wpAny_callSpecial?_slot (name:=Str.ofString "__next__") T F.slot_dict_valueiterator_next (wpAny_call_entry F.slot_dict_valueiterator_next T F.entry_dict_valueiterator_next ?_ (F.args_dict_valueiterator_next_1 _))));refine wpAny_bind (YZ (Zk (Zk ?_)));first|refine wpAny_bind (wpAny_typeNameOfWhole_valiter T (YZ ?_))|refine wpAny_bind (wpAny_typeNameOf_valiter T (YZ ?_))
 refine wpAny_bind (wpAny_fieldsOf ho hd ?_);simp only[C_,Bool.false_eq_true,if_false];show wpAny _ _ (if (Value.ref d==Value.none)=true then _ else _) _ _ s;rw[ZY (show ¬((Value.ref d==Value.none)=true)from Bool.false_ne_true)];refine wpAny_bind (YZ (Zk (wpAny_dictEntries Jk Jl ?_)));rw[if_neg Xs];refine wpAny_bind (YZ (Zk (wpAny_dictEpoch Jk Jl ?_)));rw[if_neg Xs];refine wpAny_pure ?_;simp only[show ¬((i:Int)<0)from by lia,if_false,Int.toNat_natCast,Array.getElem?_eq_getElem hi];refine wpAny_bind ?_;first|refine wpAny_bind (wpAny_typeNameOfWhole_valiter T (YZ ?_))|refine wpAny_bind (wpAny_typeNameOf_valiter T (YZ ?_))
 refine wpAny_bind (wpAny_isOneOf_valiter T ?_);show wpAny _ _ (setField (.ref it) 1 (rawInt ((i:Int)+1))>>=_) _ _ s;refine wpAny_bind (wpAny_setField ho hd Xs ?_);have ht:(s.heap.update it (Obj.mapFields (·.setIfInBounds 1 (rawInt ((i:Int)+1))))).IsValIter it d (i+1) es.size ep:=
  ⟨_,Heap.get?_update_self _ ho (Obj.isFreed_of_fields (Obj.data_mapFields hd _)),(Obj.cls_mapFields ..).trans hc,by rw[Obj.data_mapFields hd];simp[rawInt]⟩
 refine wpAny_bind (wpAny_holding (Zk (wpAny_isOneOf_valiter (s:={s with heap:=s.heap.update it (Obj.mapFields (·.setIfInBounds 1 (rawInt ((i:Int)+1))))}) ht.typeIs ?_)));refine wpAny_bind (wpAny_isOneOf_valiter (s:={s with heap:=s.heap.update it (Obj.mapFields (·.setIfInBounds 1 (rawInt ((i:Int)+1))))}) ht.typeIs ?_);show wpAny _ _ (pure es[i].val) _ _ _;exact YZ (YZ ⟨_,rfl,YZ (hQ _ ht (Heap.SameBut.update ..))⟩)
theorem Hw(hh:A.handled=none)(hit:s.heap.IsValIter it d i es.size ep)(Jk:s.heap.get? d=some od)(Jl:od.data= .dict es ep)(hi:es.size≤i)
  (hQ:∀h',Heap.ExtBut it s.heap h'→Q none {s with heap:=h'}):wpAny (model prog w) A (pyNext (.ref it)) Q E s:=by
 obtain⟨o,ho,hc,hd⟩:=id hit;have T:=hit.typeIs;have C_:Builtin.Dict_items.ownsTuple "dict_valueiterator"=false:=WD;unfold pyNext;refine wpAny_bind (wpAny_attempt (wpAny_callSpecial?_slot (name:=Str.ofString "__next__") T F.slot_dict_valueiterator_next (wpAny_call_entry F.slot_dict_valueiterator_next T F.entry_dict_valueiterator_next ?_ (F.args_dict_valueiterator_next_1 _))));refine wpAny_bind (YZ (Zk (Zk ?_)));first|refine wpAny_bind (wpAny_typeNameOfWhole_valiter T (YZ ?_))|refine wpAny_bind (wpAny_typeNameOf_valiter T (YZ ?_))
 refine wpAny_bind (wpAny_fieldsOf ho hd ?_);simp only[C_,Bool.false_eq_true,if_false];show wpAny _ _ (if (Value.ref d==Value.none)=true then _ else _) _ _ s;rw[ZY (show ¬((Value.ref d==Value.none)=true)from Bool.false_ne_true)];refine wpAny_bind (YZ (Zk (wpAny_dictEntries Jk Jl ?_)));rw[if_neg Xs];refine wpAny_bind (YZ (Zk (wpAny_dictEpoch Jk Jl ?_)));rw[if_neg Xs];refine wpAny_pure ?_;simp only[show ¬((i:Int)<0)from by lia,if_false,Int.toNat_natCast,Array.getElem?_eq_none hi];refine wpAny_bind ?_;first|refine wpAny_bind (wpAny_typeNameOfWhole_valiter T (YZ ?_))|refine wpAny_bind (wpAny_typeNameOf_valiter T (YZ ?_))
 show wpAny _ _ (setField (.ref it) 0 .none>>=_) _ _ s;refine wpAny_bind (wpAny_setField ho hd Xs ?_);show wpAny _ _ (newExc (.type "StopIteration") []>>=_) _ _ _;refine wpAny_bind ?_;simp only[newExc,newTuple];refine wpAny_bind (wpAny_newObj_type ?_ (by size_fits));refine wpAny_bind (m:=firstArgMember _ _) (wpAny_of_eq (a:=Value.none) (by first|rfl|(simp only[firstArgMember];rfl)) ?_);refine wpAny_newObj_type ?_ (by size_fits);simp only[raiseNew];refine wpAny_bind (wpAny_handled ?_);rw[show A.in1.handled=none from hh];refine wpAny_bind (YZ (wpAny_throw ?_));refine wpAny_bind (wpAny_isInstance (T:="StopIteration") (b:=true) ⟨_,Heap.get?_push_size _ rfl,rfl⟩ isSubtype_stop ?_);exact YZ (hQ _ (((Heap.SameBut.update ..).extBut.push _).push _))
end
theorem vY{α β:Type}{F:α→β→Prop}:∀{l:List α}{m:List β}{i:Nat}{a:α},Paired F l m→l[i]?=some a→∃b,m[i]?=some b∧F a b
 | _,_,_,_, .nil,e=>by simp at e
 | _,_,0,_, .cons r _,e=>by simp at e;subst e;exact⟨_,rfl,r⟩
 | _,_,i+1,_, .cons _ t,e=>by
  obtain⟨b,h,f⟩:=vY (i:=i) t (by simpa using e);exact⟨b,by simpa using h,f⟩
def R6(d:Addr)(o:Obj)(kvs:List (List Key×V)):It:=
 ⟨fun i H=>H d=some (.sF o (.dT kvs))∧i<kvs.length,fun i H x H'=>H'=H∧∃p,kvs[i]?=some p∧x=p.2,fun i H=>H d=some (.sF o (.dT kvs))∧kvs.length≤i⟩
theorem BY{P:Program}{w:World}{H:Hp}{h:Heap}{d:Addr}{o:Obj}{kvs:List (List Key×V)}{es:Array DictEntry}{ep:Nat}(ok:lJ P w H h)(e:H d=some (.sF o (.dT kvs)))(hd:o.data= .dict es ep):
  h.get? d=some o∧es.size=kvs.length∧∀i (hi:i<es.size) p,kvs[i]?=some p→RelV p.2 es[i].val:=by
 obtain⟨q1,_,_,xs,r,o',Pu,Px,z1,z2,z3,z4,_⟩:=ok d _ e;rw[q1]at z1;cases z1;rw[hd]at z3;cases z3;have hs:=size_of_entries z4;have hl:=Paired.length r;refine⟨q1,by rw[hs,hl],fun i hi p hp=>?_⟩;obtain⟨x,hx,rx⟩:=vY r hp;have e1:=entry_at z4 i;rw[hx,Array.getElem?_eq_getElem hi]at e1;have:es[i]=entryOfKey (tupleKind (c_ P w)) x:=Zu e1;rw[this];exact rx.2.2
theorem turn_val{P:Program}{w:World}{K:Frag}{tg:Expr}{it d:Addr}{o:Obj}{kvs:List (List Key×V)}{es:Array DictEntry}{ep:Nat}(hd:o.data= .dict es ep):Turn P w K tg (R6 d o kvs) [it] it (fun i h=>h.IsValIter it d i es.size ep) where
 mem:=XU
 obj:=fun i h st b hb=>by
  have e:b=it:=by simpa using hb
  subst e;obtain⟨o,e,c,d⟩:=st;exact⟨o,e,fun v z=>by rw[d]at z;cases z⟩
 keep:=fun i h h' st k=>let ⟨o,ho,r⟩:=st;⟨o,k it (XU) o ho,r⟩
 item:=by
  intro X hP hw hK hc i pins s σ H E I hf st hg;subst hP hw hK;obtain⟨hg,hi⟩:=hg;obtain⟨f0,f1,f2,f3,f4,f5⟩:=hf it (XU);obtain⟨g1,g2,g3⟩:=BY I.bX hg hd;have BF:i<es.size:=by lia
  refine E7 st g1 hd BF fun h' aU sb=>?_
  have I1:Inv X pins σ H {s with heap:=h'}:=I.turned (t':=s.toks) (fun b o hb e=>(sb.2 b hb).trans e) f0 f1 f3 f4 f5;obtain⟨oi,q1,q2,q3⟩:=id aU;exact⟨_,rfl,yw (s:={s with heap:=h'}) q1 q2 q3 (WD) ⟨_,H,I1,g3 i BF kvs[i] (by simp[hi]),⟨rfl,kvs[i],by simp[hi],rfl⟩,aU,fun b hb=>(hf b hb).1⟩⟩
 done:=by
  intro X hP hw hK hc i pins s σ H E I hf st hg;subst hP hw hK;obtain⟨hg,hi⟩:=hg;obtain⟨f0,f1,f2,f3,f4,f5⟩:=hf it (XU);obtain⟨g1,g2,g3⟩:=BY I.bX hg hd;exact Hw (I.ok.hd hc) st g1 hd IL fun h' eb=>⟨rfl,I.turned (t':=s.toks) (fun b o hb e=>eb b o hb e) f0 f1 f3 f4 f5⟩
 self:=fun _ _ _ _ _ st h=>wpAny_pyIter_valiter st h
section
variable{prog:Program}{w:World}{A:Around}{E:Value→Shared→Prop}{s:Shared}
theorem Dd(d:Addr)(hd:(d==sysModules)=false):MeetsIn prog w (Builtin.«dict.values» ⟨[.ref d],[]⟩) (fun _ R s=>s.TypeIs (.ref d) "dict"∧
   R (.ok (.ret (.ref s.heap.objs.size))) {s with heap:=s.heap.push {cls:= .type "dict_values",data:= .fields #[.ref d]}}):=
 .of_wp fun A R s ⟨ht,h⟩=>by
  refine wpAny_bind ?_;unfold Builtin.Dict.noArgs;refine wpAny_bind (wpAny_notOrdered_dict ht ?_);show wpAny _ _ (pure d) _ _ s;refine wpAny_pure ?_;show wpAny _ _ (Builtin.Dict.showsAll d>>=_) _ _ s;unfold Builtin.Dict.showsAll;rw[ZY (by rw[hd];exact Bool.false_ne_true)];exact Zk (YZ (Zk (wpAny_newObj_type (YZ ⟨_,rfl,h⟩))))
theorem De{v d:Addr}{od:Obj}{es:Array DictEntry}{ep:Nat}{Q:Value→Shared→Prop}(hv:s.heap.IsValuesView v d)(Jk:s.heap.get? d=some od)(Jl:od.data= .dict es ep)
  (hQ:Q (.ref s.heap.objs.size) {s with heap:=s.heap.push {cls:= .type "dict_valueiterator",data:= .fields #[.ref d, .int 0 0, .int es.size 0, .int ep 0]}}):wpAny (model prog w) A (pyIter (.ref v)) Q E s:=by
 obtain⟨ov,W8,Y6,W9⟩:=id hv;refine wpAny_pyIter_slot hv.typeIs F.slot_dict_values_iter (wpAny_call_entry F.slot_dict_values_iter hv.typeIs F.entry_dict_values_iter ?_ (F.args_dict_values_iter_1 _));unfold Builtin.«dict_values.__iter__»;refine wpAny_bind (YZ (Zk ?_));unfold Builtin.Dict_items.dictOf;refine wpAny_bind (wpAny_field W8 W9 (x:= .ref d) rfl (YZ (Zk ?_)));unfold Builtin.Dict_items.newIterator;refine wpAny_bind (wpAny_dictEntries Jk Jl (Zk (wpAny_dictEpoch Jk Jl ?_)));have C_:Builtin.Dict_items.ownsTuple "dict_valueiterator"=false:=WD;simp only[C_,Bool.false_eq_true,if_false];refine wpAny_newObj_type (YZ ⟨_,rfl,"dict_valueiterator",_,⟨_,Heap.get?_push_size _ rfl,rfl⟩,F.slot_dict_valueiterator_next.lookup,?_⟩);simpa[rawInt]using hQ
end
def Og(e7:Hp)(tl:TE):TI:=fun σ H R=>tl σ H fun x H1=>∃d kvs,x= .ref d∧H1 d=some (.dT kvs)∧∀o,NF e7 d→R (R6 d o kvs) (upd H1 d (.sF o (.dT kvs)))
theorem Hx{X:Cx}(e7:Hp){tg o:Expr}{tl:TE}{apos eK:Pos}(hl:PE X o tl)(oI:attributeBase o "values" X.env (eval o X.env)=eval o X.env:=by rfl)(oJ:(apos.endLine==eK.line)=true:=by rfl)(hH:X.e7=e7:=by rfl):
  PI X tg (.Call (.Attribute o "values" apos) [] [] eK) (Og e7 tl):=by
 subst hH;intro pins s σ H R I h;refine wpAny_Call_method0_late oI oJ (cH (hl pins s σ H _ I h) fun v s1 ⟨x,H1,I1,r1,q1⟩=>?_);obtain⟨d,kvs,e,hd,q⟩:=q1;subst e;cases r1;obtain⟨z1,z2,xs,r,o,es,ep,g1,g2,g3,g4,g5⟩:=I1.bX d _ hd;have nf:NF X.e7 d:=fun o v e=>by
  have:=I1.base.oC d o v e;rw[hd]at this;cases this
 refine⟨"dict",_,F.plainAttrs_dict,F.slot_dict_values,F.type_dict_values,⟨o,g1,g2.1⟩,fun b hb=>?_,Calls.callWith_builtin rfl (PySem.evalArgs_none ?_)⟩
 ·cases hb;exact⟨o,g1,g2.2.1⟩
 refine call_meetsIn F.slot_dict_values ⟨o,g1,g2.1⟩ F.entry_dict_values (F.args_dict_values_1 _) (Dd d z2) ⟨⟨o,g1,g2.1⟩,?_⟩;have W_:=Heap.get?_push_of_some {cls:= .type "dict_values",data:= .fields #[.ref d]} g1;refine De (s:={s1 with heap:=s1.heap.push {cls:= .type "dict_values",data:= .fields #[.ref d]}}) ⟨_,Heap.get?_push_size _ rfl,rfl,rfl⟩ W_ g3 ?_;have Iz:Inv X pins σ (upd H1 d (.sF o (.dT kvs))) s1:=I1.swap hd (fun _ z=>nomatch z) (fun _ z=>nomatch z) (fun _ z=>nomatch z) nf ⟨g1,z1,z2,xs,KT.keeps r (fun c ys ec=>by rw[ao (jf ec hd (fun z=>nomatch z))];exact ec),o,es,ep,g1,g2,g3,g4,g5⟩;have I2:=Iz.kept (t':=s1.toks) fun b o e=>Heap.get?_push_of_some {cls:= .type "dict_values",data:= .fields #[.ref d]} e
 refine⟨_,[_],_,_,_,rfl,I2.kept (t':=s1.toks) fun b o e=>ZZ e,turn_val (o:=o) (kvs:=kvs) g3,⟨_,Heap.get?_push_size _ rfl,rfl,rfl⟩,fun b hb=>?_,q o nf⟩;have e:b=(s1.heap.push {cls:= .type "dict_values",data:= .fields #[.ref d]}).objs.size:=by simpa using hb
 subst e;exact I2.uM Β (I2.bX.fresh Β)
structure AD(n:Nat)(lt:Nat→Nat→Bool):Prop where
 tr:∀i j k,i<n→j<n→k<n→lt i j=true→lt j k=true→lt i k=true
 as:∀i j,i<n→j<n→lt i j=true→lt j i=false
 R7:∀i j,i<n→j<n→i≠j→lt i j=true∨lt j i=true
def ym(n:Nat)(p:Array Nat):Prop:=p.toList.Perm (Zv n)
abbrev gd(p:Array Nat)(k:Nat):Nat:=p.getD k 0
theorem E8(p:Array Nat)(k:Nat):gd p k=(p[k]?).getD 0:=by unfold gd;rw[Array.getD_eq_getD_getElem?]
theorem ym.size{n:Nat}{p:Array Nat}(h:ym n p):p.size=n:=by have:=h.length_eq;simpa using this
def Sd(lt:Nat→Nat→Bool)(p:Array Nat)(m:Nat):Prop:=∀i j,i<j→j<m→lt (gd p i) (gd p j)=true
section
variable{n:Nat}{lt:Nat→Nat→Bool}(L:AD n lt)
include L
omit L in
omit L in
omit L in
end
def yV:Bool→Keyed→Array Keyed→Nat→Nat→Nat→StateT SortSt Sem (Option Nat):=sortPriv%PySem.Builtin.gallop
def K1:Array Keyed→Array Keyed→StateT SortSt Sem (Array Keyed):=sortPriv%PySem.Builtin.mergeLo
def K2:Array Keyed→Array Keyed→StateT SortSt Sem (Array Keyed):=sortPriv%PySem.Builtin.mergeHi
def AE(l:Bool)(key:Keyed)(xs:Array Keyed)(b i:Nat):StateT SortSt Sem (Option Bool):=do
 let x←elem' xs (b+i)
 if l then lt' x key else return (←lt' key x).map (!·)
theorem Hy(l:Bool)(key:Keyed)(xs:Array Keyed)(b n h:Nat):yV l key xs b n h=(do
 let mut u:=0
 let mut v:=1
 let mut lo:=0
 let mut hi:=0
 let some r←AE l key xs b h|return none
 if r then
  let mx:=n-h
  for _ in [0:n] do
   if v≥mx then break
   let some z←AE l key xs b (h+v)|return none
   if !z then break
   u:=v
   v:=2*v+1
  lo:=h+u+1
  hi:=h+min v mx
 else
  let mx:=h+1
  for _ in [0:n] do
   if v≥mx then break
   let some z←AE l key xs b (h-v)|return none
   if z then break
   u:=v
   v:=2*v+1
  lo:=h+1-min v mx
  hi:=h-u
 for _ in [0:n] do
  if lo≥hi then break
  let m:=lo+(hi-lo)/2
  let some z←AE l key xs b m|return none
  if z then lo:=m+1 else hi:=m
 return some hi):=rfl
section
variable{prog:Program}{w:World}{A:Around}{E:Value→Shared→Prop}{s:Shared}
structure E9(prog:Program)(w:World)(A:Around)(s:Shared)(X:List Keyed)(κ:SortKind)(lt:Keyed→Keyed→Bool):Prop where
 run:∀x∈X,∀y∈X,∀C:Bool→Shared→Prop,C (lt x y) s→wpAny (model prog w) A (keyLt' κ x.1 y.1) C (fun _ _=>False) s
 tr:∀x∈X,∀y∈X,∀z∈X,lt x y=true→lt y z=true→lt x z=true
 as:∀x∈X,∀y∈X,lt x y=true→lt y x=false
 R7:∀x∈X,∀y∈X,x≠y→lt x y=true∨lt y x=true
 nd:X.Nodup
variable{X:List Keyed}{κ:SortKind}{lt:Keyed→Keyed→Bool}(C:E9 prog w A s X κ lt)
include C
theorem E9.no{x y:Keyed}(h1:x∈X)(h2:y∈X)(hn:x≠y)(h:lt x y=false):lt y x=true:=(C.R7 x h1 y h2 hn).resolve_left (by rw[h];simp)
theorem E9.ask{st:SortSt}{x y:Keyed}{Q:Option Bool→SortSt→Prop}(hk:kindOf st=κ)(h1:x∈X)(h2:y∈X)(h:Q (some (lt x y)) st):wpS (model prog w) A E s (lt' x y) Q st:=by
 rw[lt'_eq];refine wpS_bind (wpS_get ?_);rw[hk];refine wpS_bind (wpS_lift (wpAny_attempt (wpAny_mono (C.run x h1 y h2 (fun b s'=>b=lt x y∧s'=s) ⟨rfl,rfl⟩) ?_ fun _ _ e=>e.elim)));rintro b s' ⟨rfl,rfl⟩;exact⟨rfl,Zi h⟩
omit C in
theorem ff{st:SortSt}{xs:Array Keyed}{i:Nat}{x:Keyed}{Q:Keyed→SortSt→Prop}(e:xs[i]?=some x)(h:Q x st):wpS (model prog w) A E s (elem' xs i) Q st:=by
 rw[elem'_eq,e];exact Zi h
def lF(lt:Keyed→Keyed→Bool)(l:Bool)(key x:Keyed):Bool:=if l then lt x key else !lt key x
theorem sO{st:SortSt}{l:Bool}{key x:Keyed}{xs:Array Keyed}{b i:Nat}{Q:Option Bool→SortSt→Prop}(hk:kindOf st=κ)(h1:key∈X)(h2:x∈X)(e:xs[b+i]?=some x)(h:Q (some (lF lt l key x)) st):wpS (model prog w) A E s (AE l key xs b i) Q st:=by
 unfold AE;refine wpS_bind (ff e ?_);cases l with
 |true=>exact C.ask hk h2 h1 h
 |false=>exact wpS_bind (C.ask hk h1 h2 (Zi h))
theorem qG{st:SortSt}{l:Bool}{key:Keyed}{xs:Array Keyed}{b n h:Nat}{Q:Option Nat→SortSt→Prop}(g:Nat→Keyed)(hk:kindOf st=κ)(h1:key∈X)(hg:∀i,i<n→xs[b+i]?=some (g i)∧g i∈X)(RJ:∀i j,i<j→j<n→lt (g i) (g j)=true)(hh:h<n)
  (q:∀k,k≤n→(∀i,i<k→lF lt l key (g i)=true)→(∀i,k≤i→i<n→lF lt l key (g i)=false)→Q (some k) st):wpS (model prog w) A E s (yV l key xs b n h) Q st:=by
 have dn:∀i j,i≤j→j<n→lF lt l key (g j)=true→lF lt l key (g i)=true:=fun i j uI hj hb=>by
  by_cases e:i=j
  ·rw[e];exact hb
  have hl:=RJ i j IL hj;unfold lF at hb⊢;cases l with
  |true=>exact C.tr _ (hg i IL).2 _ (hg j hj).2 _ h1 hl hb
  |false=>
   simp only[Bool.false_eq_true,if_false,Bool.not_eq_true']at hb⊢;cases e2:lt key (g i)with
   |false=>rfl
   |true=>rw[C.tr _ h1 _ (hg i IL).2 _ (hg j hj).2 e2 hl]at hb;cases hb
 have up:∀i j,i≤j→j<n→lF lt l key (g i)=false→lF lt l key (g j)=false:=fun i j uI hj hb=>by
  cases e:lF lt l key (g j)with
  |false=>rfl
  |true=>rw[dn i j uI hj e]at hb;cases hb
 have bin:∀lo hi,lo≤hi→hi≤n→(∀i,i<lo→lF lt l key (g i)=true)→(∀i,hi≤i→i<n→lF lt l key (g i)=false)→wpS (model prog w) A E s (do
   let r←forIn [0:n] ((none,lo,hi):Option (Option Nat)×Nat×Nat) fun _ __s=>
    if __s.2.1≥__s.2.2 then pure (ForInStep.done (none,__s.2.1,__s.2.2))
    else do
     let __x←AE l key xs b (__s.2.1+(__s.2.2-__s.2.1)/2)
     match __x with
     |some z=>if z=true then pure (ForInStep.yield (none,__s.2.1+(__s.2.2-__s.2.1)/2+1,__s.2.2))else pure (ForInStep.yield (none,__s.2.1,__s.2.1+(__s.2.2-__s.2.1)/2))
     | _=>pure (ForInStep.done (some none,__s.2.1,__s.2.2))
   match r.1 with
   |some r=>pure r
   |none=>pure (some r.2.2)) Q st:=fun lo hi h2 h3 h4 h5=>by
  refine wpS_bind (wpS_mono (wpS_forRange (I:=fun x c aU=>aU=st∧∃lo hi,c=(none,lo,hi)∧lo≤hi∧hi≤n∧(∀i,i<lo→lF lt l key (g i)=true)∧(∀i,hi≤i→i<n→lF lt l key (g i)=false)∧hi-lo+x≤n) (Q:=fun c aU=>aU=st∧∃k,c.1=none∧c.2.2=k∧k≤n∧(∀i,i<k→lF lt l key (g i)=true)∧(∀i,k≤i→i<n→lF lt l key (g i)=false)) ?_ ?_ ⟨rfl,lo,hi,rfl,h2,h3,h4,h5,by lia⟩) ?_)
  ·rintro x c aU _ hx ⟨rfl,lo,hi,rfl,a1,a2,a3,a4,a5⟩;dsimp only;by_cases UP:lo≥hi
   ·rw[Z1 UP];have:lo=hi:=by lia
    subst this;exact Zi ⟨rfl,lo,rfl,rfl,a2,a3,a4⟩
   ·rw[ZY UP];have hm:lo+(hi-lo)/2<n:=by lia
    obtain⟨g1,g2⟩:=hg _ hm;refine wpS_bind (sO C hk h1 g2 g1 ?_);dsimp only;cases e:lF lt l key (g (lo+(hi-lo)/2))with
    |true=>
     simp only[if_true];exact Zi ⟨rfl,_,hi,rfl,by lia,a2,fun i BF=>dn i _ (by lia) hm e,a4,by lia⟩
    |false=>
     simp only[Bool.false_eq_true,if_false];exact Zi ⟨rfl,lo,_,rfl,by lia,by lia,a3,fun i BF oA=>up _ i BF oA e,by lia⟩
  ·rintro c aU ⟨rfl,lo,hi,rfl,a1,a2,a3,a4,a5⟩;have:lo=hi:=by lia
   subst this;exact⟨rfl,lo,rfl,rfl,a2,a3,a4⟩
  ·rintro⟨c1,c2,c3⟩ aU ⟨rfl,k,e1,e2,a2,a3,a4⟩;dsimp only at e1 e2⊢;subst e1 e2;exact Zi (q _ a2 a3 a4)
 rw[Hy];obtain⟨W',Xa⟩:=hg h hh;refine wpS_bind (sO C hk h1 Xa W' ?_);dsimp only;cases e:lF lt l key (g h)with
 |true=>
  simp only[if_true];refine wpS_bind (wpS_mono (wpS_forRange (I:=fun x c aU=>aU=st∧∃u v,c=(none,u,v)∧u<v∧h+u<n∧lF lt l key (g (h+u))=true∧x<v) (Q:=fun c aU=>aU=st∧∃u v,c=(none,u,v)∧u<v∧h+u<n∧lF lt l key (g (h+u))=true∧(n-h≤v∨(h+v<n∧lF lt l key (g (h+v))=false))) ?_ ?_ ⟨rfl,0,1,rfl,by lia,by lia,e,by lia⟩) ?_)
  ·rintro x c aU _ hx ⟨rfl,u,v,rfl,a1,a2,a3,a4⟩;dsimp only;by_cases hv:v≥n-h
   ·rw[Z1 hv];exact Zi ⟨rfl,u,v,rfl,a1,a2,a3, .inl hv⟩
   ·rw[ZY hv];obtain⟨g1,g2⟩:=hg (h+v) (by lia);refine wpS_bind (sO C hk h1 g2 g1 ?_);dsimp only;cases e2:lF lt l key (g (h+v))with
    |false=>
     simp only[Bool.not_false,if_true];exact Zi ⟨rfl,u,v,rfl,a1,a2,a3, .inr ⟨by lia,e2⟩⟩
    |true=>
     simp only[Bool.not_true,Bool.false_eq_true,if_false];exact Zi ⟨rfl,v,2*v+1,rfl,by lia,by lia,e2,by lia⟩
  ·rintro c aU ⟨rfl,u,v,rfl,a1,a2,a3,a4⟩;exact⟨rfl,u,v,rfl,a1,a2,a3, .inl IL⟩
  ·rintro c aU ⟨rfl,u,v,rfl,a1,a2,a3,a4⟩;dsimp only;refine Eq.mp (by kernel_rfl) (bin (h+u+1) (h+min v (n-h)) (by lia) (by lia) (fun i hi=>dn i (h+u) (by lia) a2 a3) fun i hi oA=>?_);rcases a4 with a4|⟨a4,a5⟩
   ·lia
   ·exact up (h+v) i IL oA a5
 |false=>
  simp only[Bool.false_eq_true,if_false];refine wpS_bind (wpS_mono (wpS_forRange (I:=fun x c aU=>aU=st∧∃u v,c=(none,u,v)∧u<v∧u≤h∧lF lt l key (g (h-u))=false∧x<v) (Q:=fun c aU=>aU=st∧∃u v,c=(none,u,v)∧u<v∧u≤h∧lF lt l key (g (h-u))=false∧(h+1≤v∨(v≤h∧lF lt l key (g (h-v))=true))) ?_ ?_ ⟨rfl,0,1,rfl,by lia,by lia,e,by lia⟩) ?_)
  ·rintro x c aU _ hx ⟨rfl,u,v,rfl,a1,a2,a3,a4⟩;dsimp only;by_cases hv:v≥h+1
   ·rw[Z1 hv];exact Zi ⟨rfl,u,v,rfl,a1,a2,a3, .inl hv⟩
   ·rw[ZY hv];obtain⟨g1,g2⟩:=hg (h-v) (by lia);refine wpS_bind (sO C hk h1 g2 g1 ?_);dsimp only;cases e2:lF lt l key (g (h-v))with
    |true=>
     simp only[if_true];exact Zi ⟨rfl,u,v,rfl,a1,a2,a3, .inr ⟨by lia,e2⟩⟩
    |false=>
     simp only[Bool.false_eq_true,if_false];exact Zi ⟨rfl,v,2*v+1,rfl,by lia,by lia,e2,by lia⟩
  ·rintro c aU ⟨rfl,u,v,rfl,a1,a2,a3,a4⟩;exact⟨rfl,u,v,rfl,a1,a2,a3, .inl IL⟩
  ·rintro c aU ⟨rfl,u,v,rfl,a1,a2,a3,a4⟩;dsimp only;refine Eq.mp (by kernel_rfl) (bin (h+1-min v (h+1)) (h-u) (by lia) (by lia) (fun i hi=>?_) fun i hi oA=>up (h-u) i IL oA a3);rcases a4 with a4|⟨a4,a5⟩
   ·lia
   ·exact dn i (h-v) (by lia) (by lia) a5
end
def setG(g:Nat):StateT SortSt Sem Unit:=modify fun st=>SortSt.mk' (kindOf st) (V1 st) (YX st) g (failedOf st)
def Gp(a b out:Array Keyed)(i j:Nat):Array Keyed:=out++a.extract i a.size++b.extract j b.size
def Mn(a b out:Array Keyed)(i j:Nat):Array Keyed:=out++b.extract j b.size++a.extract i a.size
abbrev S1:=Option (Array Keyed)×Array Keyed×Nat×Nat×Nat×Nat
abbrev S2:=Option (Array Keyed)×Array Keyed×Nat×Nat×Nat×Nat×Nat
abbrev S3:=Option (Array Keyed)×Array Keyed×Nat×Nat×Nat
def lo1(a b:Array Keyed)(mg:Nat)(c:S1):StateT SortSt Sem (ForInStep S1):=do
 let y←elem' b c.2.2.2.1
 let x←elem' a c.2.2.1
 let z←lt' y x
 match z with
 |some bw=>
  if bw=true then do
   let y←elem' b c.2.2.2.1
   if (c.2.2.2.1+1==b.size)=true then pure (.done (some (Gp a b (c.2.1.push y) c.2.2.1 (c.2.2.2.1+1)),c.2.1.push y,c.2.2.1,c.2.2.2.1+1,0,c.2.2.2.2.2+1))
   else if c.2.2.2.2.2+1≥mg then pure (.done (none,c.2.1.push y,c.2.2.1,c.2.2.2.1+1,0,c.2.2.2.2.2+1))
   else pure (.yield (none,c.2.1.push y,c.2.2.1,c.2.2.2.1+1,0,c.2.2.2.2.2+1))
  else do
   let x←elem' a c.2.2.1
   if (c.2.2.1+1+1==a.size)=true then pure (.done (some (Mn a b (c.2.1.push x) (c.2.2.1+1) c.2.2.2.1),c.2.1.push x,c.2.2.1+1,c.2.2.2.1,c.2.2.2.2.1+1,0))
   else if c.2.2.2.2.1+1≥mg then pure (.done (none,c.2.1.push x,c.2.2.1+1,c.2.2.2.1,c.2.2.2.2.1+1,0))
   else pure (.yield (none,c.2.1.push x,c.2.2.1+1,c.2.2.2.1,c.2.2.2.2.1+1,0))
 | _=>pure (.done (some (Gp a b c.2.1 c.2.2.1 c.2.2.2.1),c.2.1,c.2.2.1,c.2.2.2.1,c.2.2.2.2.1,c.2.2.2.2.2))
def P_(a b o:Array Keyed)(i j mg k l:Nat):StateT SortSt Sem (ForInStep S2):=do
 let x←elem' a i
 if (i+1+1==a.size)=true then pure (.done (some (Mn a b (o.push x) (i+1) j),o.push x,i+1,j,mg,k,l))
 else if (decide (k<7)&&decide (l<7))=true then pure (.done (none,o.push x,i+1,j,mg,k,l))
 else pure (.yield (none,o.push x,i+1,j,mg,k,l))
def R8(a b o:Array Keyed)(i j mg k bc:Nat):StateT SortSt Sem (ForInStep S2):=do
 let x←elem' a i
 let z←yV true x b j (b.size-j) 0
 match z with
 |some l=>if l>0 then(if (j+l==b.size)=true then pure (.done (some (Gp a b (o++b.extract j (j+l)) i (j+l)),o++b.extract j (j+l),i,j+l,mg,k,l))else P_ a b (o++b.extract j (j+l)) i (j+l) mg k l)else P_ a b o i j mg k l
 | _=>pure (.done (some (Gp a b o i j),o,i,j,mg,k,bc))
def Qa(a b o:Array Keyed)(i j mg k bc:Nat):StateT SortSt Sem (ForInStep S2):=do
 let y←elem' b j
 if (j+1==b.size)=true then pure (.done (some (Gp a b (o.push y) i (j+1)),o.push y,i,j+1,mg,k,bc))else R8 a b (o.push y) i (j+1) mg k bc
def Qb(a b o:Array Keyed)(i j mg ac bc:Nat):StateT SortSt Sem (ForInStep S2):=do
 setG mg
 let y←elem' b j
 let z←yV false y a i (a.size-i) 0
 match z with
 |some k=>if k>0 then(if (i+k+1==a.size)=true then pure (.done (some (Mn a b (o++a.extract i (i+k)) (i+k) j),o++a.extract i (i+k),i+k,j,mg,k,bc))else if (i+k==a.size)=true then pure (.done (some (Gp a b (o++a.extract i (i+k)) (i+k) j),o++a.extract i (i+k),i+k,j,mg,k,bc))else Qa a b (o++a.extract i (i+k)) (i+k) j mg k bc)else Qa a b o i j mg k bc
 | _=>pure (.done (some (Gp a b o i j),o,i,j,mg,ac,bc))
def R9(a b:Array Keyed)(c:S2):StateT SortSt Sem (ForInStep S2):=if c.2.2.2.2.1>1 then Qb a b c.2.1 c.2.2.1 c.2.2.2.1 (c.2.2.2.2.1-1) c.2.2.2.2.2.1 c.2.2.2.2.2.2 else Qb a b c.2.1 c.2.2.1 c.2.2.2.1 c.2.2.2.2.1 c.2.2.2.2.2.1 c.2.2.2.2.2.2
def R_(a b:Array Keyed)(c:S3):StateT SortSt Sem (ForInStep S3):=do
 let t←forIn [0:a.size+b.size] ((none,c.2.1,c.2.2.1,c.2.2.2.1,0,0):S1) (fun _=>lo1 a b c.2.2.2.2)
 match t.1 with
 |some r=>pure (.done (some r,t.2.1,t.2.2.1,t.2.2.2.1,c.2.2.2.2))
 |none=>do
  liftM (rule "list.sort.gallop")
  let u←forIn [0:a.size+b.size] ((none,t.2.1,t.2.2.1,t.2.2.2.1,c.2.2.2.2+1,t.2.2.2.2.1,t.2.2.2.2.2):S2) (fun _=>R9 a b)
  match u.1 with
  |some r=>pure (.done (some r,u.2.1,u.2.2.1,u.2.2.2.1,u.2.2.2.2.1))
  |none=>do
   setG (u.2.2.2.2.1+1)
   pure (.yield (none,u.2.1,u.2.2.1,u.2.2.2.1,u.2.2.2.2.1+1))
theorem Hz(a b:Array Keyed):K1 a b=(do
 liftM (rule "list.sort.merge-lo")
 let y←elem' b 0
 if (1==b.size)=true then pure (Gp a b #[y] 0 1)
 else if (0+1==a.size)=true then pure (Mn a b #[y] 0 1)
 else do
  let g←get
  let t←forIn [0:a.size+b.size] ((none,#[y],0,1,gallopOf g):S3) (fun _=>R_ a b)
  match t.1 with
  |some r=>pure r
  |none=>unsupported "internal:list.sort.merge-bound"):=by kernel_rfl
def Gq(a b o:Array Keyed)(i j:Nat):Array Keyed:=a.extract 0 i++b.extract 0 j++o.reverse
def Mo(a b o:Array Keyed)(i j:Nat):Array Keyed:=b.extract 0 j++a.extract 0 i++o.reverse
abbrev T1:=Option (Array Keyed)×Nat×Nat×Array Keyed×Nat×Nat
abbrev T2:=Option (Array Keyed)×Nat×Nat×Array Keyed×Nat×Nat×Nat
abbrev T3:=Option (Array Keyed)×Nat×Nat×Array Keyed×Nat
def R'(a b:Array Keyed)(mg:Nat)(c:T1):StateT SortSt Sem (ForInStep T1):=do
 let y←elem' b (c.2.2.1-1)
 let x←elem' a (c.2.1-1)
 let z←lt' y x
 match z with
 |some aw=>
  if aw=true then do
   let x←elem' a (c.2.1-1)
   if (c.2.1-1==0)=true then pure (.done (some (Gq a b (c.2.2.2.1.push x) (c.2.1-1) c.2.2.1),c.2.1-1,c.2.2.1,c.2.2.2.1.push x,c.2.2.2.2.1+1,0))
   else if c.2.2.2.2.1+1≥mg then pure (.done (none,c.2.1-1,c.2.2.1,c.2.2.2.1.push x,c.2.2.2.2.1+1,0))
   else pure (.yield (none,c.2.1-1,c.2.2.1,c.2.2.2.1.push x,c.2.2.2.2.1+1,0))
  else do
   let y←elem' b (c.2.2.1-1)
   if (c.2.2.1-1==1)=true then pure (.done (some (Mo a b (c.2.2.2.1.push y) c.2.1 (c.2.2.1-1)),c.2.1,c.2.2.1-1,c.2.2.2.1.push y,0,c.2.2.2.2.2+1))
   else if c.2.2.2.2.2+1≥mg then pure (.done (none,c.2.1,c.2.2.1-1,c.2.2.2.1.push y,0,c.2.2.2.2.2+1))
   else pure (.yield (none,c.2.1,c.2.2.1-1,c.2.2.2.1.push y,0,c.2.2.2.2.2+1))
 | _=>pure (.done (some (Gq a b c.2.2.2.1 c.2.1 c.2.2.1),c.2.1,c.2.2.1,c.2.2.2.1,c.2.2.2.2.1,c.2.2.2.2.2))
def Qc(a b o:Array Keyed)(i j mg k l:Nat):StateT SortSt Sem (ForInStep T2):=do
 let x←elem' a (i-1)
 if (i-1==0)=true then pure (.done (some (Gq a b (o.push x) (i-1) j),i-1,j,o.push x,mg,k,l))
 else if (decide (k<7)&&decide (l<7))=true then pure (.done (none,i-1,j,o.push x,mg,k,l))
 else pure (.yield (none,i-1,j,o.push x,mg,k,l))
def Se(a b o:Array Keyed)(i j mg k bc:Nat):StateT SortSt Sem (ForInStep T2):=do
 let x←elem' a (i-1)
 let z←yV true x b 0 j (j-1)
 match z with
 |some t=>if j-t>0 then(if (t==1)=true then pure (.done (some (Mo a b (o++(b.extract t j).reverse) i t),i,t,o++(b.extract t j).reverse,mg,k,j-t))else if (t==0)=true then pure (.done (some (Gq a b (o++(b.extract t j).reverse) i t),i,t,o++(b.extract t j).reverse,mg,k,j-t))else Qc a b (o++(b.extract t j).reverse) i t mg k (j-t))else Qc a b o i j mg k (j-t)
 | _=>pure (.done (some (Gq a b o i j),i,j,o,mg,k,bc))
def Qd(a b o:Array Keyed)(i j mg k bc:Nat):StateT SortSt Sem (ForInStep T2):=do
 let y←elem' b (j-1)
 if (j-1==1)=true then pure (.done (some (Mo a b (o.push y) i (j-1)),i,j-1,o.push y,mg,k,bc))else Se a b (o.push y) i (j-1) mg k bc
def DP(a b o:Array Keyed)(i j mg ac bc:Nat):StateT SortSt Sem (ForInStep T2):=do
 setG mg
 let y←elem' b (j-1)
 let z←yV false y a 0 i (i-1)
 match z with
 |some t=>if i-t>0 then(if (t==0)=true then pure (.done (some (Gq a b (o++(a.extract t i).reverse) t j),t,j,o++(a.extract t i).reverse,mg,i-t,bc))else Qd a b (o++(a.extract t i).reverse) t j mg (i-t) bc)else Qd a b o i j mg (i-t) bc
 | _=>pure (.done (some (Gq a b o i j),i,j,o,mg,ac,bc))
def Sg(a b:Array Keyed)(c:T2):StateT SortSt Sem (ForInStep T2):=if c.2.2.2.2.1>1 then DP a b c.2.2.2.1 c.2.1 c.2.2.1 (c.2.2.2.2.1-1) c.2.2.2.2.2.1 c.2.2.2.2.2.2 else DP a b c.2.2.2.1 c.2.1 c.2.2.1 c.2.2.2.2.1 c.2.2.2.2.2.1 c.2.2.2.2.2.2
def Sh(a b:Array Keyed)(c:T3):StateT SortSt Sem (ForInStep T3):=do
 let t←forIn [0:a.size+b.size] ((none,c.2.1,c.2.2.1,c.2.2.2.1,0,0):T1) (fun _=>R' a b c.2.2.2.2)
 match t.1 with
 |some r=>pure (.done (some r,t.2.1,t.2.2.1,t.2.2.2.1,c.2.2.2.2))
 |none=>do
  liftM (rule "list.sort.gallop")
  let u←forIn [0:a.size+b.size] ((none,t.2.1,t.2.2.1,t.2.2.2.1,c.2.2.2.2+1,t.2.2.2.2.1,t.2.2.2.2.2):T2) (fun _=>Sg a b)
  match u.1 with
  |some r=>pure (.done (some r,u.2.1,u.2.2.1,u.2.2.2.1,u.2.2.2.2.1))
  |none=>do
   setG (u.2.2.2.2.1+1)
   pure (.yield (none,u.2.1,u.2.2.1,u.2.2.2.1,u.2.2.2.2.1+1))
theorem HA(a b:Array Keyed):K2 a b=(do
 liftM (rule "list.sort.merge-hi")
 let x←elem' a (a.size-1)
 if (a.size-1==0)=true then pure (Gq a b #[x] (a.size-1) b.size)
 else if (b.size==1)=true then pure (Mo a b #[x] (a.size-1) b.size)
 else do
  let g←get
  let t←forIn [0:a.size+b.size] ((none,a.size-1,b.size,#[x],gallopOf g):T3) (fun _=>Sh a b)
  match t.1 with
  |some r=>pure r
  |none=>unsupported "internal:list.sort.merge-bound"):=by kernel_rfl
theorem lQ{α:Type}{l:List α}{i:Nat}{x:α}:x∈l.drop i↔∃t:Nat,l[i+t]?=some x:=by
 rw[List.mem_iff_getElem?];simp only[List.getElem?_drop]
theorem tP{α:Type}{l:List α}{i k:Nat}{x:α}:x∈(l.drop i).take k↔∃t:Nat,t<k∧l[i+t]?=some x:=by
 rw[List.mem_iff_getElem?];constructor
 ·rintro⟨t,ht⟩;rw[List.getElem?_take]at ht;split at ht
  ·rw[List.getElem?_drop]at ht;exact⟨t,by assumption,ht⟩
  ·cases ht
 ·rintro⟨t,h1,h2⟩;exact⟨t,by rw[List.getElem?_take,Z1 h1,List.getElem?_drop];exact h2⟩
theorem oV{α:Type}{l:List α}{i:Nat}{x:α}(h:l[i]?=some x):l.drop i=x::l.drop (i+1):=by
 obtain⟨h1,h2⟩:=ZF h;rw[List.drop_eq_getElem_cons h1,h2]
theorem oW{α:Type}(l:List α)(i k:Nat):l.drop i=(l.drop i).take k++l.drop (i+k):=by
 rw[←List.drop_drop,List.take_append_drop]
abbrev Pw(lt:Keyed→Keyed→Bool)(l:List Keyed):Prop:=l.Pairwise fun x y=>lt x y=true
theorem Pw.at{lt:Keyed→Keyed→Bool}{l:List Keyed}(h:Pw lt l){i j:Nat}{x y:Keyed}(uI:i<j)(hx:l[i]?=some x)(hy:l[j]?=some y):lt x y=true:=by
 obtain⟨h1,e1⟩:=ZF hx;obtain⟨h2,e2⟩:=ZF hy;have:=List.pairwise_iff_getElem.mp h i j h1 h2 uI;rw[e1,e2]at this;exact this
section
variable{X:List Keyed}{lt:Keyed→Keyed→Bool}{P Q:List Keyed}
structure MC(X:List Keyed)(lt:Keyed→Keyed→Bool)(P Q:List Keyed):Prop where
 sa:Pw lt P
 sb:Pw lt Q
 ia:∀x∈P,x∈X
 ib:∀x∈Q,x∈X
 ne:∀x∈P,∀y∈Q,x≠y
 fst:∀x∈P,∀y,Q[0]?=some y→lt y x=true
 lst:∀y∈Q,∀x,P[P.length-1]?=some x→lt y x=true
structure ML(lt:Keyed→Keyed→Bool)(P Q O:List Keyed)(i j:Nat):Prop where
 hi:i≤P.length
 hj:j≤Q.length
 tQ:Pw lt O
 low:∀x∈O,∀y,y∈P.drop i∨y∈Q.drop j→lt x y=true
 HB:(O++(P.drop i++Q.drop j)).Perm (P++Q)
def MG(lt:Keyed→Keyed→Bool)(P Q R:List Keyed):Prop:=R.Perm (P++Q)∧Pw lt R
theorem ML.a{O:List Keyed}{i j k:Nat}(M:MC X lt P Q)(m:ML lt P Q O i j)(hk:i+k≤P.length)(h:∀x∈(P.drop i).take k,∀y∈Q.drop j,lt x y=true):ML lt P Q (O++(P.drop i).take k) (i+k) j:=by
 have sp:=oW P i k;have sd:Pw lt (P.drop i):=M.sa.sublist (List.drop_sublist _ _);rw[sp]at sd;obtain⟨s1,s2,s3⟩:=List.pairwise_append.mp sd;refine⟨hk,m.hj,ζ ⟨m.tQ,s1,fun x hx y hy=>m.low x hx y (.inl (List.mem_of_mem_take hy))⟩,fun x hx y hy=>?_,?_⟩
 ·rcases List.mem_append.mp hx with hx|hx
  ·exact m.low x hx y (hy.imp (fun z=>by rw[sp];exact Μ z) id)
  ·rcases hy with hy|hy
   ·exact s3 x hx y hy
   ·exact h x hx y hy
 ·have:=m.HB;rw[sp]at this;rw[List.append_assoc,←List.append_assoc ((P.drop i).take k)];exact this
theorem ML.b{O:List Keyed}{i j k:Nat}(M:MC X lt P Q)(m:ML lt P Q O i j)(hk:j+k≤Q.length)(h:∀y∈(Q.drop j).take k,∀x∈P.drop i,lt y x=true):ML lt P Q (O++(Q.drop j).take k) i (j+k):=by
 have sp:=oW Q j k;have sd:Pw lt (Q.drop j):=M.sb.sublist (List.drop_sublist _ _);rw[sp]at sd;obtain⟨s1,s2,s3⟩:=List.pairwise_append.mp sd;refine⟨m.hi,hk,ζ ⟨m.tQ,s1,fun x hx y hy=>m.low x hx y (.inr (List.mem_of_mem_take hy))⟩,fun x hx y hy=>?_,?_⟩
 ·rcases List.mem_append.mp hx with hx|hx
  ·exact m.low x hx y (hy.imp id (fun z=>by rw[sp];exact Μ z))
  ·rcases hy with hy|hy
   ·exact h x hx y hy
   ·exact s3 x hx y hy
 ·have:=m.HB;rw[sp]at this;refine List.Perm.trans ?_ this;rw[List.append_assoc];refine List.Perm.append_left O ?_;rw[←List.append_assoc,←List.append_assoc];exact List.Perm.append_right _ List.perm_append_comm
theorem ML.dn{O:List Keyed}{i j:Nat}(M:MC X lt P Q)(m:ML lt P Q O i j)(h:i=P.length∨j=Q.length):MG lt P Q (O++P.drop i++Q.drop j):=by
 refine⟨by rw[List.append_assoc];exact m.HB,?_⟩;have sa:Pw lt (P.drop i):=M.sa.sublist (List.drop_sublist _ _);have sb:Pw lt (Q.drop j):=M.sb.sublist (List.drop_sublist _ _);rw[List.append_assoc];refine List.pairwise_append.mpr ⟨m.tQ,ζ ⟨sa,sb,fun x hx y hy=>?_⟩,fun x hx y hy=>m.low x hx y (List.mem_append.mp hy)⟩;rcases h with h|h
 ·rw[h,List.drop_length]at hx;cases hx
 ·rw[h,List.drop_length]at hy;cases hy
theorem ML.ls{O:List Keyed}{i j:Nat}(M:MC X lt P Q)(m:ML lt P Q O i j)(h:i+1=P.length):MG lt P Q (O++Q.drop j++P.drop i):=by
 have sa:Pw lt (P.drop i):=M.sa.sublist (List.drop_sublist _ _);have sb:Pw lt (Q.drop j):=M.sb.sublist (List.drop_sublist _ _);rw[List.append_assoc];refine⟨(List.Perm.append_left O List.perm_append_comm).trans m.HB,ζ ⟨m.tQ,ζ ⟨sb,sa,fun y hy x hx=>?_⟩,fun x hx y hy=>m.low x hx y (List.mem_append.mp hy).symm⟩⟩;obtain⟨t,ht⟩:=lQ.mp hx;have hl:=(ZF ht).1;exact M.lst y (List.mem_of_mem_drop hy) x (by rw[←ht];congr 1;lia)
end
def Eg(st aU:SortSt):Prop:=kindOf aU=kindOf st∧arrOf aU=arrOf st∧pendingOf aU=pendingOf st∧failedOf aU=failedOf st
theorem Eg.refl(st:SortSt):Eg st st:=⟨rfl,rfl,rfl,rfl⟩
theorem Eg.trans{a b c:SortSt}(h:Eg a b)(k:Eg b c):Eg a c:=⟨k.1.trans h.1,k.2.1.trans h.2.1,k.2.2.1.trans h.2.2.1,k.2.2.2.trans h.2.2.2⟩
section
variable{prog:Program}{w:World}{A:Around}{E:Value→Shared→Prop}{s:Shared}{X:List Keyed}{κ:SortKind}{lt:Keyed→Keyed→Bool}(C:E9 prog w A s X κ lt){a b:Array Keyed}(M:MC X lt a.toList b.toList)
theorem sP{st:SortSt}{g:Nat}{Q:Unit→SortSt→Prop}(h:∀aU,Eg st aU→Q () aU):wpS (model prog w) A E s (setG g) Q st:=wpS_modify (h _ ⟨rfl,rfl,rfl,rfl⟩)
theorem yW(o:Array Keyed)(i j:Nat):(Gp a b o i j).toList=o.toList++a.toList.drop i++b.toList.drop j:=by
 unfold Gp;simp[Array.toList_extract,List.extract_eq_take_drop];rw[List.take_of_length_le Xs,List.take_of_length_le Xs]
theorem B0(o:Array Keyed)(i j:Nat):(Mn a b o i j).toList=o.toList++b.toList.drop j++a.toList.drop i:=by
 unfold Mn;simp[Array.toList_extract,List.extract_eq_take_drop];rw[List.take_of_length_le Xs,List.take_of_length_le Xs]
theorem Jm(o:Array Keyed)(c:Array Keyed)(i k:Nat):(o++c.extract i (i+k)).toList=o.toList++(c.toList.drop i).take k:=by
 simp[Array.toList_extract,List.extract_eq_take_drop]
theorem Gr{l:List Keyed}{i:Nat}{x:Keyed}(h:l[i]?=some x):(l.drop i).take 1=[x]:=by rw[oV h];simp
def B1(lt:Keyed→Keyed→Bool)(a b:Array Keyed)(o:Array Keyed)(i j m:Nat):Prop:=ML lt a.toList b.toList o.toList i j∧i+1<a.size∧j<b.size∧m≤i+j
def P2(lt:Keyed→Keyed→Bool)(a b:Array Keyed)(m:Nat)(st:SortSt)(r:ForInStep S2)(aU:SortSt):Prop:=Eg st aU∧match r with
 | .done c=>(∃x,c.1=some x∧MG lt a.toList b.toList x.toList)∨(c.1=none∧B1 lt a b c.2.1 c.2.2.1 c.2.2.2.1 m)
 | .yield c=>c.1=none∧B1 lt a b c.2.1 c.2.2.1 c.2.2.2.1 m
include C M
theorem E_{st:SortSt}{o:Array Keyed}{i j mg k l m:Nat}(ml:ML lt a.toList b.toList o.toList i j)(hi:i+1<a.size)(hj:j<b.size)(hm:m≤i+j+1)(h:∀x,a.toList[i]?=some x→∀y∈b.toList.drop j,lt x y=true):wpS (model prog w) A E s (P_ a b o i j mg k l) (P2 lt a b m st) st:=by
 unfold P_;have ex:a[i]?=some a[i]:=XU;have gP:a.toList[i]?=some a[i]:=by rw[Array.getElem?_toList];exact ex
 refine wpS_bind (ff ex ?_);have m2:ML lt a.toList b.toList (o.push a[i]).toList (i+1) j:=by
  have:=ml.a M (k:=1) (by simp;lia) (fun x hx y hy=>by
   rw[Gr gP]at hx;have:x=a[i]:=by simpa using hx
   rw[this];exact h _ gP y hy)
  rw[Gr gP]at this;rw[Array.toList_push];exact this
 by_cases e:(i+1+1==a.size)=true
 ·rw[Z1 e];refine wpS_pure ⟨.refl _, .inl ⟨_,rfl,?_⟩⟩;rw[B0];exact m2.ls M (by have:=beq_iff_eq.mp e;simp;lia)
 ·rw[ZY e];have e:i+1+1≠a.size:=fun z=>e Υ
  split
  ·exact Zi ⟨.refl _, .inr ⟨rfl,m2,by show i+1+1<a.size;lia,hj,by show m≤i+1+j;lia⟩⟩
  ·exact Zi ⟨.refl _,rfl,m2,by show i+1+1<a.size;lia,hj,by show m≤i+1+j;lia⟩
theorem K3{st:SortSt}{o:Array Keyed}{i j mg k bc m:Nat}(hk:kindOf st=κ)(ml:ML lt a.toList b.toList o.toList i j)(hi:i+1<a.size)(hj:j<b.size)(hm:m≤i+j+1):wpS (model prog w) A E s (R8 a b o i j mg k bc) (P2 lt a b m st) st:=by
 unfold R8;have ex:a[i]?=some a[i]:=XU;have gP:a.toList[i]?=some a[i]:=by rw[Array.getElem?_toList];exact ex
 have hx:a[i]∈a.toList:=ZS gP;refine wpS_bind (ff ex ?_);generalize a[i]=x at ex gP hx;have gb:∀t,t<b.size-j→b[j+t]?=some (b.getD (j+t) (.none, .none)):=fun t ht=>by simp[show j+t<b.size by lia]
 have rY:∀t,t<b.size-j→b.toList[j+t]?=some (b.getD (j+t) (.none, .none)):=fun t ht=>by rw[Array.getElem?_toList];exact gb t ht
 refine wpS_bind (qG C (fun t=>b.getD (j+t) (.none, .none)) hk (M.ia _ hx) (fun t ht=>⟨gb t ht,M.ib _ (ZS (rY t ht))⟩) (fun t u h1 h2=>M.sb.at (i:=j+t) (j:=j+u) (by lia) (rY t (by lia)) (rY u h2)) (by lia) fun l hl h1 h2=>?_);dsimp only;have low:∀y∈(b.toList.drop j).take l,∀z∈a.toList.drop i,lt y z=true:=fun y hy z hz=>by
  obtain⟨t,ht,et⟩:=tP.mp hy;rw[rY t (by lia)]at et;cases et;have hb:=h1 t ht;simp only[lF,if_true]at hb;rw[oV gP]at hz;rcases List.mem_cons.mp hz with rfl|hz
  ·exact hb
  ·obtain⟨u,hu⟩:=lQ.mp hz;exact C.tr _ (M.ib _ (ZS (rY t (by lia)))) _ (M.ia _ hx) _ (M.ia _ (ZS hu)) hb (M.sa.at IL gP hu)
 have zL:∀y∈b.toList.drop (j+l),lt x y=true:=fun y hy=>by
  obtain⟨t,ht⟩:=lQ.mp hy;have hG:=(ZF ht).1;have hG:j+l+t<b.size:=by simpa using hG
  have hb:=h2 (l+t) (by lia) (by lia);have e:b.toList[j+(l+t)]?=some y:=by rw[←Nat.add_assoc];exact ht
  rw[rY (l+t) (by lia)]at e;have e:=Zu e;simp only[lF,if_true]at hb;rw[e]at hb;exact C.no (M.ib _ (ZS ht)) (M.ia _ hx) (fun z=>M.ne _ hx _ (ZS ht) z.symm) hb
 have m2:ML lt a.toList b.toList (o++b.extract j (j+l)).toList i (j+l):=by
  rw[Jm];exact ml.b M Ξ low
 by_cases K4:l>0
 ·rw[Z1 K4];by_cases e:(j+l==b.size)=true
  ·rw[Z1 e];refine wpS_pure ⟨.refl _, .inl ⟨_,rfl,?_⟩⟩;rw[yW];exact m2.dn M (.inr (by have:=beq_iff_eq.mp e;simpa using this))
  ·rw[ZY e];have e:j+l≠b.size:=fun z=>e Υ
   exact E_ C M m2 hi IL (by lia) fun y hy=>by rw[gP]at hy;cases hy;exact zL
 ·rw[ZY K4];have:l=0:=by lia
  subst this;exact E_ C M ml hi hj hm fun y hy=>by rw[gP]at hy;cases hy;exact zL
theorem Fb{st:SortSt}{o:Array Keyed}{i j mg k bc m:Nat}(hk:kindOf st=κ)(ml:ML lt a.toList b.toList o.toList i j)(hi:i+1<a.size)(hj:j<b.size)(hm:m≤i+j+2)(h:∀y,b.toList[j]?=some y→∀x∈a.toList.drop i,lt y x=true):wpS (model prog w) A E s (Qa a b o i j mg k bc) (P2 lt a b m st) st:=by
 unfold Qa;have ex:b[j]?=some b[j]:=XU;have gP:b.toList[j]?=some b[j]:=by rw[Array.getElem?_toList];exact ex
 refine wpS_bind (ff ex ?_);have m2:ML lt a.toList b.toList (o.push b[j]).toList i (j+1):=by
  have:=ml.b M (k:=1) (by simp;lia) (fun x hx y hy=>by
   rw[Gr gP]at hx;have:x=b[j]:=by simpa using hx
   rw[this];exact h _ gP y hy)
  rw[Gr gP]at this;rw[Array.toList_push];exact this
 by_cases e:(j+1==b.size)=true
 ·rw[Z1 e];refine wpS_pure ⟨.refl _, .inl ⟨_,rfl,?_⟩⟩;rw[yW];exact m2.dn M (.inr (by have:=beq_iff_eq.mp e;simpa using this))
 ·rw[ZY e];have e:j+1≠b.size:=fun z=>e Υ
  exact K3 C M hk m2 hi IL (by lia)
theorem Fe{st:SortSt}{o:Array Keyed}{i j mg ac bc m:Nat}(hk:kindOf st=κ)(h:B1 lt a b o i j m):wpS (model prog w) A E s (Qb a b o i j mg ac bc) (P2 lt a b (m+2) st) st:=by
 obtain⟨ml,hi,hj,hm⟩:=h;unfold Qb;refine wpS_bind (sP fun AF eg=>?_);have Jn:kindOf AF=κ:=eg.1.trans hk;have fin:∀{m:Nat}{p:StateT SortSt Sem (ForInStep S2)},wpS (model prog w) A E s p (P2 lt a b m AF) AF→wpS (model prog w) A E s p (P2 lt a b m st) AF:=fun h=>wpS_mono h fun r aU z=>⟨eg.trans z.1,z.2⟩
 refine fin ?_;have ex:b[j]?=some b[j]:=XU;have gP:b.toList[j]?=some b[j]:=by rw[Array.getElem?_toList];exact ex
 have hx:b[j]∈b.toList:=ZS gP;refine wpS_bind (ff ex ?_);generalize b[j]=y at ex gP hx;have gb:∀t,t<a.size-i→a[i+t]?=some (a.getD (i+t) (.none, .none)):=fun t ht=>by simp[show i+t<a.size by lia]
 have rY:∀t,t<a.size-i→a.toList[i+t]?=some (a.getD (i+t) (.none, .none)):=fun t ht=>by rw[Array.getElem?_toList];exact gb t ht
 refine wpS_bind (qG C (fun t=>a.getD (i+t) (.none, .none)) Jn (M.ib _ hx) (fun t ht=>⟨gb t ht,M.ia _ (ZS (rY t ht))⟩) (fun t u h1 h2=>M.sa.at (i:=i+t) (j:=i+u) (by lia) (rY t (by lia)) (rY u h2)) (by lia) fun k hl h1 h2=>?_);dsimp only;have low:∀x∈(a.toList.drop i).take k,∀z∈b.toList.drop j,lt x z=true:=fun x uJ z hz=>by
  obtain⟨t,ht,et⟩:=tP.mp uJ;rw[rY t (by lia)]at et;cases et;have jm:=ZS (rY t (by lia));have hb:=h1 t ht;simp only[lF,Bool.false_eq_true,if_false,Bool.not_eq_true']at hb;have hb:=C.no (M.ib _ hx) (M.ia _ jm) (fun z=>M.ne _ jm _ hx z.symm) hb;rw[oV gP]at hz;rcases List.mem_cons.mp hz with rfl|hz
  ·exact hb
  ·obtain⟨u,hu⟩:=lQ.mp hz;exact C.tr _ (M.ia _ jm) _ (M.ib _ hx) _ (M.ib _ (ZS hu)) hb (M.sb.at IL gP hu)
 have zL:∀x∈a.toList.drop (i+k),lt y x=true:=fun x uJ=>by
  obtain⟨t,ht⟩:=lQ.mp uJ;have hG:=(ZF ht).1;have hG:i+k+t<a.size:=by simpa using hG
  have hb:=h2 (k+t) (by lia) (by lia);have e:a.toList[i+(k+t)]?=some x:=by rw[←Nat.add_assoc];exact ht
  rw[rY (k+t) (by lia)]at e;have e:=Zu e;simp only[lF,Bool.false_eq_true,if_false,Bool.not_eq_false']at hb;rw[e]at hb;exact hb
 have m2:ML lt a.toList b.toList (o++a.extract i (i+k)).toList (i+k) j:=by
  rw[Jm];exact ml.a M Ξ low
 by_cases zM:k>0
 ·rw[Z1 zM];by_cases e:(i+k+1==a.size)=true
  ·rw[Z1 e];refine wpS_pure ⟨.refl _, .inl ⟨_,rfl,?_⟩⟩;rw[B0];exact m2.ls M (by have:=beq_iff_eq.mp e;simpa using this)
  ·rw[ZY e];have e:i+k+1≠a.size:=fun z=>e Υ
   by_cases e2:(i+k==a.size)=true
   ·rw[Z1 e2];refine wpS_pure ⟨.refl _, .inl ⟨_,rfl,?_⟩⟩;rw[yW];exact m2.dn M (.inl (by have:=beq_iff_eq.mp e2;simpa using this))
   ·rw[ZY e2];have e2:i+k≠a.size:=fun z=>e2 Υ
    exact Fb C M Jn m2 IL hj IL fun z hz=>by rw[gP]at hz;cases hz;exact zL
 ·rw[ZY zM];have:k=0:=by lia
  subst this;exact Fb C M Jn ml hi hj IL fun z hz=>by rw[gP]at hz;cases hz;exact zL
theorem K5{st:SortSt}{c:S2}{m:Nat}(hk:kindOf st=κ)(h:B1 lt a b c.2.1 c.2.2.1 c.2.2.2.1 m):wpS (model prog w) A E s (R9 a b c) (P2 lt a b (m+2) st) st:=by
 unfold R9;split
 ·exact Fe C M hk h
 ·exact Fe C M hk h
theorem K6{st:SortSt}{c:S1}{mg m:Nat}(hk:kindOf st=κ)(h:B1 lt a b c.2.1 c.2.2.1 c.2.2.2.1 m):wpS (model prog w) A E s (lo1 a b mg c) (fun r aU=>aU=st∧match r with
  | .done c=>(∃x,c.1=some x∧MG lt a.toList b.toList x.toList)∨(c.1=none∧B1 lt a b c.2.1 c.2.2.1 c.2.2.2.1 (m+1))
  | .yield c=>c.1=none∧B1 lt a b c.2.1 c.2.2.1 c.2.2.2.1 (m+1)) st:=by
 obtain⟨r,o,i,j,ac,bc⟩:=c;obtain⟨ml,hi,hj,hm⟩:=h;dsimp only at ml hi hj hm;unfold lo1;dsimp only;have ex:a[i]?=some a[i]:=XU;have gP:a.toList[i]?=some a[i]:=by rw[Array.getElem?_toList];exact ex
 have ey:b[j]?=some b[j]:=XU;have zN:b.toList[j]?=some b[j]:=by rw[Array.getElem?_toList];exact ey
 have hx:a[i]∈a.toList:=ZS gP;have hy:b[j]∈b.toList:=ZS zN;refine wpS_bind (ff ey (wpS_bind (ff ex ?_)));generalize a[i]=x at ex gP hx;generalize b[j]=y at ey zN hy;refine wpS_bind (C.ask hk (M.ib _ hy) (M.ia _ hx) ?_);dsimp only;cases e:lt y x with
 |true=>
  rw[if_pos rfl];refine wpS_bind (ff ey ?_);have m2:ML lt a.toList b.toList (o.push y).toList i (j+1):=by
   have:=ml.b M (k:=1) (by simp;lia) (fun y' Oh z hz=>by
    rw[Gr zN]at Oh;have:y'=y:=by simpa using Oh
    rw[this];rw[oV gP]at hz;rcases List.mem_cons.mp hz with rfl|hz
    ·exact e
    ·obtain⟨u,hu⟩:=lQ.mp hz;exact C.tr _ (M.ib _ hy) _ (M.ia _ hx) _ (M.ia _ (ZS hu)) e (M.sa.at IL gP hu))
   rw[Gr zN]at this;rw[Array.toList_push];exact this
  by_cases e2:(j+1==b.size)=true
  ·rw[Z1 e2];refine wpS_pure ⟨rfl, .inl ⟨_,rfl,?_⟩⟩;rw[yW];exact m2.dn M (.inr (by have:=beq_iff_eq.mp e2;simpa using this))
  ·rw[ZY e2];have e2:j+1≠b.size:=fun z=>e2 Υ
   split
   ·exact Zi ⟨rfl, .inr ⟨rfl,m2,hi,by show j+1<b.size;lia,by show m+1≤i+(j+1);lia⟩⟩
   ·exact Zi ⟨rfl,rfl,m2,hi,by show j+1<b.size;lia,by show m+1≤i+(j+1);lia⟩
 |false=>
  rw[if_neg Xs];refine wpS_bind (ff ex ?_);have e:=C.no (M.ib _ hy) (M.ia _ hx) (fun z=>M.ne _ hx _ hy z.symm) e;have m2:ML lt a.toList b.toList (o.push x).toList (i+1) j:=by
   have:=ml.a M (k:=1) (by simp;lia) (fun x' uJ z hz=>by
    rw[Gr gP]at uJ;have:x'=x:=by simpa using uJ
    rw[this];rw[oV zN]at hz;rcases List.mem_cons.mp hz with rfl|hz
    ·exact e
    ·obtain⟨u,hu⟩:=lQ.mp hz;exact C.tr _ (M.ia _ hx) _ (M.ib _ hy) _ (M.ib _ (ZS hu)) e (M.sb.at IL zN hu))
   rw[Gr gP]at this;rw[Array.toList_push];exact this
  by_cases e2:(i+1+1==a.size)=true
  ·rw[Z1 e2];refine wpS_pure ⟨rfl, .inl ⟨_,rfl,?_⟩⟩;rw[B0];exact m2.ls M (by have:=beq_iff_eq.mp e2;simpa using this)
  ·rw[ZY e2];have e2:i+1+1≠a.size:=fun z=>e2 Υ
   split
   ·exact Zi ⟨rfl, .inr ⟨rfl,m2,by show i+1+1<a.size;lia,hj,by show m+1≤i+1+j;lia⟩⟩
   ·exact Zi ⟨rfl,rfl,m2,by show i+1+1<a.size;lia,hj,by show m+1≤i+1+j;lia⟩
theorem K7{st:SortSt}{c:S3}{m:Nat}(hk:kindOf st=κ)(h:B1 lt a b c.2.1 c.2.2.1 c.2.2.2.1 m):wpS (model prog w) A E s (R_ a b c) (fun r aU=>Eg st aU∧match r with
  | .done c=>∃x,c.1=some x∧MG lt a.toList b.toList x.toList
  | .yield c=>c.1=none∧B1 lt a b c.2.1 c.2.2.1 c.2.2.2.1 (m+1)) st:=by
 unfold R_;refine wpS_bind (wpS_mono (wpS_forRange (I:=fun x c aU=>aU=st∧c.1=none∧B1 lt a b c.2.1 c.2.2.1 c.2.2.2.1 (m+x)) (Q:=fun c aU=>aU=st∧((∃x,c.1=some x∧MG lt a.toList b.toList x.toList)∨(c.1=none∧B1 lt a b c.2.1 c.2.2.1 c.2.2.2.1 (m+1)))) ?_ ?_ ⟨rfl,rfl,h⟩) ?_)
 ·rintro x c aU _ hx ⟨rfl,hc,hI⟩;refine wpS_mono (K6 C M hk hI) fun r aU hr=>?_
  obtain⟨rfl,hr⟩:=hr;cases r with
  |done c=>exact⟨rfl,hr.imp id fun z=>⟨z.1,z.2.1,z.2.2.1,z.2.2.2.1,by have:=z.2.2.2.2;lia⟩⟩
  |yield c=>exact⟨rfl,hr.1,hr.2⟩
 ·rintro c aU ⟨rfl,hc,h1,h2,h3,h4⟩
  lia
 rintro t aU ⟨rfl,ht⟩;rcases ht with⟨x,e,hg⟩|⟨e,hI⟩
 ·rw[e];exact Zi ⟨.refl _,x,rfl,hg⟩
 rw[e];dsimp only;refine wpS_bind (wpS_lift (wpAny_rule ⟨rfl,?_⟩));refine wpS_bind (wpS_mono (wpS_forRange (I:=fun x c dU=>Eg aU dU∧c.1=none∧B1 lt a b c.2.1 c.2.2.1 c.2.2.2.1 (m+1+x)) (Q:=fun c dU=>Eg aU dU∧((∃x,c.1=some x∧MG lt a.toList b.toList x.toList)∨(c.1=none∧B1 lt a b c.2.1 c.2.2.1 c.2.2.2.1 (m+1)))) ?_ ?_ ⟨.refl _,rfl,hI⟩) ?_)
 ·rintro x c dU _ hx ⟨eg,hc,hI⟩;refine wpS_mono (K5 C M (eg.1.trans hk) hI) fun r D8 hr=>?_
  obtain⟨Ff,hr⟩:=hr;cases r with
  |done c=>exact⟨eg.trans Ff,hr.imp id fun z=>⟨z.1,z.2.1,z.2.2.1,z.2.2.2.1,by have:=z.2.2.2.2;lia⟩⟩
  |yield c=>exact⟨eg.trans Ff,hr.1,hr.2.1,hr.2.2.1,hr.2.2.2.1,by have:=hr.2.2.2.2;lia⟩
 ·rintro c dU ⟨eg,hc,h1,h2,h3,h4⟩
  lia
 rintro u dU ⟨eg,hu⟩;rcases hu with⟨x,e,hg⟩|⟨e,hI⟩
 ·rw[e];exact Zi ⟨eg,x,rfl,hg⟩
 rw[e];dsimp only;exact wpS_bind (sP fun D8 Si=>Zi ⟨eg.trans Si,rfl,hI⟩)
theorem K8{st:SortSt}{Q:Array Keyed→SortSt→Prop}(hk:kindOf st=κ)(ha:0<a.size)(hb:0<b.size)(q:∀r aU,Eg st aU→MG lt a.toList b.toList r.toList→Q r aU):wpS (model prog w) A E s (K1 a b) Q st:=by
 rw[Hz];refine wpS_bind (wpS_lift (wpAny_rule ⟨rfl,?_⟩));have ey:b[0]?=some b[0]:=XU;have zN:b.toList[0]?=some b[0]:=by rw[Array.getElem?_toList];exact ey
 refine wpS_bind (ff ey ?_);have m0:ML lt a.toList b.toList [] 0 0:=⟨XU,XU, .nil,fun x hx=>(by cases hx),XU⟩
 have m1:ML lt a.toList b.toList (#[b[0]]:Array Keyed).toList 0 1:=by
  have:=m0.b M (k:=1) (by simp;lia) (fun y hy x hx=>by
   rw[Gr zN]at hy;have:y=b[0]:=by simpa using hy
   rw[this];exact M.fst x (List.mem_of_mem_drop hx) _ zN)
  rw[Gr zN]at this;exact this
 by_cases e:(1==b.size)=true
 ·rw[Z1 e];refine wpS_pure (q _ _ (.refl _) ?_);rw[yW];exact m1.dn M (.inr (by have:=beq_iff_eq.mp e;simpa using this))
 rw[ZY e];have e:1≠b.size:=fun z=>e Υ
 by_cases e2:(0+1==a.size)=true
 ·rw[Z1 e2];refine wpS_pure (q _ _ (.refl _) ?_);rw[B0];exact m1.ls M (by have:=beq_iff_eq.mp e2;simpa using this)
 rw[ZY e2];have e2:0+1≠a.size:=fun z=>e2 Υ
 refine wpS_bind (wpS_get ?_);refine wpS_bind (wpS_mono (wpS_forRange (I:=fun x c dU=>Eg st dU∧c.1=none∧B1 lt a b c.2.1 c.2.2.1 c.2.2.2.1 x) (Q:=fun c dU=>Eg st dU∧∃x,c.1=some x∧MG lt a.toList b.toList x.toList) ?_ ?_ ⟨.refl _,rfl,m1,by show 0+1<a.size;lia,by show 1<b.size;lia,by show 0≤0+1;lia⟩) ?_)
 ·rintro x c dU _ hx ⟨eg,hc,hI⟩;refine wpS_mono (K7 C M (eg.1.trans hk) hI) fun r D8 hr=>?_
  obtain⟨Ff,hr⟩:=hr;cases r with
  |done c=>exact⟨eg.trans Ff,hr⟩
  |yield c=>exact⟨eg.trans Ff,hr⟩
 ·rintro c dU ⟨eg,hc,h1,h2,h3,h4⟩
  lia
 ·rintro c dU ⟨eg,x,e,hg⟩;rw[e];exact Zi (q x dU eg hg)
end
theorem xk{α:Type}{l:List α}{i:Nat}{x:α}:x∈l.take i↔∃t:Nat,t<i∧l[t]?=some x:=by
 have:=tP (l:=l) (i:=0) (k:=i) (x:=x);simpa using this
theorem yX{α:Type}{l:List α}{i t:Nat}{x:α}:x∈(l.take i).drop t↔∃u:Nat,t≤u∧u<i∧l[u]?=some x:=by
 rw[lQ];constructor
 ·rintro⟨u,hu⟩;rw[List.getElem?_take]at hu;split at hu
  ·exact⟨t+u,by lia,by assumption,hu⟩
  ·cases hu
 ·rintro⟨u,h1,h2,h3⟩;exact⟨u-t,by rw[List.getElem?_take,Z1 IL,show t+(u-t)=u by lia];exact h3⟩
theorem yY{α:Type}(l:List α){i t:Nat}(h:t≤i):l.take i=l.take t++(l.take i).drop t:=by
 conv=>lhs;rw[←List.take_append_drop t (l.take i)]
 rw[List.take_take,Nat.min_eq_left h]
section
variable{X:List Keyed}{lt:Keyed→Keyed→Bool}{P Q:List Keyed}
structure MH(lt:Keyed→Keyed→Bool)(P Q O:List Keyed)(i j:Nat):Prop where
 hi:i≤P.length
 hj:j≤Q.length
 tQ:Pw lt O
 zL:∀y∈O,∀x,x∈P.take i∨x∈Q.take j→lt x y=true
 HB:((P.take i++Q.take j)++O).Perm (P++Q)
theorem MH.a{O:List Keyed}{i j t:Nat}(M:MC X lt P Q)(m:MH lt P Q O i j)(ht:t≤i)(h:∀x∈(P.take i).drop t,∀y∈Q.take j,lt y x=true):MH lt P Q ((P.take i).drop t++O) t j:=by
 have sp:=yY P ht;have sd:Pw lt (P.take i):=M.sa.sublist (List.take_sublist _ _);rw[sp]at sd;obtain⟨s1,s2,s3⟩:=List.pairwise_append.mp sd;refine⟨by have:=m.hi;lia,m.hj,ζ ⟨s2,m.tQ,fun x hx y hy=>m.zL y hy x (.inl (List.mem_of_mem_drop hx))⟩,fun y hy x hx=>?_,?_⟩
 ·rcases List.mem_append.mp hy with hy|hy
  ·rcases hx with hx|hx
   ·exact s3 x hx y hy
   ·exact h y hy x hx
  ·exact m.zL y hy x (hx.imp (fun z=>by rw[sp];exact δ z) id)
 ·have:=m.HB;rw[sp]at this;refine List.Perm.trans ?_ this;rw[←List.append_assoc];refine List.Perm.append_right O ?_;rw[List.append_assoc,List.append_assoc];exact List.Perm.append_left _ List.perm_append_comm
theorem MH.b{O:List Keyed}{i j t:Nat}(M:MC X lt P Q)(m:MH lt P Q O i j)(ht:t≤j)(h:∀y∈(Q.take j).drop t,∀x∈P.take i,lt x y=true):MH lt P Q ((Q.take j).drop t++O) i t:=by
 have sp:=yY Q ht;have sd:Pw lt (Q.take j):=M.sb.sublist (List.take_sublist _ _);rw[sp]at sd;obtain⟨s1,s2,s3⟩:=List.pairwise_append.mp sd;refine⟨m.hi,by have:=m.hj;lia,ζ ⟨s2,m.tQ,fun x hx y hy=>m.zL y hy x (.inr (List.mem_of_mem_drop hx))⟩,fun y hy x hx=>?_,?_⟩
 ·rcases List.mem_append.mp hy with hy|hy
  ·rcases hx with hx|hx
   ·exact h y hy x hx
   ·exact s3 x hx y hy
  ·exact m.zL y hy x (hx.imp id (fun z=>by rw[sp];exact δ z))
 ·have:=m.HB;rw[sp]at this;rw[←List.append_assoc,List.append_assoc (P.take i)];exact this
theorem MH.dn{O:List Keyed}{i j:Nat}(M:MC X lt P Q)(m:MH lt P Q O i j)(h:i=0∨j=0):MG lt P Q (P.take i++Q.take j++O):=by
 refine⟨m.HB,?_⟩;have sa:Pw lt (P.take i):=M.sa.sublist (List.take_sublist _ _);have sb:Pw lt (Q.take j):=M.sb.sublist (List.take_sublist _ _);refine List.pairwise_append.mpr ⟨ζ ⟨sa,sb,fun x hx y hy=>?_⟩,m.tQ,fun x hx y hy=>m.zL y hy x (List.mem_append.mp hx)⟩;rcases h with h|h
 ·rw[h,List.take_zero]at hx;cases hx
 ·rw[h,List.take_zero]at hy;cases hy
theorem MH.fb{O:List Keyed}{i j:Nat}(M:MC X lt P Q)(m:MH lt P Q O i j)(h:j=1):MG lt P Q (Q.take j++P.take i++O):=by
 have sa:Pw lt (P.take i):=M.sa.sublist (List.take_sublist _ _);have sb:Pw lt (Q.take j):=M.sb.sublist (List.take_sublist _ _);refine⟨(List.Perm.append_right O List.perm_append_comm).trans m.HB,ζ ⟨ζ ⟨sb,sa,fun y hy x hx=>?_⟩,m.tQ,fun x hx y hy=>m.zL y hy x (List.mem_append.mp hx).symm⟩⟩;obtain⟨t,h1,h2⟩:=xk.mp hy;have:t=0:=by lia
 subst this;exact M.fst x (List.mem_of_mem_take hx) y h2
end
section
variable{prog:Program}{w:World}{A:Around}{E:Value→Shared→Prop}{s:Shared}{X:List Keyed}{κ:SortKind}{lt:Keyed→Keyed→Bool}(C:E9 prog w A s X κ lt){a b:Array Keyed}(M:MC X lt a.toList b.toList)
theorem yZ(o:Array Keyed)(i j:Nat):(Gq a b o i j).toList=a.toList.take i++b.toList.take j++o.toList.reverse:=by
 unfold Gq;simp[Array.toList_extract,List.extract_eq_take_drop]
theorem B2(o:Array Keyed)(i j:Nat):(Mo a b o i j).toList=b.toList.take j++a.toList.take i++o.toList.reverse:=by
 unfold Mo;simp[Array.toList_extract,List.extract_eq_take_drop]
theorem Jo(o:Array Keyed)(c:Array Keyed)(t i:Nat):(o++(c.extract t i).reverse).toList.reverse=(c.toList.take i).drop t++o.toList.reverse:=by
 simp[Array.toList_extract,List.extract_eq_take_drop,List.drop_take]
theorem B4(o:Array Keyed)(x:Keyed):(o.push x).toList.reverse=[x]++o.toList.reverse:=XU
theorem Gs{l:List Keyed}{i:Nat}{x:Keyed}(h0:0<i)(h:l[i-1]?=some x):(l.take i).drop (i-1)=[x]:=by
 have:l.take i=l.take (i-1)++[x]:=by
  conv=>lhs;rw[show i=i-1+1 by lia]
  rw[List.take_succ,h];rfl
 rw[this];have hl:=(ZF h).1;rw[List.drop_left' Ξ]
theorem sQ{l:List Keyed}(C:E9 prog w A s X κ lt)(hs:Pw lt l)(oA:∀x∈l,x∈X){i:Nat}{x z:Keyed}(h:l[i-1]?=some x)(hz:z∈l.take i){y:Keyed}(hy:y∈X)(AG:lt x y=true):lt z y=true:=by
 obtain⟨t,h1,h2⟩:=xk.mp hz;by_cases e:t=i-1
 ·subst e;rw[h]at h2;cases h2;exact AG
 ·exact C.tr _ (oA _ (ZS h2)) _ (oA _ (ZS h)) _ hy (hs.at IL h2 h) AG
def B5(lt:Keyed→Keyed→Bool)(a b:Array Keyed)(o:Array Keyed)(i j m:Nat):Prop:=MH lt a.toList b.toList o.toList.reverse i j∧0<i∧1<j∧m+i+j≤a.size+b.size
def K9(lt:Keyed→Keyed→Bool)(a b:Array Keyed)(m:Nat)(st:SortSt)(r:ForInStep T2)(aU:SortSt):Prop:=Eg st aU∧match r with
 | .done c=>(∃x,c.1=some x∧MG lt a.toList b.toList x.toList)∨(c.1=none∧B5 lt a b c.2.2.2.1 c.2.1 c.2.2.1 m)
 | .yield c=>c.1=none∧B5 lt a b c.2.2.2.1 c.2.1 c.2.2.1 m
include C M
theorem Fg{st:SortSt}{o:Array Keyed}{i j mg k l m:Nat}(ml:MH lt a.toList b.toList o.toList.reverse i j)(hi:0<i)(hj:1<j)(hm:m+i+j≤a.size+b.size+1)(h:∀x,a.toList[i-1]?=some x→∀y∈b.toList.take j,lt y x=true):wpS (model prog w) A E s (Qc a b o i j mg k l) (K9 lt a b m st) st:=by
 unfold Qc;have Sj:i≤a.size:=by have:=ml.hi;simpa using this
 have ex:a[i-1]?=some a[i-1]:=XU;have gP:a.toList[i-1]?=some a[i-1]:=by rw[Array.getElem?_toList];exact ex
 refine wpS_bind (ff ex ?_);have m2:MH lt a.toList b.toList (o.push a[i-1]).toList.reverse (i-1) j:=by
  have:=ml.a M (t:=i-1) (by lia) (fun x hx y hy=>by
   rw[Gs hi gP]at hx;have:x=a[i-1]:=by simpa using hx
   rw[this];exact h _ gP y hy)
  rw[Gs hi gP]at this;rw[B4];exact this
 by_cases e:(i-1==0)=true
 ·rw[Z1 e];refine wpS_pure ⟨.refl _, .inl ⟨_,rfl,?_⟩⟩;rw[yZ];exact m2.dn M (.inl (beq_iff_eq.mp e))
 ·rw[ZY e];have e:i-1≠0:=fun z=>e Υ
  split
  ·exact Zi ⟨.refl _, .inr ⟨rfl,m2,by show 0<i-1;lia,hj,by show m+(i-1)+j≤_;lia⟩⟩
  ·exact Zi ⟨.refl _,rfl,m2,by show 0<i-1;lia,hj,by show m+(i-1)+j≤_;lia⟩
theorem K_{st:SortSt}{o:Array Keyed}{i j mg k bc m:Nat}(hk:kindOf st=κ)(ml:MH lt a.toList b.toList o.toList.reverse i j)(hi:0<i)(hj:1<j)(hm:m+i+j≤a.size+b.size+1):wpS (model prog w) A E s (Se a b o i j mg k bc) (K9 lt a b m st) st:=by
 unfold Se;have Sj:i≤a.size:=by have:=ml.hi;simpa using this
 have Sk:j≤b.size:=by have:=ml.hj;simpa using this
 have ex:a[i-1]?=some a[i-1]:=XU;have gP:a.toList[i-1]?=some a[i-1]:=by rw[Array.getElem?_toList];exact ex
 have hx:a[i-1]∈a.toList:=ZS gP;refine wpS_bind (ff ex ?_);generalize a[i-1]=x at ex gP hx;have gb:∀t,t<j→b[0+t]?=some (b.getD t (.none, .none)):=fun t ht=>by simp[show t<b.size by lia]
 have rY:∀t,t<j→b.toList[t]?=some (b.getD t (.none, .none)):=fun t ht=>by rw[Array.getElem?_toList];simpa using gb t ht
 refine wpS_bind (qG C (fun t=>b.getD t (.none, .none)) hk (M.ia _ hx) (fun t ht=>⟨gb t ht,M.ib _ (ZS (rY t ht))⟩) (fun t u h1 h2=>M.sb.at h1 (rY t (by lia)) (rY u h2)) (by lia) fun t hl h1 h2=>?_);dsimp only;have zL:∀y∈(b.toList.take j).drop t,∀z∈a.toList.take i,lt z y=true:=fun y hy z hz=>by
  obtain⟨u,h3,h4,h5⟩:=yX.mp hy;have hb:=h2 u h3 h4;rw[rY u h4]at h5;have h5:=Zu h5;simp only[lF,if_true]at hb;rw[h5]at hb;have Sl:=List.mem_of_mem_take (List.mem_of_mem_drop hy);have hb:=C.no (M.ib _ Sl) (M.ia _ hx) (fun z=>M.ne _ hx _ Sl z.symm) hb;exact sQ C M.sa M.ia gP hz (M.ib _ Sl) hb
 have low:∀y∈b.toList.take t,lt y x=true:=fun y hy=>by
  obtain⟨u,h3,h4⟩:=xk.mp hy;have hb:=h1 u h3;rw[rY u IL]at h4;have h4:=Zu h4;simp only[lF,if_true]at hb;rw[h4]at hb;exact hb
 have m2:MH lt a.toList b.toList (o++(b.extract t j).reverse).toList.reverse i t:=by
  rw[Jo];exact ml.b M hl zL
 by_cases K4:j-t>0
 ·rw[Z1 K4];by_cases e:(t==1)=true
  ·rw[Z1 e];refine wpS_pure ⟨.refl _, .inl ⟨_,rfl,?_⟩⟩;rw[B2];exact m2.fb M (beq_iff_eq.mp e)
  ·rw[ZY e];have e:t≠1:=fun z=>e Υ
   by_cases e2:(t==0)=true
   ·rw[Z1 e2];refine wpS_pure ⟨.refl _, .inl ⟨_,rfl,?_⟩⟩;rw[yZ];exact m2.dn M (.inr (beq_iff_eq.mp e2))
   ·rw[ZY e2];have e2:t≠0:=fun z=>e2 Υ
    exact Fg C M m2 hi IL (by lia) fun y hy=>by rw[gP]at hy;cases hy;exact low
 ·rw[ZY K4];have:t=j:=by lia
  subst this;exact Fg C M ml hi hj hm fun y hy=>by rw[gP]at hy;cases hy;exact low
theorem Fh{st:SortSt}{o:Array Keyed}{i j mg k bc m:Nat}(hk:kindOf st=κ)(ml:MH lt a.toList b.toList o.toList.reverse i j)(hi:0<i)(hj:1<j)(hm:m+i+j≤a.size+b.size+2)(h:∀y,b.toList[j-1]?=some y→∀x∈a.toList.take i,lt x y=true):wpS (model prog w) A E s (Qd a b o i j mg k bc) (K9 lt a b m st) st:=by
 unfold Qd;have Sk:j≤b.size:=by have:=ml.hj;simpa using this
 have ex:b[j-1]?=some b[j-1]:=XU;have gP:b.toList[j-1]?=some b[j-1]:=by rw[Array.getElem?_toList];exact ex
 refine wpS_bind (ff ex ?_);have m2:MH lt a.toList b.toList (o.push b[j-1]).toList.reverse i (j-1):=by
  have:=ml.b M (t:=j-1) (by lia) (fun x hx y hy=>by
   rw[Gs IL gP]at hx;have:x=b[j-1]:=by simpa using hx
   rw[this];exact h _ gP y hy)
  rw[Gs IL gP]at this;rw[B4];exact this
 by_cases e:(j-1==1)=true
 ·rw[Z1 e];refine wpS_pure ⟨.refl _, .inl ⟨_,rfl,?_⟩⟩;rw[B2];exact m2.fb M (beq_iff_eq.mp e)
 ·rw[ZY e];have e:j-1≠1:=fun z=>e Υ
  exact K_ C M hk m2 hi IL (by lia)
theorem Fi{st:SortSt}{o:Array Keyed}{i j mg ac bc m:Nat}(hk:kindOf st=κ)(h:B5 lt a b o i j m):wpS (model prog w) A E s (DP a b o i j mg ac bc) (K9 lt a b (m+2) st) st:=by
 obtain⟨ml,hi,hj,hm⟩:=h;have Sj:i≤a.size:=by have:=ml.hi;simpa using this
 have Sk:j≤b.size:=by have:=ml.hj;simpa using this
 unfold DP;refine wpS_bind (sP fun AF eg=>?_);have Jn:kindOf AF=κ:=eg.1.trans hk;have fin:∀{m:Nat}{p:StateT SortSt Sem (ForInStep T2)},wpS (model prog w) A E s p (K9 lt a b m AF) AF→wpS (model prog w) A E s p (K9 lt a b m st) AF:=fun h=>wpS_mono h fun r aU z=>⟨eg.trans z.1,z.2⟩
 refine fin ?_;have ex:b[j-1]?=some b[j-1]:=XU;have gP:b.toList[j-1]?=some b[j-1]:=by rw[Array.getElem?_toList];exact ex
 have hx:b[j-1]∈b.toList:=ZS gP;refine wpS_bind (ff ex ?_);generalize b[j-1]=y at ex gP hx;have gb:∀t,t<i→a[0+t]?=some (a.getD t (.none, .none)):=fun t ht=>by simp[show t<a.size by lia]
 have rY:∀t,t<i→a.toList[t]?=some (a.getD t (.none, .none)):=fun t ht=>by rw[Array.getElem?_toList];simpa using gb t ht
 refine wpS_bind (qG C (fun t=>a.getD t (.none, .none)) Jn (M.ib _ hx) (fun t ht=>⟨gb t ht,M.ia _ (ZS (rY t ht))⟩) (fun t u h1 h2=>M.sa.at h1 (rY t (by lia)) (rY u h2)) (by lia) fun t hl h1 h2=>?_);dsimp only;have zL:∀x∈(a.toList.take i).drop t,∀z∈b.toList.take j,lt z x=true:=fun x uJ z hz=>by
  obtain⟨u,h3,h4,h5⟩:=yX.mp uJ;have hb:=h2 u h3 h4;rw[rY u h4]at h5;have h5:=Zu h5;simp only[lF,Bool.false_eq_true,if_false,Bool.not_eq_false']at hb;rw[h5]at hb;exact sQ C M.sb M.ib gP hz (M.ia _ (List.mem_of_mem_take (List.mem_of_mem_drop uJ))) hb
 have low:∀x∈a.toList.take t,lt x y=true:=fun x uJ=>by
  obtain⟨u,h3,h4⟩:=xk.mp uJ;have hb:=h1 u h3;rw[rY u IL]at h4;have h4:=Zu h4;have I_:=List.mem_of_mem_take uJ;simp only[lF,Bool.false_eq_true,if_false,Bool.not_eq_true']at hb;rw[h4]at hb;exact C.no (M.ib _ hx) (M.ia _ I_) (fun z=>M.ne _ I_ _ hx z.symm) hb
 have m2:MH lt a.toList b.toList (o++(a.extract t i).reverse).toList.reverse t j:=by
  rw[Jo];exact ml.a M hl zL
 by_cases zM:i-t>0
 ·rw[Z1 zM];by_cases e:(t==0)=true
  ·rw[Z1 e];refine wpS_pure ⟨.refl _, .inl ⟨_,rfl,?_⟩⟩;rw[yZ];exact m2.dn M (.inl (beq_iff_eq.mp e))
  ·rw[ZY e];have e:t≠0:=fun z=>e Υ
   exact Fh C M Jn m2 IL hj IL fun z hz=>by rw[gP]at hz;cases hz;exact low
 ·rw[ZY zM];have:t=i:=by lia
  subst this;exact Fh C M Jn ml hi hj IL fun z hz=>by rw[gP]at hz;cases hz;exact low
theorem K'{st:SortSt}{c:T2}{m:Nat}(hk:kindOf st=κ)(h:B5 lt a b c.2.2.2.1 c.2.1 c.2.2.1 m):wpS (model prog w) A E s (Sg a b c) (K9 lt a b (m+2) st) st:=by
 unfold Sg;split
 ·exact Fi C M hk h
 ·exact Fi C M hk h
theorem Lb{st:SortSt}{c:T1}{mg m:Nat}(hk:kindOf st=κ)(h:B5 lt a b c.2.2.2.1 c.2.1 c.2.2.1 m):wpS (model prog w) A E s (R' a b mg c) (fun r aU=>aU=st∧match r with
  | .done c=>(∃x,c.1=some x∧MG lt a.toList b.toList x.toList)∨(c.1=none∧B5 lt a b c.2.2.2.1 c.2.1 c.2.2.1 (m+1))
  | .yield c=>c.1=none∧B5 lt a b c.2.2.2.1 c.2.1 c.2.2.1 (m+1)) st:=by
 obtain⟨r,i,j,o,ac,bc⟩:=c;obtain⟨ml,hi,hj,hm⟩:=h;dsimp only at ml hi hj hm;have Sj:i≤a.size:=by have:=ml.hi;simpa using this
 have Sk:j≤b.size:=by have:=ml.hj;simpa using this
 unfold R';dsimp only;have ex:a[i-1]?=some a[i-1]:=XU;have gP:a.toList[i-1]?=some a[i-1]:=by rw[Array.getElem?_toList];exact ex
 have ey:b[j-1]?=some b[j-1]:=XU;have zN:b.toList[j-1]?=some b[j-1]:=by rw[Array.getElem?_toList];exact ey
 have hx:a[i-1]∈a.toList:=ZS gP;have hy:b[j-1]∈b.toList:=ZS zN;refine wpS_bind (ff ey (wpS_bind (ff ex ?_)));generalize a[i-1]=x at ex gP hx;generalize b[j-1]=y at ey zN hy;refine wpS_bind (C.ask hk (M.ib _ hy) (M.ia _ hx) ?_);dsimp only;cases e:lt y x with
 |true=>
  rw[if_pos rfl];refine wpS_bind (ff ex ?_);have m2:MH lt a.toList b.toList (o.push x).toList.reverse (i-1) j:=by
   have:=ml.a M (t:=i-1) (by lia) (fun x' uJ z hz=>by
    rw[Gs hi gP]at uJ;have:x'=x:=by simpa using uJ
    rw[this];exact sQ C M.sb M.ib zN hz (M.ia _ hx) e)
   rw[Gs hi gP]at this;rw[B4];exact this
  by_cases e2:(i-1==0)=true
  ·rw[Z1 e2];refine wpS_pure ⟨rfl, .inl ⟨_,rfl,?_⟩⟩;rw[yZ];exact m2.dn M (.inl (beq_iff_eq.mp e2))
  ·rw[ZY e2];have e2:i-1≠0:=fun z=>e2 Υ
   split
   ·exact Zi ⟨rfl, .inr ⟨rfl,m2,by show 0<i-1;lia,hj,by show m+1+(i-1)+j≤_;lia⟩⟩
   ·exact Zi ⟨rfl,rfl,m2,by show 0<i-1;lia,hj,by show m+1+(i-1)+j≤_;lia⟩
 |false=>
  rw[if_neg Xs];refine wpS_bind (ff ey ?_);have e:=C.no (M.ib _ hy) (M.ia _ hx) (fun z=>M.ne _ hx _ hy z.symm) e;have m2:MH lt a.toList b.toList (o.push y).toList.reverse i (j-1):=by
   have:=ml.b M (t:=j-1) (by lia) (fun y' Oh z hz=>by
    rw[Gs IL zN]at Oh;have:y'=y:=by simpa using Oh
    rw[this];exact sQ C M.sa M.ia gP hz (M.ib _ hy) e)
   rw[Gs IL zN]at this;rw[B4];exact this
  by_cases e2:(j-1==1)=true
  ·rw[Z1 e2];refine wpS_pure ⟨rfl, .inl ⟨_,rfl,?_⟩⟩;rw[B2];exact m2.fb M (beq_iff_eq.mp e2)
  ·rw[ZY e2];have e2:j-1≠1:=fun z=>e2 Υ
   split
   ·exact Zi ⟨rfl, .inr ⟨rfl,m2,hi,by show 1<j-1;lia,by show m+1+i+(j-1)≤_;lia⟩⟩
   ·exact Zi ⟨rfl,rfl,m2,hi,by show 1<j-1;lia,by show m+1+i+(j-1)≤_;lia⟩
theorem Lc{st:SortSt}{c:T3}{m:Nat}(hk:kindOf st=κ)(h:B5 lt a b c.2.2.2.1 c.2.1 c.2.2.1 m):wpS (model prog w) A E s (Sh a b c) (fun r aU=>Eg st aU∧match r with
  | .done c=>∃x,c.1=some x∧MG lt a.toList b.toList x.toList
  | .yield c=>c.1=none∧B5 lt a b c.2.2.2.1 c.2.1 c.2.2.1 (m+1)) st:=by
 unfold Sh;refine wpS_bind (wpS_mono (wpS_forRange (I:=fun x c aU=>aU=st∧c.1=none∧B5 lt a b c.2.2.2.1 c.2.1 c.2.2.1 (m+x)) (Q:=fun c aU=>aU=st∧((∃x,c.1=some x∧MG lt a.toList b.toList x.toList)∨(c.1=none∧B5 lt a b c.2.2.2.1 c.2.1 c.2.2.1 (m+1)))) ?_ ?_ ⟨rfl,rfl,h⟩) ?_)
 ·rintro x c aU _ hx ⟨rfl,hc,hI⟩;refine wpS_mono (Lb C M hk hI) fun r aU hr=>?_
  obtain⟨rfl,hr⟩:=hr;cases r with
  |done c=>exact⟨rfl,hr.imp id fun z=>⟨z.1,z.2.1,z.2.2.1,z.2.2.2.1,by have:=z.2.2.2.2;lia⟩⟩
  |yield c=>exact⟨rfl,hr.1,hr.2⟩
 ·rintro c aU ⟨rfl,hc,h1,h2,h3,h4⟩
  lia
 rintro t aU ⟨rfl,ht⟩;rcases ht with⟨x,e,hg⟩|⟨e,hI⟩
 ·rw[e];exact Zi ⟨.refl _,x,rfl,hg⟩
 rw[e];dsimp only;refine wpS_bind (wpS_lift (wpAny_rule ⟨rfl,?_⟩));refine wpS_bind (wpS_mono (wpS_forRange (I:=fun x c dU=>Eg aU dU∧c.1=none∧B5 lt a b c.2.2.2.1 c.2.1 c.2.2.1 (m+1+x)) (Q:=fun c dU=>Eg aU dU∧((∃x,c.1=some x∧MG lt a.toList b.toList x.toList)∨(c.1=none∧B5 lt a b c.2.2.2.1 c.2.1 c.2.2.1 (m+1)))) ?_ ?_ ⟨.refl _,rfl,hI⟩) ?_)
 ·rintro x c dU _ hx ⟨eg,hc,hI⟩;refine wpS_mono (K' C M (eg.1.trans hk) hI) fun r D8 hr=>?_
  obtain⟨Ff,hr⟩:=hr;cases r with
  |done c=>exact⟨eg.trans Ff,hr.imp id fun z=>⟨z.1,z.2.1,z.2.2.1,z.2.2.2.1,by have:=z.2.2.2.2;lia⟩⟩
  |yield c=>exact⟨eg.trans Ff,hr.1,hr.2.1,hr.2.2.1,hr.2.2.2.1,by have:=hr.2.2.2.2;lia⟩
 ·rintro c dU ⟨eg,hc,h1,h2,h3,h4⟩
  lia
 rintro u dU ⟨eg,hu⟩;rcases hu with⟨x,e,hg⟩|⟨e,hI⟩
 ·rw[e];exact Zi ⟨eg,x,rfl,hg⟩
 rw[e];dsimp only;exact wpS_bind (sP fun D8 Si=>Zi ⟨eg.trans Si,rfl,hI⟩)
theorem Ld{st:SortSt}{Q:Array Keyed→SortSt→Prop}(hk:kindOf st=κ)(ha:0<a.size)(hb:0<b.size)(q:∀r aU,Eg st aU→MG lt a.toList b.toList r.toList→Q r aU):wpS (model prog w) A E s (K2 a b) Q st:=by
 rw[HA];refine wpS_bind (wpS_lift (wpAny_rule ⟨rfl,?_⟩));have ex:a[a.size-1]?=some a[a.size-1]:=XU;have gP:a.toList[a.size-1]?=some a[a.size-1]:=by rw[Array.getElem?_toList];exact ex
 refine wpS_bind (ff ex ?_);have m0:MH lt a.toList b.toList [] a.size b.size:=⟨XU,XU, .nil,fun x hx=>(by cases hx),by rw[List.take_of_length_le Xs,List.take_of_length_le Xs];simp⟩
 have m1:MH lt a.toList b.toList (#[a[a.size-1]]:Array Keyed).toList.reverse (a.size-1) b.size:=by
  have:=m0.a M (t:=a.size-1) (by lia) (fun x hx y hy=>by
   rw[Gs ha gP]at hx;have:x=a[a.size-1]:=by simpa using hx
   rw[this];exact M.lst y (List.mem_of_mem_take hy) _ (by simpa using gP))
  rw[Gs ha gP]at this;simpa using this
 by_cases e:(a.size-1==0)=true
 ·rw[Z1 e];refine wpS_pure (q _ _ (.refl _) ?_);rw[yZ];exact m1.dn M (.inl (beq_iff_eq.mp e))
 rw[ZY e];have e:a.size-1≠0:=fun z=>e Υ
 by_cases e2:(b.size==1)=true
 ·rw[Z1 e2];refine wpS_pure (q _ _ (.refl _) ?_);rw[B2];exact m1.fb M (beq_iff_eq.mp e2)
 rw[ZY e2];have e2:b.size≠1:=fun z=>e2 Υ
 refine wpS_bind (wpS_get ?_);refine wpS_bind (wpS_mono (wpS_forRange (I:=fun x c dU=>Eg st dU∧c.1=none∧B5 lt a b c.2.2.2.1 c.2.1 c.2.2.1 x) (Q:=fun c dU=>Eg st dU∧∃x,c.1=some x∧MG lt a.toList b.toList x.toList) ?_ ?_ ⟨.refl _,rfl,m1,by show 0<a.size-1;lia,by show 1<b.size;lia,by show 0+(a.size-1)+b.size≤_;lia⟩) ?_)
 ·rintro x c dU _ hx ⟨eg,hc,hI⟩;refine wpS_mono (Lc C M (eg.1.trans hk) hI) fun r D8 hr=>?_
  obtain⟨Ff,hr⟩:=hr;cases r with
  |done c=>exact⟨eg.trans Ff,hr⟩
  |yield c=>exact⟨eg.trans Ff,hr⟩
 ·rintro c dU ⟨eg,hc,h1,h2,h3,h4⟩
  lia
 ·rintro c dU ⟨eg,x,e,hg⟩;rw[e];exact Zi (q x dU eg hg)
end
def Qe(lo i n:Nat):StateT SortSt Sem AscSt:=forIn [i:n] ((none,i):AscSt) fun _ c=>do
 let z←ltAt' (lo+c.2) (lo+c.2-1)
 match z with
 |some v=>if v=true then pure (.done (none,c.2))else pure (.yield (none,c.2+1))
 | _=>pure (.done (some none,c.2))
def Qf(lo i n:Nat):StateT SortSt Sem (Option Nat):=do
 reverseSlice' lo (lo+i)
 let t←Qe lo i n
 match t.1 with
 |some r=>pure r
 |none=>pure (some t.2)
def Sn(lo i n:Nat):StateT SortSt Sem DescSt:=forIn [i:n] ((none,i,0):DescSt) fun _ c=>do
 let z←ltAt' (lo+c.2.1) (lo+c.2.1-1)
 match z with
 |some v=>
  if v=true then
   if c.2.2>0 then do
    reverseSlice' (lo+c.2.1-(c.2.2+1)) (lo+c.2.1)
    pure (.yield (none,c.2.1+1,0))
   else pure (.yield (none,c.2.1+1,0))
  else do
   let z←ltAt' (lo+c.2.1-1) (lo+c.2.1)
   match z with
   |some v=>if v=true then pure (.done (none,c.2.1,c.2.2))else pure (.yield (none,c.2.1+1,c.2.2+1))
   | _=>pure (.done (some none,c.2.1,c.2.2))
 | _=>pure (.done (some none,c.2.1,c.2.2))
def So(lo i n:Nat):StateT SortSt Sem (Option Nat):=do
 liftM (rule "list.sort.descending-run")
 let t←Sn lo (i+1) n
 match t.1 with
 |some r=>pure r
 |none=>
  if t.2.2>0 then do
   reverseSlice' (lo+t.2.1-(t.2.2+1)) (lo+t.2.1)
   Qf lo t.2.1 n
  else Qf lo t.2.1 n
theorem Le(lo n:Nat):countRun' lo n=(do
 let t←Qe lo 1 n
 match t.1 with
 |some r=>pure r
 |none=>
  if (t.2==n)=true then pure (some t.2)
  else if t.2>1 then do
   let z←ltAt' lo (lo+t.2-1)
   match z with
   |some v=>if v=true then pure (some t.2)else do
     reverseSlice' lo (lo+t.2)
     So lo t.2 n
   | _=>pure none
  else So lo t.2 n):=by kernel_rfl
def UQ(lo k:Nat):StateT SortSt Sem (Option Bool×Nat×Nat):=forIn [0:k] ((none,0,k):Option Bool×Nat×Nat) fun _ c=>
 if c.2.1≥c.2.2 then pure (.done (none,c.2.1,c.2.2))
 else do
  let z←ltAt' (lo+k) (lo+(c.2.1+c.2.2)/2)
  match z with
  |some v=>if v=true then pure (.yield (none,c.2.1,(c.2.1+c.2.2)/2))else pure (.yield (none,(c.2.1+c.2.2)/2+1,c.2.2))
  | _=>pure (.done (some false,c.2.1,c.2.2))
theorem Lf(lo n ok:Nat):binarySort' lo n ok=(do
 let t←forIn [max ok 1:n] ((none,()):Option Bool×Unit) fun k _=>do
  let t←UQ lo k
  match t.1 with
  |some r=>pure (.done (some r,()))
  |none=>do
   moveDown' (lo+k) (lo+t.2.1)
   pure (.yield (none,()))
 match t.1 with
 |some r=>pure r
 |none=>pure true):=by kernel_rfl
def DQ(j:Nat)(m:Array Keyed)(st:SortSt):SortSt:=setArr st (m.toList.zipIdx.foldl (fun c q=>c.setIfInBounds (j+q.2) q.1) (V1 st))
theorem Lg(i:Nat):mergeAt' i=(do
 let g←get
 let (some (p,m,v),some (q,n,_)):=((YX g)[i]?,(YX g)[i+1]?)|unsupported "internal:list.sort.pending"
 set (setPending g (((YX g).setIfInBounds i (p,m+n,v)).eraseIdxIfInBounds (i+1)))
 let some k←yV false (←elem' (V1 g) q) (V1 g) p m 0|return false
 if m-k==0 then return true
 let some n←yV true (←elem' (V1 g) (p+k+(m-k)-1)) (V1 g) q n (n-1)|return false
 if n==0 then return true
 let r←if m-k≤n then K1 ((V1 g).extract (p+k) q) ((V1 g).extract q (q+n))else K2 ((V1 g).extract (p+k) q) ((V1 g).extract q (q+n))
 modify fun st=>DQ (p+k) r st
 return (failedOf (←get)).isNone):=by kernel_rfl
def Sq(n w:Nat):StateT SortSt Sem (Option Unit×Unit):=forIn [0:n] ((none,()):Option Unit×Unit) fun _ _=>do
 let g←get
 match (if (YX g).size>1 then(YX g)[(YX g).size-2]? else none)with
 |some (_,_,v)=>
  if v≤w then pure (.done (none,()))
  else do
   let z←mergeAt' ((YX g).size-2)
   if (!z)=true then pure (.done (some (),()))else pure (.yield (none,()))
 | _=>pure (.done (none,()))
def UR(w:Nat)(st:SortSt):SortSt:=setPending st ((YX st).modify ((YX st).size-1) fun(p,l,_)=>(p,l,w))
def Qg(lo n:Nat)(st:SortSt):SortSt:=setPending st ((YX st).push (lo,n,0))
def Qh(N lo n:Nat):StateT SortSt Sem (ForInStep (Option Unit×Nat)):=do
 let g←get
 match (YX g).back? with
 |some (p,l,_)=>do
  let t←Sq N (power' N (2*p+l) (2*p+l+l+n) N)
  match t.1 with
  |some r=>pure (.done (some r,lo))
  |none=>do
   modify (UR (power' N (2*p+l) (2*p+l+l+n) N))
   modify (Qg lo n)
   pure (.yield (none,lo+n))
 | _=>do
  modify (Qg lo n)
  pure (.yield (none,lo+n))
def Sr(N:Nat):StateT SortSt Sem (Option Unit×Unit):=forIn [0:N] ((none,()):Option Unit×Unit) fun _ _=>do
 let g←get
 if (YX g).size≤1 then pure (.done (none,()))
 else do
  let z←mergeAt' (if (if (YX g).size-2>0 then((YX g)[(YX g).size-2-1]?).map (·.2.1)else none).any (·<((YX g)[(YX g).size-2+1]?.elim 0 (·.2.1)))then(YX g).size-2-1 else(YX g).size-2)
  if (!z)=true then pure (.done (some (),()))else pure (.yield (none,()))
theorem HC:sortRuns'=(do
 let g←get
 let t←forIn [0:(V1 g).size] ((none,0):Option Unit×Nat) fun _ c=>
  if c.2≥(V1 g).size then pure (.done (none,c.2))
  else do
   let z←countRun' c.2 ((V1 g).size-c.2)
   match z with
   |some n=>
    if n<minRun' (V1 g).size (V1 g).size 0 then do
     liftM (rule "list.sort.binary-insertion")
     let z←binarySort' c.2 (min ((V1 g).size-c.2) (minRun' (V1 g).size (V1 g).size 0)) n
     if (!z)=true then pure (.done (some (),c.2))else Qh (V1 g).size c.2 (min ((V1 g).size-c.2) (minRun' (V1 g).size (V1 g).size 0))
    else Qh (V1 g).size c.2 n
   | _=>pure (.done (some (),c.2))
 match t.1 with
 |some r=>pure r
 |none=>do
  let u←Sr (V1 g).size
  match u.1 with
  |some r=>pure r
  |none=>pure ()):=by kernel_rfl
abbrev gg(xs:Array Keyed)(k:Nat):Keyed:=xs.getD k (.none, .none)
theorem oX(xs:Array Keyed)(k:Nat):gg xs k=(xs[k]?).getD (.none, .none):=by unfold gg;rw[Array.getD_eq_getD_getElem?]
theorem lA{xs:Array Keyed}{k:Nat}(h:k<xs.size):xs[k]?=some (gg xs k):=by simp[h]
def Sw(lt:Keyed→Keyed→Bool)(xs:Array Keyed)(a b:Nat):Prop:=∀i j,a≤i→i<j→j<b→lt (gg xs i) (gg xs j)=true
def Dw(lt:Keyed→Keyed→Bool)(xs:Array Keyed)(a b:Nat):Prop:=∀i j,a≤i→i<j→j<b→lt (gg xs j) (gg xs i)=true
theorem Sw.congr{lt:Keyed→Keyed→Bool}{xs ys:Array Keyed}{a b:Nat}(h:Sw lt xs a b)(e:∀t,a≤t→t<b→gg ys t=gg xs t):Sw lt ys a b:=fun i j h1 h2 h3=>by rw[e i h1 IL,e j IL h3];exact h i j h1 h2 h3
structure SB(X:List Keyed)(κ:SortKind)(st:SortSt):Prop where
 pm:(V1 st).toList.Perm X
 kd:kindOf st=κ
 fl:failedOf st=none
theorem HE{σ:Type}{M:Model}{A:Around}{E:Value→Shared→Prop}{s:Shared}{x:σ}{Q:PUnit→σ→Prop}{st:σ}(h:Q ⟨⟩ x):wpS M A E s (set x:StateT σ Sem PUnit) Q st:=by
 unfold wpS;rw[StateT.run_set];exact YZ ⟨rfl,h⟩
section
variable{prog:Program}{w:World}{A:Around}{E:Value→Shared→Prop}{s:Shared}{X:List Keyed}{κ:SortKind}{lt:Keyed→Keyed→Bool}
theorem SB.size{st:SortSt}(b:SB X κ st):(V1 st).size=X.length:=by have:=b.pm.length_eq;simpa using this
theorem SB.mem{st:SortSt}(b:SB X κ st){k:Nat}(h:k<X.length):gg (V1 st) k∈X:=by
 have:=lA (xs:=V1 st) (k:=k) (by rw[b.size];exact h);rw[←Array.getElem?_toList]at this;exact b.pm.mem_iff.mp (ZS this)
theorem SB.inj{st:SortSt}(C:E9 prog w A s X κ lt)(b:SB X κ st){i j:Nat}(hi:i<X.length)(hj:j<X.length)(h:i≠j):gg (V1 st) i≠gg (V1 st) j:=fun e=>by
 have h1:=lA (xs:=V1 st) (k:=i) (by rw[b.size];exact hi);have h2:=lA (xs:=V1 st) (k:=j) (by rw[b.size];exact hj);rw[←Array.getElem?_toList]at h1 h2;have nd:(V1 st).toList.Nodup:=b.pm.nodup_iff.mpr C.nd;exact h ((List.getElem?_inj (ZF h1).1 nd).mp (by rw[h1,h2,e]))
theorem SB.set{st:SortSt}{xs:Array Keyed}(b:SB X κ st)(h:xs.Perm (V1 st)):SB X κ (setArr st xs):=⟨(Array.perm_iff_toList_perm.mp h).trans b.pm,b.kd,b.fl⟩
variable(C:E9 prog w A s X κ lt)
include C
theorem y4{st:SortSt}{i j:Nat}{Q:Option Bool→SortSt→Prop}(b:SB X κ st)(hi:i<X.length)(hj:j<X.length)(h:Q (some (lt (Λ i) (Λ j))) st):wpS (model prog w) A E s (ltAt' i j) Q st:=by
 rw[ltAt'_eq];refine wpS_bind (wpS_get ?_);show wpS _ _ _ _ (do let x←elem' (V1 st) i;let y←elem' (V1 st) j;lt' x y) Q st;exact wpS_bind (ff (lA (by rw[b.size];exact hi)) (wpS_bind (ff (lA (by rw[b.size];exact hj)) (C.ask b.kd (b.mem hi) (b.mem hj) h))))
theorem SB.no{st:SortSt}(b:SB X κ st){i j:Nat}(hi:i<X.length)(hj:j<X.length)(h:i≠j)(e:lt (Λ i) (Λ j)=false):lt (Λ j) (Λ i)=true:=C.no (b.mem hi) (b.mem hj) (b.inj C hi hj h) e
theorem Sw.next{st:SortSt}(b:SB X κ st){lo n:Nat}(h1:1≤n)(hn:lo+n<X.length)(h:Sw lt (V1 st) lo (lo+n))(e:lt (Λ (lo+n)) (Λ (lo+n-1))=false):Sw lt (V1 st) lo (lo+(n+1)):=fun i j hi uI hj=>by
 have hl:=b.no C (i:=lo+n) (j:=lo+n-1) hn IL (by lia) e;by_cases ej:j=lo+n
 ·subst ej;by_cases ei:i=lo+n-1
  ·subst ei;exact hl
  ·exact C.tr _ (b.mem IL) _ (b.mem IL) _ (b.mem hn) (h i (lo+n-1) hi IL (by lia)) hl
 ·exact h i j hi uI IL
theorem Fj{st:SortSt}{lo i n:Nat}{Q:AscSt→SortSt→Prop}(b:SB X κ st)(hn:lo+n≤X.length)(h1:1≤i)(oA:i≤n)(hs:Sw lt (V1 st) lo (lo+i))(q:∀m,i≤m→m≤n→Sw lt (V1 st) lo (lo+m)→(m=n∨lt (Λ (lo+m)) (Λ (lo+m-1))=true)→Q (none,m) st):wpS (model prog w) A E s (Qe lo i n) Q st:=by
 unfold Qe;refine wpS_forRange (I:=fun x c aU=>aU=st∧c=(none,x)∧Sw lt (V1 st) lo (lo+x)) ?_ ?_ ⟨rfl,rfl,hs⟩
 ·rintro x c aU kR hx ⟨rfl,rfl,m8⟩;refine wpS_bind (y4 C b (by show lo+x<_;lia) (by show lo+x-1<_;lia) ?_);dsimp only;cases e:lt (gg (V1 aU) (lo+x)) (gg (V1 aU) (lo+x-1))with
  |true=>
   rw[if_pos rfl];exact Zi (q x kR IL m8 (.inr e))
  |false=>
   rw[if_neg Xs];exact Zi ⟨rfl,rfl,Sw.next C b (by lia) (by lia) m8 e⟩
 ·rintro c aU ⟨rfl,rfl,m8⟩;rw[show max i n=n by lia]at m8⊢;exact q n oA Β m8 (.inl rfl)
omit C in
theorem AH{xs:Array Keyed}{i j:Nat}(hj:j≤xs.size)(k:Nat):gg (mirror xs i j ((j-i)/2)) k=if i≤k∧k<j then gg xs (i+j-1-k)else gg xs k:=by
 rw[oX,getElem?_mirror_all hj];split<;>rw[oX]
theorem Lh{st:SortSt}{lo i n:Nat}{Q:Option Nat→SortSt→Prop}(b:SB X κ st)(hn:lo+n≤X.length)(h1:1≤i)(oA:i≤n)(hs:Dw lt (V1 st) lo (lo+i))(q:∀m aU,SB X κ aU→pendingOf aU=pendingOf st→(∀t,t<lo→gg (V1 aU) t=gg (V1 st) t)→1≤m→m≤n→Sw lt (V1 aU) lo (lo+m)→Q (some m) aU):wpS (model prog w) A E s (Qf lo i n) Q st:=by
 unfold Qf;refine wpS_bind ?_;rw[reverseSlice'_eq];refine wpS_modify ?_;have hsz:lo+i≤(V1 st).size:=by rw[b.size];lia
 have b':SB X κ (setArr st (mirror (V1 st) lo (lo+i) ((lo+i-lo)/2))):=b.set (mirror_perm _ _ _ _);refine wpS_bind (Fj C b' hn h1 oA (fun x y hx AG hy=>?_) fun m a1 a2 a3 _=>Zi (q m _ b' rfl (fun t ht=>?_) (by lia) a2 a3))
 ·show lt (gg (mirror (V1 st) lo (lo+i) ((lo+i-lo)/2)) x) (gg (mirror (V1 st) lo (lo+i) ((lo+i-lo)/2)) y)=true;rw[AH hsz,AH hsz,Z1 IL,Z1 IL];exact hs _ _ (by lia) (by lia) (by lia)
 ·show gg (mirror (V1 st) lo (lo+i) ((lo+i-lo)/2)) t=_;rw[AH hsz,ZY IL]
theorem Li{st:SortSt}{lo i n:Nat}{Q:DescSt→SortSt→Prop}(b:SB X κ st)(hn:lo+n≤X.length)(h1:1≤i)(oA:i≤n)(hs:Dw lt (V1 st) lo (lo+i))(q:∀m,i≤m→m≤n→Dw lt (V1 st) lo (lo+m)→Q (none,m,0) st):wpS (model prog w) A E s (Sn lo i n) Q st:=by
 unfold Sn;refine wpS_forRange (I:=fun x c aU=>aU=st∧c=(none,x,0)∧Dw lt (V1 st) lo (lo+x)) ?_ ?_ ⟨rfl,rfl,hs⟩
 ·rintro x c aU kR hx ⟨rfl,rfl,m8⟩;refine wpS_bind (y4 C b (by show lo+x<_;lia) (by show lo+x-1<_;lia) ?_);dsimp only;cases e:lt (gg (V1 aU) (lo+x)) (gg (V1 aU) (lo+x-1))with
  |true=>
   rw[if_pos rfl,ZY IL];refine wpS_pure ⟨rfl,rfl,fun y z hy Xb hz=>?_⟩;by_cases ez:z=lo+x
   ·subst ez;by_cases ey:y=lo+x-1
    ·subst ey;exact e
    ·exact C.tr _ (b.mem IL) _ (b.mem IL) _ (b.mem IL) e (m8 y (lo+x-1) hy IL (by lia))
   ·exact m8 y z hy Xb IL
  |false=>
   rw[if_neg Xs];have e':=b.no C (i:=lo+x) (j:=lo+x-1) (by lia) (by lia) (by lia) e;refine wpS_bind (y4 C b (by lia) (by lia) ?_);rw[e'];dsimp only;rw[if_pos rfl];exact Zi (q x kR IL m8)
 ·rintro c aU ⟨rfl,rfl,m8⟩;rw[show max i n=n by lia]at m8⊢;exact q n oA Β m8
theorem Oi{st:SortSt}{lo n:Nat}{Q:Option Nat→SortSt→Prop}(b:SB X κ st)(hn:lo+n≤X.length)(h1:1≤n)(q:∀m aU,SB X κ aU→pendingOf aU=pendingOf st→(∀t,t<lo→gg (V1 aU) t=gg (V1 st) t)→1≤m→m≤n→Sw lt (V1 aU) lo (lo+m)→Q (some m) aU):wpS (model prog w) A E s (countRun' lo n) Q st:=by
 rw[Le];refine wpS_bind (Fj C b hn Β h1 (fun i j a b c=>by lia) fun m a1 a2 a3 a4=>?_);dsimp only;by_cases e:(m==n)=true
 ·rw[Z1 e];exact Zi (q m st b rfl (fun _ _=>rfl) a1 a2 a3)
 ·rw[ZY e];have e:m≠n:=fun z=>e Υ
  by_cases e2:m>1
  ·rw[Z1 e2];refine wpS_bind (y4 C b (by lia) (by lia) ?_);rw[a3 lo (lo+m-1) (Nat.le_refl _) (by lia) (by lia)];dsimp only;rw[if_pos rfl];exact Zi (q m st b rfl (fun _ _=>rfl) a1 a2 a3)
  ·rw[ZY e2];have:m=1:=by lia
   subst this;unfold So;refine wpS_bind (wpS_lift (wpAny_rule ⟨rfl,?_⟩));refine wpS_bind (Li C b hn IL (by lia) (fun i j hi uI hj=>?_) fun m c1 c2 c3=>?_)
   ·have hi:i=lo:=by lia
    have hj:j=lo+1:=by lia
    subst hi hj;exact a4.resolve_left e
   ·dsimp only;rw[ZY IL];exact Lh C b hn IL c2 c3 q
omit C in
theorem Lj{xs:Array Keyed}{src d:Nat}(hs:src<xs.size)(hd:d≤src)(k:Nat):gg (bubble xs src d) k=if k=src-d then gg xs src else if src-d<k∧k≤src then gg xs (k-1)else gg xs k:=by
 rw[oX,getElem?_bubble hs d hd];by_cases h1:k=src-d
 ·rw[Z1 h1,Z1 h1,oX]
 ·rw[ZY h1,ZY h1];by_cases h2:src-d<k∧k≤src
  ·rw[Z1 h2,Z1 h2,oX]
  ·rw[ZY h2,ZY h2,oX]
theorem Oj{st:SortSt}{lo n ok:Nat}{Q:Bool→SortSt→Prop}(b:SB X κ st)(hn:lo+n≤X.length)(h1:1≤ok)(bX:ok≤n)(hs:Sw lt (V1 st) lo (lo+ok))(q:∀aU,SB X κ aU→pendingOf aU=pendingOf st→(∀t,t<lo→gg (V1 aU) t=gg (V1 st) t)→Sw lt (V1 aU) lo (lo+n)→Q true aU):wpS (model prog w) A E s (binarySort' lo n ok) Q st:=by
 rw[Lf];refine wpS_bind (wpS_mono (wpS_forRange (I:=fun k c aU=>c=(none,())∧SB X κ aU∧pendingOf aU=pendingOf st∧(∀t,t<lo→gg (V1 aU) t=gg (V1 st) t)∧Sw lt (V1 aU) lo (lo+k)) (Q:=fun c aU=>c=(none,())∧SB X κ aU∧pendingOf aU=pendingOf st∧(∀t,t<lo→gg (V1 aU) t=gg (V1 st) t)∧Sw lt (V1 aU) lo (lo+n)) ?_ ?_ ⟨rfl,b,rfl,fun _ _=>rfl,by rw[show max ok 1=ok by lia];exact hs⟩) ?_)
 ·rintro k c aU Jn hk ⟨rfl,b',hp,hf,m8⟩;unfold UQ;refine wpS_bind (wpS_mono (wpS_forRange (I:=fun x c dU=>dU=aU∧∃l r,c=(none,l,r)∧l≤r∧r≤k∧(∀i,i<l→lt (gg (V1 aU) (lo+i)) (gg (V1 aU) (lo+k))=true)∧(∀i,r≤i→i<k→lt (gg (V1 aU) (lo+k)) (gg (V1 aU) (lo+i))=true)∧r-l+x≤k) (Q:=fun c dU=>dU=aU∧∃l r,c=(none,l,r)∧l≤k∧(∀i,i<l→lt (gg (V1 aU) (lo+i)) (gg (V1 aU) (lo+k))=true)∧(∀i,l≤i→i<k→lt (gg (V1 aU) (lo+k)) (gg (V1 aU) (lo+i))=true)) ?_ ?_ ⟨rfl,0,k,rfl,by lia,by lia,fun i hi=>by lia,fun i h1 h2=>by lia,by lia⟩) ?_)
  ·rintro x c dU _ hx ⟨rfl,l,r,rfl,a1,a2,a3,a4,a5⟩;dsimp only;by_cases US:l≥r
   ·rw[Z1 US];exact Zi ⟨rfl,l,r,rfl,by lia,a3,fun i h1 h2=>a4 i IL h2⟩
   ·rw[ZY US];refine wpS_bind (y4 C b' IL (by lia) ?_);dsimp only;cases e:lt (gg (V1 dU) (lo+k)) (gg (V1 dU) (lo+(l+r)/2))with
    |true=>
     rw[if_pos rfl];refine wpS_pure ⟨rfl,l,(l+r)/2,rfl,by lia,by lia,a3,fun i h1 h2=>?_,by lia⟩;by_cases ei:i=(l+r)/2
     ·subst ei;exact e
     ·exact C.tr _ (b'.mem IL) _ (b'.mem IL) _ (b'.mem IL) e (m8 (lo+(l+r)/2) (lo+i) (by lia) (by lia) (by lia))
    |false=>
     rw[if_neg Xs];have e':=b'.no C (i:=lo+k) (j:=lo+(l+r)/2) (by lia) (by lia) (by lia) e;refine wpS_pure ⟨rfl,(l+r)/2+1,r,rfl,by lia,a2,fun i h1=>?_,a4,by lia⟩;by_cases ei:i=(l+r)/2
     ·subst ei;exact e'
     ·exact C.tr _ (b'.mem IL) _ (b'.mem IL) _ (b'.mem IL) (m8 (lo+i) (lo+(l+r)/2) (by lia) (by lia) (by lia)) e'
  ·rintro c dU ⟨rfl,l,r,rfl,a1,a2,a3,a4,a5⟩;exact⟨rfl,l,r,rfl,by lia,a3,fun i h1 h2=>a4 i IL h2⟩
  rintro c dU ⟨rfl,l,r,rfl,a1,a2,a3⟩;dsimp only;refine wpS_bind ?_;rw[moveDown'_eq];refine wpS_modify (Zi ?_);have hsz:lo+k<(V1 dU).size:=by rw[b'.size];lia
  have gb:=fun t=>Lj (xs:=V1 dU) hsz (d:=lo+k-(lo+l)) (by lia) t
  have es:lo+k-(lo+k-(lo+l))=lo+l:=by lia
  rw[es]at gb;refine⟨rfl,b'.set (bubble_perm _ _ _),hp,fun t ht=>?_,fun i j hi uI hj=>?_⟩
  ·show gg (bubble (V1 dU) (lo+k) (lo+k-(lo+l))) t=_;rw[gb,ZY IL,ZY IL];exact hf t ht
  ·show lt (gg (bubble (V1 dU) (lo+k) (lo+k-(lo+l))) i) (gg (bubble (V1 dU) (lo+k) (lo+k-(lo+l))) j)=true;rw[gb,gb];have Xc:∀t,lo≤t→t<lo+l→lt (gg (V1 dU) t) (gg (V1 dU) (lo+k))=true:=fun t h1 h2=>by have:=a2 (t-lo) (by lia);rw[show lo+(t-lo)=t by lia]at this;exact this
   have Xd:∀t,lo+l≤t→t<lo+k→lt (gg (V1 dU) (lo+k)) (gg (V1 dU) t)=true:=fun t h1 h2=>by have:=a3 (t-lo) (by lia) (by lia);rw[show lo+(t-lo)=t by lia]at this;exact this
   by_cases e1:i=lo+l
   ·rw[Z1 e1,ZY IL,Z1 IL];exact Xd _ (by lia) (by lia)
   ·rw[ZY e1];by_cases e2:lo+l<i∧i≤lo+k
    ·rw[Z1 e2,ZY IL,Z1 IL];exact m8 _ _ (by lia) (by lia) (by lia)
    ·rw[ZY e2];by_cases e3:j=lo+l
     ·rw[Z1 e3];exact Xc _ (by lia) (by lia)
     ·rw[ZY e3];by_cases e4:lo+l<j∧j≤lo+k
      ·rw[Z1 e4];exact m8 _ _ (by lia) (by lia) (by lia)
      ·rw[ZY e4];exact m8 _ _ (by lia) (by lia) (by lia)
 ·rintro c aU ⟨rfl,b',hp,hf,m8⟩;rw[show max (max ok 1) n=n by lia]at m8;exact⟨rfl,b',hp,hf,m8⟩
 ·rintro c aU ⟨rfl,b',hp,hf,m8⟩;exact Zi (q aU b' hp hf m8)
end
theorem Lk(ys:List Keyed)(j:Nat):∀(k:Nat)(xs:Array Keyed),j+k+ys.length≤xs.size→∀t:Nat,((ys.zipIdx k).foldl (fun c q=>c.setIfInBounds (j+q.2) q.1) xs)[t]?=if j+k≤t∧t<j+k+ys.length then ys[t-(j+k)]? else xs[t]?:=by
 induction ys with
 |nil=>
  intro k xs h t;rw[ZY (fun z=>by have z1:=z.1;have z2:=z.2;simp only[List.length_nil]at z2;lia)];rfl
 |cons y ys ih=>
  intro k xs h t;rw[List.zipIdx_cons,List.foldl_cons,ih (k+1) _ (by simp at h⊢;lia) t];simp only[List.length_cons]at h⊢;by_cases h1:j+(k+1)≤t∧t<j+(k+1)+ys.length
  ·rw[Z1 h1,Z1 IL,show t-(j+k)=(t-(j+(k+1)))+1 by lia];rfl
  ·rw[ZY h1,Array.getElem?_setIfInBounds];by_cases h2:j+k=t
   ·subst h2;rw[if_pos rfl,Z1 IL,Z1 IL];simp
   ·rw[ZY h2,ZY IL]
theorem Fl(ys:List Keyed)(j:Nat)(xs:Array Keyed)(h:j+ys.length≤xs.size):(ys.zipIdx.foldl (fun c q=>c.setIfInBounds (j+q.2) q.1) xs).toList=xs.toList.take j++ys++xs.toList.drop (j+ys.length):=by
 apply List.ext_getElem?;intro t;rw[Array.getElem?_toList,Lk ys j 0 xs IL t,Nat.add_zero];by_cases h1:t<j
 ·rw[ZY IL,List.append_assoc,Ι Ξ,List.getElem?_take,Z1 h1,Array.getElem?_toList]
 ·by_cases h2:t<j+ys.length
  ·rw[Z1 IL,List.append_assoc,Ο Ξ,Ι Ξ]
   congr 1
   simp
   lia
  ·rw[ZY IL,Ο Ξ,List.getElem?_drop,Array.getElem?_toList]
   congr 1
   simp
   lia
section
variable{prog:Program}{w:World}{A:Around}{E:Value→Shared→Prop}{s:Shared}{X:List Keyed}{κ:SortKind}{lt:Keyed→Keyed→Bool}
theorem Sw.pw{xs:Array Keyed}{p m:Nat}(h:Sw lt xs p (p+m)):Pw lt ((xs.toList.drop p).take m):=by
 refine List.pairwise_iff_getElem.mpr ?_;intro i j hi hj uI;have DR:j<m∧p+j<xs.size:=by simp at hj;lia
 have e1:((xs.toList.drop p).take m)[i]=gg xs (p+i):=by
  have:((xs.toList.drop p).take m)[i]?=some (gg xs (p+i)):=by rw[List.getElem?_take,Z1 IL,List.getElem?_drop,Array.getElem?_toList];exact lA IL
  exact(ZF this).2
 have e2:((xs.toList.drop p).take m)[j]=gg xs (p+j):=by
  have:((xs.toList.drop p).take m)[j]?=some (gg xs (p+j)):=by rw[List.getElem?_take,Z1 IL,List.getElem?_drop,Array.getElem?_toList];exact lA IL
  exact(ZF this).2
 rw[e1,e2];exact h _ _ (by lia) (by lia) (by lia)
theorem Fm{xs:Array Keyed}{p m t:Nat}(h:t<m)(hs:p+m≤xs.size):((xs.toList.drop p).take m)[t]?=some (gg xs (p+t)):=by
 rw[List.getElem?_take,Z1 h,List.getElem?_drop,Array.getElem?_toList];exact lA IL
variable(C:E9 prog w A s X κ lt)
include C
theorem Ol{st:SortSt}{i p m v n u:Nat}{Q:Bool→SortSt→Prop}(b:SB X κ st)(e1:(YX st)[i]?=some (p,m,v))(e2:(YX st)[i+1]?=some (p+m,n,u))(hm:1≤m)(hn:1≤n)(hX:p+m+n≤X.length)(s1:Sw lt (V1 st) p (p+m))(s2:Sw lt (V1 st) (p+m) (p+m+n))
  (q:∀aU,SB X κ aU→pendingOf aU=((YX st).setIfInBounds i (p,m+n,v)).eraseIdxIfInBounds (i+1)→(∀t,t<p∨p+m+n≤t→gg (V1 aU) t=gg (V1 st) t)→Sw lt (V1 aU) p (p+m+n)→Q true aU):wpS (model prog w) A E s (mergeAt' i) Q st:=by
 rw[Lg];refine wpS_bind (wpS_get ?_);rw[e1,e2];dsimp only;refine wpS_bind (HE ?_);have hsz:=b.size;refine wpS_bind (ff (lA (xs:=V1 st) (k:=p+m) (by lia)) ?_);have mem:∀t,t<X.length→gg (V1 st) t∈X:=fun t h=>b.mem h
 generalize Ll:setPending st (((YX st).setIfInBounds i (p,m+n,v)).eraseIdxIfInBounds (i+1))=AF;have AI:arrOf AF=arrOf st:=by rw[←Ll]
 have b1:SB X κ AF:=by rw[←Ll];exact⟨b.pm,b.kd,b.fl⟩
 have Mp:pendingOf AF=((YX st).setIfInBounds i (p,m+n,v)).eraseIdxIfInBounds (i+1):=by rw[←Ll]
 refine wpS_bind (qG C (fun t=>Λ (p+t)) b1.kd (mem _ (by lia)) (fun t ht=>⟨lA IL,mem _ (by lia)⟩) (fun x y h1 h2=>s1 _ _ (by lia) (by lia) (by lia)) (by lia) fun k hk g1 g2=>?_);dsimp only;have Om:∀t,t<k→lt (Λ (p+t)) (Λ (p+m))=true:=fun t ht=>by
  have:=g1 t ht;simp only[lF,Bool.false_eq_true,if_false,Bool.not_eq_true']at this;exact b.no C (by lia) (by lia) (by lia) this
 have UT:∀t,k≤t→t<m→lt (Λ (p+m)) (Λ (p+t))=true:=fun t h1 h2=>by
  have:=g2 t h1 h2;simp only[lF,Bool.false_eq_true,if_false,Bool.not_eq_false']at this;exact this
 have tr:=fun{x y z:Nat}(hx:x<X.length)(hy:y<X.length)(hz:z<X.length)=>C.tr _ (mem x hx) _ (mem y hy) _ (mem z hz)
 by_cases ek:(m-k==0)=true
 ·rw[Z1 ek];have:k=m:=by have:=beq_iff_eq.mp ek;lia
  subst this;refine wpS_pure (q AF b1 Mp (fun _ _=>by rw[AI]) ?_);rw[AI];intro x y hx AG hy;by_cases h1:y<p+k
  ·exact s1 x y hx AG h1
  ·by_cases h2:p+k≤x
   ·exact s2 x y h2 AG hy
   ·have h3:=Om (x-p) (by lia);rw[show p+(x-p)=x by lia]at h3;by_cases h4:y=p+k
    ·rw[h4];exact h3
    ·exact tr IL (by lia) (by lia) h3 (s2 (p+k) y IL (by lia) hy)
 rw[ZY ek];have ek:k<m:=by
  have:m-k≠0:=fun z=>ek Υ
  lia
 refine wpS_bind (ff (lA (xs:=V1 st) (k:=p+k+(m-k)-1) (by lia)) ?_);rw[show p+k+(m-k)-1=p+m-1 by lia];refine wpS_bind (qG C (fun t=>Λ (p+m+t)) b1.kd (mem _ (by lia)) (fun t ht=>⟨lA IL,mem _ (by lia)⟩) (fun x y h1 h2=>s2 _ _ (by lia) (by lia) (by lia)) (by lia) fun l hl g3 g4=>?_);dsimp only;have Ss:∀t,t<l→lt (Λ (p+m+t)) (Λ (p+m-1))=true:=fun t ht=>by
  have:=g3 t ht;simp only[lF,if_true]at this;exact this
 have UU:∀t,l≤t→t<n→lt (Λ (p+m-1)) (Λ (p+m+t))=true:=fun t h1 h2=>by
  have:=g4 t h1 h2;simp only[lF,if_true]at this;exact b.no C (by lia) (by lia) (by lia) this
 have K4:0<l:=by
  rcases Nat.lt_or_ge 0 l with h|h
  ·exact h
  ·have h1:=UU 0 (by lia) (by lia);have h2:=UT (m-1) (by lia) (by lia);rw[show p+(m-1)=p+m-1 by lia]at h2;rw[Nat.add_zero]at h1;have:=C.as _ (mem _ (by lia)) _ (mem _ (by lia)) h1;rw[h2]at this;cases this
 rw[ZY Ξ];have ex:((V1 st).extract (p+k) (p+m)).toList=((V1 st).toList.drop (p+k)).take (m-k):=by
  simp[Array.toList_extract,List.extract_eq_take_drop]
  congr 1
  lia
 have ey:((V1 st).extract (p+m) (p+m+l)).toList=((V1 st).toList.drop (p+m)).take l:=by
  simp[Array.toList_extract,List.extract_eq_take_drop]
 have UW:∀t,t<m-k→(((V1 st).toList.drop (p+k)).take (m-k))[t]?=some (Λ (p+k+t)):=fun t ht=>Fm ht IL
 have UX:∀t,t<l→(((V1 st).toList.drop (p+m)).take l)[t]?=some (Λ (p+m+t)):=fun t ht=>Fm ht IL
 have lx:(((V1 st).toList.drop (p+k)).take (m-k)).length=m-k:=by simp;lia
 have ly:(((V1 st).toList.drop (p+m)).take l).length=l:=by simp;lia
 have Qi:∀x∈((V1 st).toList.drop (p+k)).take (m-k),∃t,t<m-k∧x=gg (V1 st) (p+k+t):=fun x hx=>by
  obtain⟨t,ht⟩:=List.mem_iff_getElem?.mp hx;have hG:=(ZF ht).1;rw[lx]at hG;rw[UW t hG]at ht;exact⟨t,hG,(Zu ht).symm⟩
 have Qj:∀x∈((V1 st).toList.drop (p+m)).take l,∃t,t<l∧x=gg (V1 st) (p+m+t):=fun x hx=>by
  obtain⟨t,ht⟩:=List.mem_iff_getElem?.mp hx;have hG:=(ZF ht).1;rw[ly]at hG;rw[UX t hG]at ht;exact⟨t,hG,(Zu ht).symm⟩
 have MM:MC X lt ((V1 st).extract (p+k) (p+m)).toList ((V1 st).extract (p+m) (p+m+l)).toList:=by
  rw[ex,ey];refine⟨Sw.pw fun x y h1 h2 h3=>s1 x y IL h2 IL,Sw.pw fun x y h1 h2 h3=>s2 x y h1 h2 IL,fun x hx=>?_,fun x hx=>?_,fun x hx y hy=>?_,fun x hx y hy=>?_,fun y hy x hx=>?_⟩
  ·obtain⟨t,ht,rfl⟩:=Qi x hx;exact mem _ (by lia)
  ·obtain⟨t,ht,rfl⟩:=Qj x hx;exact mem _ (by lia)
  ·obtain⟨t,ht,rfl⟩:=Qi x hx;obtain⟨u,hu,rfl⟩:=Qj y hy;exact b.inj C (by lia) (by lia) (by lia)
  ·obtain⟨t,ht,rfl⟩:=Qi x hx;rw[UX 0 K4]at hy;cases hy;have:=UT (k+t) (by lia) (by lia);rw[←Nat.add_assoc]at this;exact this
  ·obtain⟨t,ht,rfl⟩:=Qj y hy;rw[lx,UW _ (by lia)]at hx;cases hx;rw[show p+k+(m-k-1)=p+m-1 by lia];exact Ss t ht
 have fin:∀r dU,Eg AF dU→MG lt ((V1 st).extract (p+k) (p+m)).toList ((V1 st).extract (p+m) (p+m+l)).toList r.toList→wpS (model prog w) A E s (do
   modify fun st=>DQ (p+k) r st
   return (failedOf (←get)).isNone) Q dU:=fun r dU eg mg=>by
  refine wpS_bind (wpS_modify (wpS_bind (wpS_get (Zi ?_))));have Mq:arrOf dU=arrOf st:=eg.2.1.trans AI;have Qk:failedOf dU=none:=eg.2.2.2.trans b1.fl;rw[ex,ey]at mg;have Mr:r.toList.length=m-k+l:=by have:=mg.1.length_eq;rw[List.length_append,lx,ly]at this;exact this
  have el:(V1 (DQ (p+k) r dU)).toList=(V1 st).toList.take (p+k)++r.toList++(V1 st).toList.drop (p+m+l):=by
   show(r.toList.zipIdx.foldl (fun c q=>c.setIfInBounds (p+k+q.2) q.1) (V1 dU)).toList=_;rw[Fl _ _ _ (by rw[Mq,Mr];lia),Mq,Mr,show p+k+(m-k+l)=p+m+l by lia]
  have Xe:(V1 st).toList=(V1 st).toList.take (p+k)++(((V1 st).toList.drop (p+k)).take (m-k)++((V1 st).toList.drop (p+m)).take l)++(V1 st).toList.drop (p+m+l):=by
   have h1:=oW (V1 st).toList (p+k) (m-k);have h2:=oW (V1 st).toList (p+m) l;rw[show p+k+(m-k)=p+m by lia]at h1
   conv=>lhs;rw[←List.take_append_drop (p+k) (V1 st).toList,h1,h2]
   simp only[List.append_assoc]
  have Su:∀t,gg (V1 (DQ (p+k) r dU)) t=((V1 (DQ (p+k) r dU)).toList[t]?).getD (.none, .none):=fun t=>by rw[oX,Array.getElem?_toList]
  have g0:∀t,gg (V1 st) t=((V1 st).toList[t]?).getD (.none, .none):=fun t=>by rw[oX,Array.getElem?_toList]
  have Lm:∀t,t<p+k→gg (V1 (DQ (p+k) r dU)) t=gg (V1 st) t:=fun t ht=>by
   rw[Su,g0,el,List.append_assoc,Ι Ξ,List.getElem?_take,Z1 ht]
  have Fn:∀t,p+m+l≤t→gg (V1 (DQ (p+k) r dU)) t=gg (V1 st) t:=fun t ht=>by
   have hG:((V1 st).toList.take (p+k)++r.toList).length=p+m+l:=by
    rw[List.length_append,Mr,List.length_take,Array.length_toList]
    lia
   rw[Su,g0,el,Ο IL,List.getElem?_drop,hG]
   congr 2
   lia
  have Sx:∀t,p+k≤t→t<p+m+l→r.toList[t-(p+k)]?=some (gg (V1 (DQ (p+k) r dU)) t):=fun t h1 h2=>by
   rw[Su,el,List.append_assoc,Ο Ξ,Ι (by rw[List.length_take,Array.length_toList];lia)];rw[show(List.take (p+k) (V1 st).toList).length=p+k by simp;lia];rw[Χ IL];rfl
  have cont:∀t,p+k≤t→t<p+m+l→∃u,p+k≤u∧u<p+m+l∧gg (V1 (DQ (p+k) r dU)) t=gg (V1 st) u:=fun t h1 h2=>by
   have:=mg.1.mem_iff.mp (ZS (Sx t h1 h2));rcases List.mem_append.mp this with z|z
   ·obtain⟨u,hu,e⟩:=Qi _ z;exact⟨p+k+u,by lia,by lia,e⟩
   ·obtain⟨u,hu,e⟩:=Qj _ z;exact⟨p+m+u,by lia,by lia,e⟩
  have hb:SB X κ (DQ (p+k) r dU):=by
   refine⟨?_,eg.1.trans b1.kd,Qk⟩;rw[el];refine List.Perm.trans ?_ b.pm
   conv=>rhs;rw[Xe]
   exact(List.Perm.append_left _ mg.1).append_right _
  have M8:(failedOf (DQ (p+k) r dU)).isNone=true:=by rw[show failedOf (DQ (p+k) r dU)=failedOf dU from rfl,Qk];rfl
  rw[M8];refine q _ hb (eg.2.2.1.trans Mp) (fun t ht=>?_) fun x y hx AG hy=>?_
  ·rcases ht with ht|ht
   ·exact Lm t (by lia)
   ·exact Fn t (by lia)
  ·
   have A1:∀t u,p≤t→t<p+k→p+k≤u→u<p+m+n→lt (Λ t) (Λ u)=true:=fun t u h1 h2 h3 h4=>by
    by_cases h5:u<p+m
    ·exact s1 t u h1 IL h5
    ·have h6:=Om (t-p) (by lia);rw[show p+(t-p)=t by lia]at h6;by_cases h7:u=p+m
     ·rw[h7];exact h6
     ·exact tr IL (by lia) (by lia) h6 (s2 (p+m) u IL (by lia) h4)
   have A2:∀t u,p+k≤t→t<p+m+l→p+m+l≤u→u<p+m+n→lt (Λ t) (Λ u)=true:=fun t u h1 h2 h3 h4=>by
    by_cases h5:p+m≤t
    ·exact s2 t u h5 IL h4
    ·have h6:=UU (u-(p+m)) (by lia) (by lia);rw[show p+m+(u-(p+m))=u by lia]at h6;by_cases h7:t=p+m-1
     ·rw[h7];exact h6
     ·exact tr IL (by lia) (by lia) (s1 t (p+m-1) (by lia) (by lia) (by lia)) h6
   by_cases h1:x<p+k
   ·rw[Lm x h1];by_cases h2:y<p+k
    ·rw[Lm y h2];exact s1 x y hx AG IL
    ·by_cases h3:y<p+m+l
     ·obtain⟨u,u1,u2,u3⟩:=cont y IL h3;rw[u3];exact A1 x u hx h1 u1 IL
     ·rw[Fn y IL];exact A1 x y hx h1 IL hy
   ·by_cases h3:x<p+m+l
    ·by_cases h4:y<p+m+l
     ·exact mg.2.at (i:=x-(p+k)) (j:=y-(p+k)) (by lia) (Sx x (by lia) h3) (Sx y IL h4)
     ·rw[Fn y IL];obtain⟨u,u1,u2,u3⟩:=cont x (by lia) h3;rw[u3];exact A2 u y u1 u2 IL hy
    ·rw[Fn x (by lia),Fn y IL];exact s2 x y IL AG hy
 have sx:0<((V1 st).extract (p+k) (p+m)).size:=by simp;lia
 have sy:0<((V1 st).extract (p+m) (p+m+l)).size:=by simp;lia
 by_cases UY:m-k≤l
 ·rw[Z1 UY];exact wpS_bind (K8 C MM b1.kd sx sy fin)
 ·rw[ZY UY];exact wpS_bind (Ld C MM b1.kd sx sy fin)
end
abbrev Rn:=Nat×Nat×Nat
def Ch:List Rn→Nat→Nat→Prop
 |[],s,e=>s=e
 |q::r,s,e=>q.1=s∧1≤q.2.1∧Ch r (s+q.2.1) e
theorem Ch.all:∀{l:List Rn}{s e:Nat},Ch l s e→s+l.length≤e∧∀q∈l,s≤q.1∧q.1+q.2.1≤e
 |[],s,e,h=>⟨by have:s=e:=h;simp;lia,fun q hq=>by cases hq⟩
 |q::r,s,e,⟨h1,h2,h3⟩=>by
  obtain⟨a1,a2⟩:=Ch.all h3;refine⟨by simp;lia,fun x hx=>?_⟩;rcases List.mem_cons.mp hx with rfl|hx
  ·lia
  ·have:=a2 x hx;lia
theorem Ch.split:∀{l r:List Rn}{s e:Nat},Ch (l++r) s e↔∃m,Ch l s m∧Ch r m e
 |[],r,s,e=>⟨fun h=>⟨s,rfl,h⟩,fun⟨m,h1,h2⟩=>by have:s=m:=h1;rw[this];exact h2⟩
 |q::l,r,s,e=>by
  constructor
  ·rintro⟨h1,h2,h3⟩;obtain⟨m,a1,a2⟩:=Ch.split.mp h3;exact⟨m,⟨h1,h2,a1⟩,a2⟩
  ·rintro⟨m,⟨h1,h2,a1⟩,a2⟩;exact⟨h1,h2,Ch.split.mpr ⟨m,a1,a2⟩⟩
theorem Ch.mod{f:Rn→Rn}(hf:∀q,(f q).1=q.1∧(f q).2.1=q.2.1):∀{l:List Rn}{j s e:Nat},Ch l s e→Ch (l.modify j f) s e
 |[],j,s,e,h=>by simpa using h
 |q::r,0,s,e,h=>by
  rw[List.modify_zero_cons];obtain⟨h1,h2,h3⟩:=h;refine⟨by rw[(hf q).1];exact h1,by rw[(hf q).2];exact h2,by rw[(hf q).2];exact h3⟩
 |q::r,j+1,s,e,h=>by
  rw[List.modify_succ_cons];exact⟨h.1,h.2.1,Ch.mod hf h.2.2⟩
theorem B6{f:Rn→Rn}:∀{l:List Rn}{j:Nat}{q:Rn},q∈l.modify j f→q∈l∨∃x∈l,q=f x
 |[],j,q,h=>by simp at h
 |x::r,0,q,h=>by
  rw[List.modify_zero_cons]at h;rcases List.mem_cons.mp h with h|h
  ·exact .inr ⟨x,XU,h⟩
  ·exact .inl (Ρ h)
 |x::r,j+1,q,h=>by
  rw[List.modify_succ_cons]at h;rcases List.mem_cons.mp h with h|h
  ·exact .inl (by rw[h];simp)
  ·rcases B6 h with h|⟨y,h1,h2⟩
   ·exact .inl (Ρ h)
   ·exact .inr ⟨y,Ρ h1,h2⟩
structure RI(X:List Keyed)(κ:SortKind)(lt:Keyed→Keyed→Bool)(st:SortSt)(lo n:Nat):Prop where
 b:SB X κ st
 ch:Ch (YX st).toList 0 lo
 sw:∀q∈(YX st).toList,Sw lt (V1 st) q.1 (q.1+q.2.1)
 tl:Sw lt (V1 st) lo (lo+n)
section
variable{prog:Program}{w:World}{A:Around}{E:Value→Shared→Prop}{s:Shared}{X:List Keyed}{κ:SortKind}{lt:Keyed→Keyed→Bool}(C:E9 prog w A s X κ lt)
include C
theorem Jp{st:SortSt}{lo n i:Nat}{Q:Bool→SortSt→Prop}(r:RI X κ lt st lo n)(Mh:lo≤X.length)(hi:i+1<(YX st).size)(q:∀aU,RI X κ lt aU lo n→(YX aU).size+1=(YX st).size→Q true aU):wpS (model prog w) A E s (mergeAt' i) Q st:=by
 have hl:(YX st).toList.length=(YX st).size:=XU;obtain⟨P1,x,y,P2,e,el⟩:∃P1 x y P2,(YX st).toList=P1++x::y::P2∧P1.length=i:=by
  refine⟨(YX st).toList.take i,(YX st).toList[i],(YX st).toList[i+1],(YX st).toList.drop (i+2),?_,by simp;lia⟩
  conv=>lhs;rw[←List.take_append_drop i (YX st).toList]
  rw[List.drop_eq_getElem_cons IL,List.drop_eq_getElem_cons IL]
 obtain⟨p,m,v⟩:=x;obtain⟨p2,k,u⟩:=y;have ch:=r.ch;rw[e]at ch;obtain⟨mid,c1,c2⟩:=Ch.split.mp ch;obtain⟨d1,d2,d3,d4,d5⟩:=c2;dsimp only at d1 d2 d3 d4 d5;subst d1 d3;have a1:=c1.all;have a2:=d5.all;have i1:(YX st)[i]?=some (p,m,v):=by rw[←Array.getElem?_toList,e,Ο IL,el];simp
 have i2:(YX st)[i+1]?=some (p+m,k,u):=by rw[←Array.getElem?_toList,e,Ο IL,el];simp
 have w1:=r.sw (p,m,v) (by rw[e];simp);have w2:=r.sw (p+m,k,u) (by rw[e];simp);refine Ol C r.b i1 i2 d2 d4 IL w1 w2 fun aU b' hp Ln RQ=>?_
 have ep:(YX aU).toList=P1++(p,m+k,v)::P2:=by
  rw[hp];simp only[Array.toList_eraseIdxIfInBounds,Array.toList_setIfInBounds];rw[e,List.set_append_right _ _ (by lia),el,Nat.sub_self,List.set_cons_zero,List.eraseIdx_append_of_length_le IL,el,show i+1-i=1 by lia];rfl
 refine q aU ⟨b',?_,fun z hz=>?_,r.tl.congr fun t h1 h2=>Ln t (.inr IL)⟩ ?_
 ·rw[ep];refine Ch.split.mpr ⟨p,c1,rfl,by show 1≤m+k;lia,?_⟩;show Ch P2 (p+(m+k)) lo;rw[←Nat.add_assoc];exact d5
 ·rw[ep]at hz;rcases List.mem_append.mp hz with hz|hz
  ·have h1:=a1.2 z hz;exact(r.sw z (by rw[e];simp[hz])).congr fun t _ h2=>Ln t (.inl IL)
  ·rcases List.mem_cons.mp hz with rfl|hz
   ·show Sw lt (V1 aU) p (p+(m+k));rw[←Nat.add_assoc];exact RQ
   ·have h1:=a2.2 z hz;exact(r.sw z (by rw[e];simp[hz])).congr fun t h2 _=>Ln t (.inr IL)
 ·have h1:=congrArg List.length ep;have h2:=congrArg List.length e;simp at h1 h2
  lia
theorem Lo{st:SortSt}{lo n N w':Nat}{Q:Option Unit×Unit→SortSt→Prop}(r:RI X κ lt st lo n)(Mh:lo≤X.length)(q:∀aU,RI X κ lt aU lo n→Q (none,()) aU):wpS (model prog w) A E s (Sq N w') Q st:=by
 unfold Sq;refine wpS_forRange (I:=fun _ c aU=>c=(none,())∧RI X κ lt aU lo n) ?_ (fun c aU h=>by rw[h.1];exact q aU h.2) ⟨rfl,r⟩;rintro x c aU _ _ ⟨rfl,r'⟩;refine wpS_bind (wpS_get ?_);by_cases hs:(YX aU).size>1
 ·rw[Z1 hs];have e:(YX aU)[(YX aU).size-2]?=some (YX aU)[(YX aU).size-2]:=XU;rw[e];generalize (YX aU)[(YX aU).size-2]=z;obtain⟨z1,z2,z3⟩:=z;dsimp only;split
  ·exact Zi (q aU r')
  ·refine wpS_bind (Jp C r' Mh IL fun dU r2 _=>?_);rw[if_neg Xs];exact Zi ⟨rfl,r2⟩
 ·rw[ZY hs];exact Zi (q aU r')
theorem Fo{st:SortSt}{lo n N:Nat}{Q:ForInStep (Option Unit×Nat)→SortSt→Prop}(r:RI X κ lt st lo n)(h1:1≤n)(Mh:lo+n≤X.length)(q:∀aU,RI X κ lt aU (lo+n) 0→Q (.yield (none,lo+n)) aU):wpS (model prog w) A E s (Qh N lo n) Q st:=by
 have push:∀aU,RI X κ lt aU lo n→RI X κ lt (Qg lo n aU) (lo+n) 0:=fun aU r'=>by
  have ep:(YX (Qg lo n aU)).toList=(YX aU).toList++[(lo,n,0)]:=by
   show((YX aU).push (lo,n,0)).toList=_;simp
  refine⟨⟨r'.b.pm,r'.b.kd,r'.b.fl⟩,?_,fun z hz=>?_,fun i j a b c=>by lia⟩
  ·rw[ep];exact Ch.split.mpr ⟨lo,r'.ch,rfl,h1,rfl⟩
  ·rw[ep]at hz;rcases List.mem_append.mp hz with hz|hz
   ·exact r'.sw z hz
   ·have:z=(lo,n,0):=by simpa using hz
    subst this;exact r'.tl
 unfold Qh;refine wpS_bind (wpS_get ?_);cases e:(YX st).back? with
 |none=>exact wpS_bind (wpS_modify (Zi (q _ (push _ r))))
 |some z=>
  obtain⟨z1,z2,z3⟩:=z;dsimp only;refine wpS_bind (Lo C r IL fun dU r2=>?_);dsimp only;refine wpS_bind (wpS_modify (wpS_bind (wpS_modify (Zi (q _ (push _ ?_))))));have ep:(YX (UR (power' N (2*z1+z2) (2*z1+z2+z2+n) N) dU)).toList=(YX dU).toList.modify ((YX dU).size-1) fun(p,l,_)=>(p,l,power' N (2*z1+z2) (2*z1+z2+z2+n) N):=by
   show((YX dU).modify _ _).toList=_;simp
  refine⟨⟨r2.b.pm,r2.b.kd,r2.b.fl⟩,?_,fun z hz=>?_,r2.tl⟩
  ·rw[ep];refine Ch.mod ?_ r2.ch;exact fun _=>⟨rfl,rfl⟩
  ·rw[ep]at hz;rcases B6 hz with hz|⟨x,h1,h2⟩
   ·exact r2.sw z hz
   ·rw[h2];exact r2.sw x h1
theorem Lp{st:SortSt}{N:Nat}{Q:Option Unit×Unit→SortSt→Prop}(hN:N=X.length)(h0:0<N)(r:RI X κ lt st N 0)(q:∀aU,SB X κ aU→Sw lt (V1 aU) 0 N→Q (none,()) aU):wpS (model prog w) A E s (Sr N) Q st:=by
 have one:∀aU,RI X κ lt aU N 0→(YX aU).size≤1→Q (none,()) aU:=fun aU r' hs=>by
  have ch:=r'.ch;have sw:=r'.sw;cases e:(YX aU).toList with
  |nil=>rw[e]at ch;have:0=N:=ch;lia
  |cons x l=>
   have hl:l=[]:=by
    have:=congrArg List.length e;simp at this;exact List.length_eq_zero_iff.mp IL
   subst hl;rw[e]at ch sw;obtain⟨c1,c2,c3⟩:=ch;have c3:0+x.2.1=N:=c3;have:=sw x (XU);rw[c1,c3]at this;exact q aU r'.b this
 unfold Sr;refine wpS_forRange (I:=fun x c aU=>c=(none,())∧RI X κ lt aU N 0∧((YX aU).size+x≤N∨(YX aU).size≤1)) ?_ ?_ ⟨rfl,r, .inl ?_⟩
 ·rintro x c aU _ hx ⟨rfl,r',hs⟩;refine wpS_bind (wpS_get ?_);by_cases h1:(YX aU).size≤1
  ·rw[Z1 h1];exact Zi (one aU r' h1)
  ·rw[ZY h1];refine wpS_bind (Jp C r' IL ?_ fun dU r2 Gj=>?_)
   ·have key:∀c:Bool,(if c=true then(YX aU).size-2-1 else(YX aU).size-2)+1<(YX aU).size:=fun c=>by cases c<;>simp<;>lia
    exact key _
   ·rw[if_neg Xs];exact Zi ⟨rfl,r2,by lia⟩
 ·rintro c aU ⟨rfl,r',hs⟩;exact one aU r' (by rcases hs with hs|hs<;>lia)
 ·have:=r.ch.all.1;simp at this
  lia
theorem Lq{st:SortSt}{Q:Unit→SortSt→Prop}(h0:0<X.length)(b:SB X κ st)(hp:pendingOf st=#[])(q:∀aU,SB X κ aU→Sw lt (V1 aU) 0 X.length→Q () aU):wpS (model prog w) A E s sortRuns' Q st:=by
 rw[HC];refine wpS_bind (wpS_get ?_);rw[b.size];refine wpS_bind (wpS_mono (wpS_forRange (I:=fun x c aU=>∃lo,c=(none,lo)∧RI X κ lt aU lo 0∧lo≤X.length∧x≤lo) (Q:=fun c aU=>c.1=none∧RI X κ lt aU X.length 0) ?_ ?_ ⟨0,rfl,⟨b,by rw[hp];rfl,(fun q hq=>by rw[hp]at hq;cases hq),fun i j a b c=>by lia⟩,by lia,by lia⟩) ?_)
 ·rintro x c aU _ hx ⟨lo,rfl,r,Mh,Sy⟩;dsimp only;by_cases h1:lo≥X.length
  ·rw[Z1 h1];have:lo=X.length:=by lia
   subst this;exact Zi ⟨rfl,r⟩
  ·rw[ZY h1];refine wpS_bind (Oi C r.b IL (by lia) fun m dU b2 CH Qk m1 m2 Ql=>?_);dsimp only;have r2:RI X κ lt dU lo m:=⟨b2,by rw[CH];exact r.ch,fun z hz=>by
    rw[CH]at hz;have:=r.ch.all.2 z hz;exact(r.sw z hz).congr fun t _ h2=>Qk t (by lia),Ql⟩
   by_cases h2:m<minRun' X.length X.length 0
   ·rw[Z1 h2];refine wpS_bind (wpS_lift (wpAny_rule ⟨rfl,?_⟩));refine wpS_bind (Oj C b2 (n:=min (X.length-lo) (minRun' X.length X.length 0)) (by lia) m1 IL Ql fun D8 b3 UZ Xf Xg=>?_);rw[if_neg Xs];refine Fo C ⟨b3,by rw[UZ,CH];exact r.ch,fun z hz=>?_,Xg⟩ IL (by lia) fun PX r4=>⟨_,rfl,r4,by lia,by lia⟩
    rw[UZ]at hz;have:=r2.ch.all.2 z hz;exact(r2.sw z hz).congr fun t _ h2=>Xf t (by lia)
   ·rw[ZY h2];exact Fo C r2 m1 IL fun PX r4=>⟨_,rfl,r4,by lia,by lia⟩
 ·rintro c aU ⟨lo,rfl,r,Mh,Sy⟩;have:lo=X.length:=by lia
  subst this;exact⟨rfl,r⟩
 ·rintro⟨c1,c2⟩ aU ⟨e,r⟩;dsimp only at e⊢;subst e;exact wpS_bind (Lp C rfl h0 r fun dU b2 Ql=>Zi (q dU b2 Ql))
end
open Classical in
noncomputable def Fp(X:List Keyed)(x:Keyed):Nat:=if h:∃i:Nat,X[i]?=some x then Classical.choose h else 0
theorem nL{X:List Keyed}{x:Keyed}(h:x∈X):X[Fp X x]?=some x:=by
 have h':∃i:Nat,X[i]?=some x:=List.mem_iff_getElem?.mp h;unfold Fp;rw[dif_pos h'];exact Classical.choose_spec h'
theorem Lr{X:List Keyed}(nd:X.Nodup){i:Nat}{x:Keyed}(h:X[i]?=some x):Fp X x=i:=by
 have:=nL (ZS h);exact(List.getElem?_inj (ZF this).1 nd).mp (this.trans h.symm)
theorem nM{X:List Keyed}{x:Keyed}(h:x∈X):Fp X x<X.length:=(ZF (nL h)).1
section
variable{prog:Program}{w:World}{A:Around}{E:Value→Shared→Prop}{s:Shared}{X:List Keyed}{κ:SortKind}{lt:Nat→Nat→Bool}
theorem HF{st:SortSt}{Q:Unit→SortSt→Prop}(nd:X.Nodup)(h0:0<X.length)(L:AD X.length lt)(ha:(V1 st).toList=X)(hk:kindOf st=κ)(hp:pendingOf st=#[])(hf:failedOf st=none)
  (hc:∀i j x y,X[i]?=some x→X[j]?=some y→∀C:Bool→Shared→Prop,C (lt i j) s→wpAny (model prog w) A (keyLt' κ x.1 y.1) C (fun _ _=>False) s)
  (q:∀p aU,ym X.length p→Sd lt p X.length→(V1 aU).toList=p.toList.map (fun i=>X.getD i (.none, .none))→failedOf aU=none→Q () aU):wpS (model prog w) A E s sortRuns' Q st:=by
 have C:E9 prog w A s X κ fun x y=>lt (Fp X x) (Fp X y):=by
  refine⟨fun x hx y hy=>hc _ _ x y (nL hx) (nL hy),fun x hx y hy z hz=>L.tr _ _ _ (nM hx) (nM hy) (nM hz),fun x hx y hy=>L.as _ _ (nM hx) (nM hy),fun x hx y hy hn=>L.R7 _ _ (nM hx) (nM hy) fun e=>hn ?_,nd⟩;have h1:=nL hx;rw[e,nL hy]at h1;exact(Zu h1).symm
 refine Lq C h0 ⟨by rw[ha],hk,hf⟩ hp fun aU b sw=>?_
 have mem:∀x∈(V1 aU).toList,x∈X:=fun x hx=>b.pm.mem_iff.mp hx
 refine q ((V1 aU).map (Fp X)) aU ?_ (fun i j uI hj=>?_) ?_ b.fl
 ·unfold ym;rw[Array.toList_map];have h1:=b.pm.map (Fp X);have h2:X.map (Fp X)=List.range X.length:=by
   apply List.ext_getElem
   ·simp
   ·intro i h1 h2;simp only[List.getElem_map,List.getElem_range];exact Lr nd (by simp at h1;simp[h1])
  rw[h2]at h1;exact h1
 ·have:=sw i j (Nat.zero_le _) uI hj;have g:∀k,k<X.length→gd ((V1 aU).map (Fp X)) k=Fp X (gg (V1 aU) k):=fun k hk=>by
   have EU:k<(V1 aU).size:=by rw[b.size];exact hk
   rw[E8,oX];simp[EU]
  rw[g i IL,g j hj];exact this
 ·rw[Array.toList_map,List.map_map]
  conv=>lhs;rw[←List.map_id (V1 aU).toList]
  apply List.map_congr_left;intro x hx;have:=nL (mem x hx);simp[List.getD_eq_getElem?_getD,this]
theorem B7{ks vs:List Value}(hl:ks.length=vs.length)(h0:0<vs.length)(L:AD vs.length lt)(nd:ks.Nodup)
  (hc:∀i j,i<vs.length→j<vs.length→∀C:Bool→Shared→Prop,C (lt i j) s→wpAny (model prog w) A (keyLt' κ (ks.getD i .none) (ks.getD j .none)) C (fun _ _=>False) s):
  wpAny (model prog w) A ((sortRuns').run (SortSt.mk' κ (ks.toArray.zip vs.toArray) #[] 7 none)) (fun r s'=>∃p:Array Nat,s'=s∧ym vs.length p∧Sd lt p vs.length∧arrOf r.2=p.map (kas_item (ks.toArray.zip vs.toArray))∧failedOf r.2=none) E s:=by
 have hz:(ks.zip vs).length=vs.length:=by rw[List.length_zip];lia
 have ea:(ks.toArray.zip vs.toArray).toList=ks.zip vs:=XU;have Xh:(ks.zip vs).Nodup:=by
  refine List.pairwise_iff_getElem.mpr fun i j hi hj uI e=>?_
  rw[List.getElem_zip,List.getElem_zip]at e;have:=(List.getElem_inj nd).mp (Prod.mk.inj e).1
  lia
 have run:=HF (prog:=prog) (w:=w) (A:=A) (E:=E) (s:=s) (X:=ks.zip vs) (κ:=κ) (lt:=lt) (st:=SortSt.mk' κ (ks.toArray.zip vs.toArray) #[] 7 none) (Q:=fun _ aU=>∃p:Array Nat,ym vs.length p∧Sd lt p vs.length∧arrOf aU=p.map (kas_item (ks.toArray.zip vs.toArray))∧failedOf aU=none) Xh IL (by rw[hz];exact L) ea rfl rfl rfl (fun i j x y hx hy C h=>?_) fun p aU h1 h2 h3 h4=>⟨p,by rw[←hz];exact h1,by rw[←hz];exact h2,?_,h4⟩
 ·unfold wpS at run;refine wpAny_mono run (fun r s' ⟨h1,p,h2⟩=>⟨p,h1,h2⟩) fun _ _ e=>e
 ·obtain⟨x1,x2⟩:=x;obtain⟨y1,y2⟩:=y;have hi:=(ZF hx).1;have hj:=(ZF hy).1;rw[hz]at hi hj;obtain⟨e1,_⟩:=List.getElem?_zip_eq_some.mp hx;obtain⟨e2,_⟩:=List.getElem?_zip_eq_some.mp hy;have:=hc i j hi hj C h;simpa[List.getD_eq_getElem?_getD,e1,e2]using this
 ·apply Array.toList_inj.mp;rw[h3,Array.toList_map];apply List.map_congr_left;intro i _;unfold kas_item;rw[Array.getD_eq_getD_getElem?,←Array.getElem?_toList,ea,List.getD_eq_getElem?_getD]
end
def Kp(a:Addr)(h h':Heap):Prop:=∀b o,b≠a→h.get? b=some o→h'.get? b=some o
section
variable{prog:Program}{w:World}{A:Around}{E:Value→Shared→Prop}{s:Shared}
theorem Df{a:Addr}{vs:List Value}{n:Nat}{κ:SortKind}{lt:Nat→Nat→Bool}{P:PySem.Fin→Shared→Prop}(ho:s.heap.get? a=some (seqObj "list" vs.toArray n))(h2:2≤vs.length)(Fq:vs.length<10000)(Oo:vs.Nodup)(L:AD vs.length lt)
  (hk:∀s',Kp a s.heap s'.heap→∀Q':SortKind→Shared→Prop,Q' κ s'→wpAny (model prog w) A (keyKind' vs.toArray) Q' (fun _ _=>False) s')
  (hc:∀i j,i<vs.length→j<vs.length→∀s',Kp a s.heap s'.heap→∀C:Bool→Shared→Prop,C (lt i j) s'→wpAny (model prog w) A (keyLt' κ (vs.getD i .none) (vs.getD j .none)) C (fun _ _=>False) s')
  (h:∀p h' c,ym vs.length p→Sd lt p vs.length→Kp a s.heap h'→h'.get? a=some (seqObj "list" (List.toArray (p.toList.map fun i=>vs.getD i Value.none)) c)→P (.done (.ret .none)) {s with heap:=h'}):
  wpAny (model prog w) A (Builtin.«list.sort» ⟨[.ref a],[]⟩) P E s:=by
 have s1:=Heap.SameBut.update s.heap a (Obj.mapSeq fun _=>(#[]:Array Value));obtain⟨e1,HH⟩:∃e1,(η a).get? a=some (seqObj "list" #[] e1):=⟨_,get?_update_seq ho fun _=>#[]⟩
 rw[list_sort_plain];refine wpAny_bind (listItems_at ho rfl (Zk (listUpdate_at ho rfl ?_ (by rw[List.size_toArray,sizeLine_eq];lia) (Nat.zero_le _))));refine wpAny_bind (χ HH);generalize hh:(((η a).push {cls:= .type "tuple",data:= .seq vs.toArray 0}).push {cls:= .type "list",data:= .seq #[] 0})=h3;have k3:Kp a s.heap h3:=fun b o hb e=>by
  rw[←hh];exact ZZ (ZZ ((s1.2 b hb).trans e))
 have Ls:h3.get? a=some (seqObj "list" #[] e1):=by
  rw[←hh];exact ZZ (ZZ HH)
 show wpAny (model prog w) A _ P E {s with heap:=h3};dsimp only;have vF:¬vs.toArray.size<2:=by rw[List.size_toArray];lia
 rw[ZY vF,ZY vF];refine wpAny_bind (wpAny_mono (hk {s with heap:=h3} k3 (fun Qm s'=>Qm=κ∧s'={s with heap:=h3}) ⟨rfl,rfl⟩) ?_ fun _ _ x=>x.elim);rintro _ _ ⟨rfl,rfl⟩;refine wpAny_bind (wpAny_mono (B7 (lt:=lt) rfl (by lia) L Oo fun i j hi hj C hC=>hc i j hi hj {s with heap:=h3} k3 C hC) ?_ fun _ _ e=>e);rintro⟨⟨⟩,aU⟩ s' ⟨p,rfl,hp,hs,Sz,hf⟩;dsimp only;rw[kat_snds rfl Sz];have hsz:(List.toArray (p.toList.map fun i=>vs.getD i Value.none)).size=vs.length:=by rw[List.size_toArray,List.length_map,Array.length_toList,hp.size]
 have s2:=Heap.SameBut.update h3 a (Obj.mapSeq fun _=>List.toArray (p.toList.map fun i=>vs.getD i Value.none));obtain⟨c2,wN⟩:∃c2,(h3.update a (Obj.mapSeq fun _=>List.toArray (p.toList.map fun i=>vs.getD i Value.none))).get? a=some (seqObj "list" (List.toArray (p.toList.map fun i=>vs.getD i Value.none)) c2):=⟨_,get?_update_seq Ls fun _=>List.toArray (p.toList.map fun i=>vs.getD i Value.none)⟩
 refine wpAny_bind (seqEpoch_at (s:={s with heap:=h3}) Ls rfl (Zk (listUpdate_at (s:={s with heap:=h3}) Ls rfl ?_ (Nat.zero_le _) (Nat.le_trans (Nat.le_of_eq hsz) (by rw[sizeLine_eq];lia)))));rw[hf];simp only[bne_self_eq_false,Bool.false_eq_true,if_false];exact YZ (h p _ c2 hp hs (fun b o hb e=>(s2.2 b hb).trans (k3 b o hb e)) wN)
theorem y6{a:Addr}{vs:List Value}{n:Nat}{P:PySem.Fin→Shared→Prop}(ho:s.heap.get? a=some (seqObj "list" vs.toArray n))(h2:vs.length<2)
  (h:∀h' c,Kp a s.heap h'→h'.get? a=some (seqObj "list" vs.toArray c)→P (.done (.ret .none)) {s with heap:=h'}):
  wpAny (model prog w) A (Builtin.«list.sort» ⟨[.ref a],[]⟩) P E s:=by
 have s1:=Heap.SameBut.update s.heap a (Obj.mapSeq fun _=>(#[]:Array Value));obtain⟨e1,HH⟩:∃e1,(η a).get? a=some (seqObj "list" #[] e1):=⟨_,get?_update_seq ho fun _=>#[]⟩
 rw[list_sort_plain];refine wpAny_bind (listItems_at ho rfl (Zk (listUpdate_at ho rfl ?_ (by rw[List.size_toArray,sizeLine_eq];lia) (Nat.zero_le _))));refine wpAny_bind (χ HH);generalize hh:(((η a).push {cls:= .type "tuple",data:= .seq vs.toArray 0}).push {cls:= .type "list",data:= .seq #[] 0})=h3;have k3:Kp a s.heap h3:=fun b o hb e=>by
  rw[←hh];exact ZZ (ZZ ((s1.2 b hb).trans e))
 have Ls:h3.get? a=some (seqObj "list" #[] e1):=by
  rw[←hh];exact ZZ (ZZ HH)
 show wpAny (model prog w) A _ P E {s with heap:=h3};dsimp only;have vF:vs.toArray.size<2:=by rw[List.size_toArray];lia
 rw[Z1 vF,Z1 vF];refine wpAny_bind (YZ (Zk (YZ ?_)));dsimp only;have SA:(V1 (SortSt.mk' general' (vs.toArray.zip vs.toArray) #[] 7 none)).map (·.2)=vs.toArray:=by
  show(vs.toArray.zip vs.toArray).map (·.2)=vs.toArray;apply Array.toList_inj.mp;rw[Array.toList_map,Array.toList_zip];exact List.map_snd_zip Β
 have s2:=Heap.SameBut.update h3 a (Obj.mapSeq fun _=>vs.toArray);obtain⟨c2,wN⟩:∃c2,(h3.update a (Obj.mapSeq fun _=>vs.toArray)).get? a=some (seqObj "list" vs.toArray c2):=⟨_,get?_update_seq Ls fun _=>vs.toArray⟩
 rw[SA];refine wpAny_bind (seqEpoch_at (s:={s with heap:=h3}) Ls rfl (Zk (listUpdate_at (s:={s with heap:=h3}) Ls rfl ?_ (Nat.zero_le _) (by rw[List.size_toArray,sizeLine_eq];lia))));simp only[bne_self_eq_false,Bool.false_eq_true,if_false];exact YZ (h _ c2 (fun b o hb e=>(s2.2 b hb).trans (k3 b o hb e)) wN)
theorem AJ{l:Addr}{vs:List Value}{κ:SortKind}{lt:Nat→Nat→Bool}{Q:Value→Shared→Prop}(hl:s.heap.IsList l vs.toArray)(Fq:vs.length<10000)(Oo:vs.Nodup)(L:AD vs.length lt)
  (hk:2≤vs.length→∀s',(∀b o,s.heap.get? b=some o→s'.heap.get? b=some o)→∀Q':SortKind→Shared→Prop,Q' κ s'→wpAny (model prog w) A.in1.in1 (keyKind' vs.toArray) Q' (fun _ _=>False) s')
  (hc:∀i j,i<vs.length→j<vs.length→∀s',(∀b o,s.heap.get? b=some o→s'.heap.get? b=some o)→∀C:Bool→Shared→Prop,C (lt i j) s'→wpAny (model prog w) A.in1.in1 (keyLt' κ (vs.getD i .none) (vs.getD j .none)) C (fun _ _=>False) s')
  (h:∀p h' D c,ym vs.length p→Sd lt p vs.length→(∀b o,s.heap.get? b=some o→h'.get? b=some o)→s.heap.objs.size≤D→h'.get? D=some (seqObj "list" (List.toArray (p.toList.map fun i=>vs.getD i Value.none)) c)→Q (.ref D) {s with heap:=h'}):
  wpAny (model prog w) A (call (.builtin "sorted") [.ref l]) Q E s:=by
 refine Calls.call_function_entry kind_sorted plain_sorted entry_sorted (args_sorted1 _) ?_;unfold Builtin.«sorted»;refine wpAny_bind (m:=checkCount "sorted" 1 1 _) (YZ (Zk (collect_list hl (Zk (wpAny_newList ?_ (by rw[sizeLine_eq];lia))) (by rw[sizeLine_eq];lia))));generalize hh:((s.heap.push (seqObj "list" #[] 0)).update s.heap.objs.size (Obj.mapSeq (·++vs.toArray)))=h1;have hsz:h1.objs.size=s.heap.objs.size+1:=by rw[←hh,Heap.size_update,size_push']
 have keep:∀b o,s.heap.get? b=some o→(h1.push (seqObj "list" vs.toArray 0)).get? b=some o:=fun b o q=>by
  have hG:b<s.heap.objs.size:=Α q;rw[Heap.get?_push_ne _ _ _ (by rw[hsz];exact Κ (Nat.lt_succ_of_lt hG)),←hh,Heap.get?_update_ne _ _ _ _ (Κ hG),Heap.get?_push_ne _ _ _ (Κ hG)];exact q
 have IF:(h1.push (seqObj "list" vs.toArray 0)).get? h1.objs.size=some (seqObj "list" vs.toArray 0):=Heap.get?_push_size _ rfl;have Jq:∀h',Kp h1.objs.size (h1.push (seqObj "list" vs.toArray 0)) h'→∀b o,s.heap.get? b=some o→h'.get? b=some o:=fun h' k b o q=>k b o (by have:=Heap.lt_size q;rw[hsz];exact Κ (Nat.lt_succ_of_lt this)) (keep b o q)
 show wpAny _ _ _ _ _ {s with heap:=h1.push (seqObj "list" vs.toArray 0)};refine wpAny_bind (wpAny_holding (wpAny_call_entry slot_list_sort ⟨_,IF,rfl⟩ entry_list_sort ?_ (args_list_sort _)));by_cases h2:2≤vs.length
 ·refine Df (s:={s with heap:=h1.push (seqObj "list" vs.toArray 0)}) (lt:=lt) IF h2 Fq Oo L (fun s' k Q' q=>hk h2 s' (Jq _ k) Q' q) (fun i j hi hj s' k C q=>hc i j hi hj s' (Jq _ k) C q) fun p h' c hp hs k e=>?_
  exact⟨_,rfl,YZ ⟨_,rfl,h p h' _ c hp hs (Jq _ k) (by rw[show({s with heap:=h1}:Shared).heap.objs.size=h1.objs.size from rfl,hsz];exact Nat.le_succ _) e⟩⟩
 ·refine y6 (s:={s with heap:=h1.push (seqObj "list" vs.toArray 0)}) IF IL fun h' c k e=>?_
  have hp:ym vs.length (List.toArray (Zv vs.length)):=by unfold ym;simp
  refine⟨_,rfl,YZ ⟨_,rfl,h _ h' _ c hp (fun i j uI hj=>by lia) (Jq _ k) (by rw[show({s with heap:=h1}:Shared).heap.objs.size=h1.objs.size from rfl,hsz];exact Nat.le_succ _) ?_⟩⟩;rw[e]
  congr 2
  match vs,h2 with
  |[],_=>rfl
  |[x],_=>rfl
  |x::y::r,h=>simp at h
end
def ki(p q:Int×Int):Bool:=if p.1=q.1 then decide (p.2<q.2)else decide (p.1<q.1)
theorem Fs{p q r:Int×Int}(a:ki p q=true)(b:ki q r=true):ki p r=true:=by
 unfold ki at*;split at a<;>split at b<;>split<;>simp_all<;>lia
theorem Ft{p q:Int×Int}(a:ki p q=true):ki q p=false:=by
 unfold ki at*;split at a<;>split<;>simp_all<;>lia
theorem B8{p q:Int×Int}(h:p≠q):ki p q=true∨ki q p=true:=by
 unfold ki;by_cases e:p.1=q.1
 ·have:p.2≠q.2:=fun z=>h (Prod.ext e z)
  simp[e];lia
 ·have e':¬q.1=p.1:=fun z=>e z.symm
  simp[e,e'];lia
section
variable{prog:Program}{w:World}{A:Around}{E:Value→Shared→Prop}{s:Shared}
def rZ(h:Heap)(x:Addr)(p:Int×Int):Prop:=∃o t u n,h.get? x=some o∧o.cls= .type "tuple"∧o.data= .seq #[.int p.1 t, .int p.2 u] n
theorem HI{x y:Addr}{p q:Int×Int}{C:Bool→Shared→Prop}(hx:rZ s.heap x p)(hy:rZ s.heap y q)(h:C (ki p q) s):wpAny (model prog w) A (keyLt' (tuples' true) (.ref x) (.ref y)) C E s:=by
 obtain⟨ox,t,u,n,h1,h2,h3⟩:=hx;obtain⟨oy,t',u',n',g1,g2,g3⟩:=hy;refine kat_lt h1 h3 g1 g3 (kat_cons ?_);have e0:SeqAt.EqAt A s (.int p.1 t) (.int q.1 t') (wH (.int p.1) (.int q.1)):=wI ⟨t,rfl⟩ ⟨t',rfl⟩ rfl rfl;have e1:SeqAt.EqAt A s (.int p.2 u) (.int q.2 u') (wH (.int p.2) (.int q.2)):=wI ⟨u,rfl⟩ ⟨u',rfl⟩ rfl rfl;refine e0 _ _ _ _ ?_;by_cases a:p.1=q.1
 ·have:wH (.int p.1) (.int q.1)=true:=by simp[wH,a]
  rw[this];refine kat_yes (kat_cons (e1 _ _ _ _ ?_));by_cases b:p.2=q.2
  ·have:wH (.int p.2) (.int q.2)=true:=by simp[wH,b]
   rw[this];refine kat_yes (kat_nil ?_);have:ki p q=decide (#[Value.int p.1 t, .int p.2 u].size<#[Value.int q.1 t', .int q.2 u'].size):=by simp[ki,a,b]
   rw[this]at h;exact h
  ·have:wH (.int p.2) (.int q.2)=false:=by simp[wH,b]
   rw[this];refine kat_no (kat_one _ _ (lt_int ?_));have:ki p q=decide (p.2<q.2):=by simp[ki,a]
   rw[this]at h;exact h
 ·have:wH (.int p.1) (.int q.1)=false:=by simp[wH,a]
  rw[this];refine kat_no (oneLt_int ?_);have:ki p q=decide (p.1<q.1):=by simp[ki,a]
  rw[this]at h;exact h
theorem vZ{h:Heap}:∀{its:List Value},(∀v∈its,∃x p,v= .ref x∧rZ h x p)→∃fs,KatTups h its fs∧fs.length=its.length∧∀f∈fs,∃i t,f=Value.int i t
 |[],_=>⟨[], .nil,rfl,fun f hf=>by cases hf⟩
 |v::r,hv=>by
  obtain⟨x,p,rfl,o,t,u,n,h1,h2,h3⟩:=hv v (List.mem_cons_self ..);obtain⟨fs,k1,k2,k3⟩:=vZ (its:=r) fun v Np=>hv v (Ρ Np)
  refine⟨.int p.1 t::fs, .cons h1 h2 h3 rfl k1,by simp[k2],fun f hf=>?_⟩;rcases List.mem_cons.mp hf with rfl|hf
  ·exact⟨_,_,rfl⟩
  ·exact k3 f hf
theorem Dg{its:List Value}{Q:SortKind→Shared→Prop}(eJ:0<its.length)(hv:∀v∈its,∃x p,v= .ref x∧rZ s.heap x p)(h:Q (tuples' true) s):wpAny (model prog w) A (keyKind' its.toArray) Q E s:=by
 obtain⟨fs,k1,k2,k3⟩:=vZ hv;refine kat_kind (T:= .type "int") k1 IL (fun v hv=>?_) (WD) h;obtain⟨i,t,rfl⟩:=k3 v hv;exact .now
end
theorem y8{l:List Nat}{f:Nat→V}{g:Nat→Value}(h:∀i∈l,RelV (f i) (g i)):Vals (l.map f) (l.map g):=by
 induction l with
 |nil=>exact .nil
 |cons i r ih=>exact .cons (h i (List.mem_cons_self ..)) (ih fun j hj=>h j (Ρ hj))
end L2
namespace QF
open PySem L2 PySem.Spec PyProof.Rows PySem.W PySem.Calls
inductive Fu(K:Frag)(vs:List V)(H:Hp)(Q:VK):Prop
 |mk (l:Addr) (xs:List V) (ps:List Pr) (_:vs=[.ref l]) (_:iK K H l xs) (_:eF H xs ps) (_:ps.Nodup) (_:ps.length<10000) (_:∀D ys qs,H D=none→eF H ys qs→qs.Perm ps→qs.Pairwise (fun p q=>ki p q=true)→Q (.ref D) (upd H D (.lst ys))):Fu K vs H Q
theorem AK{X:Cx}(K:Frag)(hK:X.K=K:=by rfl):ir X (.builtin "sorted") (Fu K):=by
 subst hK;intro pins s σ H vs us Q I r h;obtain⟨l,xs,ps,rfl,hq,PS,nd,Fq,q⟩:=h;obtain⟨u,rfl,rx⟩:=vals1 r;cases rx;obtain⟨its,r',pl,hz⟩:=I.list hq;have hlen:=r'.length;have rB:=PS.1;have key:∀i,i<its.length→∃t,xs[i]?=some (.ref t)∧its[i]?=some (.ref t)∧H t=some (.tup (j_ (ps.getD i (0,0))))∧rZ s.heap t (ps.getD i (0,0)):=fun i hi=>by
  have hp:ps[i]?=some (ps.getD i (0,0)):=by simp[show i<ps.length by lia]
  obtain⟨t,h1,h2⟩:=PS.2 i _ hp;obtain⟨v,h3,h4⟩:=r'.get h1;cases h4;refine⟨t,h1,h3,h2,?_⟩;obtain⟨aaS,r2,⟨o,e1,e2,n,e3⟩,_⟩:=I.tuple (xs:=j_ (ps.getD i (0,0))) (.of h2);cases r2 with
  |cons a b=>
   cases b with
   |cons c d=>
    cases d;obtain⟨ta,rfl⟩:=a;obtain⟨tc,rfl⟩:=c;exact⟨o,ta,tc,n,e1,e2,e3⟩
 have Jq:∀{h':Heap},(∀b o,s.heap.get? b=some o→h'.get? b=some o)→∀{x p},rZ s.heap x p→rZ h' x p:=fun k _ _ ⟨o,t,u,n,a,b⟩=>⟨o,t,u,n,k _ _ a,b⟩
 have L:AD its.length fun i j=>ki (ps.getD i (0,0)) (ps.getD j (0,0)):=by
  refine⟨fun i j k _ _ _ a b=>Fs a b,fun i j _ _ a=>Ft a,fun i j hi hj eJ=>B8 fun e=>eJ ?_⟩;have e:ps[i]?=ps[j]?:=by
   rw[Χ IL,Χ IL];simpa[show i<ps.length by lia,show j<ps.length by lia]using e
  exact(List.getElem?_inj IL nd).mp e
 have Oo:its.Nodup:=by
  refine List.pairwise_iff_getElem.mpr fun i j hi hj uI e=>?_
  obtain⟨t1,_,a2,a3,_⟩:=key i hi;obtain⟨t2,_,b2,b3,_⟩:=key j hj;rw[Χ hi]at a2;rw[Χ hj,←e,a2]at b2;cases b2;rw[a3]at b3;have h1:ps[i]?=some (ps.getD i (0,0)):=by simp[show i<ps.length by lia]
  have h2:ps[j]?=some (ps.getD j (0,0)):=by simp[show j<ps.length by lia]
  have e9:ps.getD i (0,0)=ps.getD j (0,0):=by
   have:=HO.tup.inj (Zu b3);simp only[j_,List.cons.injEq,V.int.injEq,and_true]at this;exact Prod.ext this.1 this.2
  have:=(List.getElem?_inj IL nd).mp (h1.trans (by rw[e9];exact h2.symm))
  lia
 refine AJ (κ:=tuples' true) pl.isList IL Oo L (fun h2 s' k Q' hq=>?_) (fun i j hi hj s' k C hC=>?_) fun p h' D c hp hs k hD e=>?_
 ·refine Dg IL (fun v hv=>?_) hq;obtain⟨i,hi,rfl⟩:=List.mem_iff_getElem.mp hv;obtain⟨t,_,h3,_,h5⟩:=key i hi;exact⟨t,_,by rw[Χ hi]at h3;exact Zu h3,Jq k h5⟩
 ·obtain⟨t,_,h3,_,h5⟩:=key i hi;obtain⟨t',_,g3,_,g5⟩:=key j hj;have e1:its.getD i .none= .ref t:=by simp[h3]
  have e2:its.getD j .none= .ref t':=by simp[g3]
  rw[e1,e2];exact HI (Jq k h5) (Jq k g5) hC
 ·have mem:∀i∈p.toList,i<its.length:=fun i hi=>by
   have:=hp.mem_iff.mp hi;simpa using this
  have rel:Vals (p.toList.map fun i=>xs.getD i .cS) (p.toList.map fun i=>its.getD i Value.none):=y8 fun i hi=>by
   obtain⟨t,h1,h3,_⟩:=key i (mem i hi);have e1:xs.getD i .cS= .ref t:=by simp[h1]
   have e2:its.getD i .none= .ref t:=by simp[h3]
   rw[e1,e2];rfl
  have hsz:(p.toList.map fun i=>xs.getD i V.cS).length=its.length:=by rw[List.length_map,Array.length_toList,hp.size]
  have Lu:(p.toList.map fun i=>ps.getD i (0,0)).length=its.length:=by rw[List.length_map,Array.length_toList,hp.size]
  refine⟨.ref D,_,I.laid (t':=s.toks) k hD (show cT X.prog X.w _ h' _ (.lst _)from⟨by rw[hsz,←hlen];exact hz,_,c,rel,e⟩),rfl,q D _ (p.toList.map fun i=>ps.getD i (0,0)) (I.bX.fresh hD) ⟨by rw[hsz,Lu],fun i f hf=>?_⟩ ?_ ?_⟩
  ·rw[List.getElem?_map]at hf⊢;cases ei:p.toList[i]? with
   |none=>rw[ei]at hf;cases hf
   |some j=>
    rw[ei]at hf;have hf:ps.getD j (0,0)=f:=Zu hf;obtain⟨t,h1,h3,h4,_⟩:=key j (mem j (ZS ei));refine⟨t,?_,by rw[←hf];exact h4⟩;show some (xs.getD j .cS)=_;simp[h1]
  ·have h1:=hp.map (fun i=>ps.getD i (0,0));refine h1.trans ?_;have:(Zv its.length).map (fun i=>ps.getD i (0,0))=ps:=by
    apply List.ext_getElem?;intro i;rw[List.getElem?_map];by_cases hi:i<its.length
    ·rw[List.getElem?_range hi];simp[show i<ps.length by lia]
    ·rw[List.getElem?_eq_none Ξ,List.getElem?_eq_none IL];rfl
   rw[this]
  ·rw[List.pairwise_iff_getElem];intro i j hi hj uI;have BF:i<its.length:=by rw[Lu]at hi;exact hi
   have DR:j<its.length:=by rw[Lu]at hj;exact hj
   have:=hs i j uI DR;have AL:=hp.size;simp only[List.getElem_map];have e1:gd p i=p.toList[i]'(by simp;lia):=by simp[gd,show i<p.size by lia]
   have e2:gd p j=p.toList[j]'(by simp;lia):=by simp[gd,show j<p.size by lia]
   rw[e1,e2]at this;exact this
end QF
namespace L2
open PySem PySem.Spec PyProof.Rows PySem.W PySem.Calls
open AutoSeq1 (wpAny_loadPart')
theorem Oq{A:Around}{s:Shared}{i j:Int}{t u:Tok}:SeqAt.EqAt A s (.int i t) (.int j u) (decide (i=j)):=by
 have:=wI (A:=A) (s:=s) (y:= .int i) (x:= .int j) ⟨t,rfl⟩ ⟨u,rfl⟩ rfl rfl;simpa[wH,Bool.beq_eq_decide_eq]using this
theorem Ot{prog:Program}{w:World}{A:Around}{E:Value→Shared→Prop}{s:Shared}{i j:Int}{t u:Tok}{Q:Value→Shared→Prop}(h:Q (.bool (decide (i<j))) s):wpAny (model prog w) A (richCompare .Lt (.int i t) (.int j u)) Q E s:=lt_int h
theorem Fv(l b:Addr)(p q:Int×Int)(t u t' u':Tok)(n n2:Nat)(dd Hg:Option Addr)(sl zK:Array (Option Value)):
  Meets (Builtin.«tuple.__lt__» ⟨[.ref l, .ref b],[]⟩) (fun A R s=>s.heap.get? l=some {cls:= .type "tuple",dict:=dd,data:= .seq #[.int p.1 t, .int p.2 u] n,slots:=sl}∧s.heap.get? b=some {cls:= .type "tuple",dict:=Hg,data:= .seq #[.int q.1 t', .int q.2 u'] n2,slots:=zK}∧
    R (.ok (.ret (.bool (ki p q)))) s):=
 .of_wp fun prog w A R s h=>by
  obtain⟨hp,g,d,tk,os⟩:=s;obtain⟨hl,hb,h⟩:=h;have f2:=AutoSeq1.sub_tuple_tuple
  wp_walk using wpAny_loadPart' hl,wpAny_loadPart' hb
  refine(show wpAny (model prog w) A.in1 (eqBool (.int p.1 t) (.int q.1 t')) _ _ _ from Oq _ _ _ _ ?_);by_cases a:p.1=q.1
  ·rw[decide_eq_true a]
   wp_walk
   refine(show wpAny (model prog w) A.in1 (eqBool (.int p.2 u) (.int q.2 u')) _ _ _ from Oq _ _ _ _ ?_);by_cases c:p.2=q.2
   ·rw[decide_eq_true c]
    wp_walk
    have e:ki p q=false:=by simp[ki,a,c]
    rw[e]at h;exact⟨_,rfl,h⟩
   ·rw[decide_eq_false c];have e:ki p q=decide (p.2<q.2):=by simp[ki,a]
    rw[e]at h
    wp_walk using Ot
    exact⟨_,rfl,h⟩
  ·rw[decide_eq_false a];have e:ki p q=decide (p.1<q.1):=by simp[ki,a]
   rw[e]at h
   wp_walk using Ot
   exact⟨_,rfl,h⟩
theorem AM{prog:Program}{w:World}{A:Around}{E:Value→Shared→Prop}{s:Shared}{x y:Addr}{p q:Int×Int}{Q:Value→Shared→Prop}(hu:A.units<cLine)(hx:rZ s.heap x p)(hy:rZ s.heap y q)(h:Q (.bool (ki p q)) s):wpAny (model prog w) A (compareOp .Lt (.ref x) (.ref y)) Q E s:=by
 obtain⟨⟨c,dd,da,sl⟩,t,u,n,h1,h2,h3⟩:=hx;obtain⟨⟨c',IV,Y8,Q2⟩,t',u',n',g1,g2,g3⟩:=hy;simp only at h2 h3 g2 g3;subst h2 h3 g2 g3;exact richCompare_meets_room (op:= .Lt) ⟨_,h1,rfl⟩ ⟨_,g1,rfl⟩ F.slot_tuple_lt F.entry_tuple_lt (F.args_tuple_lt_2 _ _) (Fv x y p q t u t' u' n n' dd IV sl Q2) ⟨h1,g1,show Value.bool (ki p q)≠Value.notImplemented∧Q (.bool (ki p q)) s from⟨(fun x=>nomatch x),h⟩⟩ hu
abbrev Kw:=Int×(Int×Int)
def zO(a b:Kw):Bool:=if a.1=b.1 then ki a.2 b.2 else decide (a.1<b.1)
theorem Lv{p q r:Kw}(a:zO p q=true)(b:zO q r=true):zO p r=true:=by
 unfold zO at*;by_cases h1:p.1=q.1<;>by_cases h2:q.1=r.1
 ·rw[Z1 h1]at a;rw[Z1 h2]at b;rw[Z1 (h1.trans h2)];exact Fs a b
 ·rw[ZY h2]at b;rw[ZY (by rw[h1];exact h2),h1];exact b
 ·rw[ZY h1]at a;rw[ZY (by rw[←h2];exact h1),←h2];exact a
 ·rw[ZY h1]at a;rw[ZY h2]at b;have a:=of_decide_eq_true a;have b:=of_decide_eq_true b;rw[ZY IL];exact decide_eq_true IL
theorem Lw{p q:Kw}(a:zO p q=true):zO q p=false:=by
 unfold zO at*;by_cases h1:p.1=q.1
 ·rw[Z1 h1]at a;rw[Z1 h1.symm];exact Ft a
 ·rw[ZY h1]at a;rw[ZY (fun z=>h1 z.symm)];have a:=of_decide_eq_true a;exact decide_eq_false IL
theorem HJ{p q:Kw}(h:p≠q):zO p q=true∨zO q p=true:=by
 unfold zO;by_cases h1:p.1=q.1
 ·rw[Z1 h1,Z1 h1.symm];exact B8 fun z=>h (Prod.ext h1 z)
 ·rw[ZY h1,ZY (fun z=>h1 z.symm)];rcases Int.lt_or_lt_of_ne h1 with z|z
  ·exact .inl (decide_eq_true z)
  ·exact .inr (decide_eq_true z)
section
variable{prog:Program}{w:World}{A:Around}{E:Value→Shared→Prop}{s:Shared}
def v5(h:Heap)(x:Addr)(k:Kw):Prop:=∃o t y c,h.get? x=some o∧o.cls= .type "tuple"∧o.data= .seq #[.int k.1 t, .ref y] c∧rZ h y k.2
theorem Dh{x y:Addr}{p q:Int×Int}(hu:A.units+1<cLine)(hx:rZ s.heap x p)(hy:rZ s.heap y q):SeqAt.EqAt A s (.ref x) (.ref y) (decide (p=q)):=by
 obtain⟨o,t,u,n,h1,h2,h3⟩:=hx;obtain⟨o',t',u',n',g1,g2,g3⟩:=hy;by_cases e:x=y
 ·subst e;rw[h1]at g1;cases g1;rw[h3]at g3;injection g3 with g3 _;have g3:=congrArg Array.toList g3;simp at g3;have:p=q:=Prod.ext g3.1.1 g3.2.1;rw[decide_eq_true this];exact SeqAt.EqAt.same _
 ·have:=SeqAt.EqAt.of_refs e (SeqAt.RcAt.tuples (A:=A) (s:=s) (items:=#[.int p.1 t, .int p.2 u]) (items2:=#[.int q.1 t', .int q.2 u']) (e:=fun j=>if j=0 then decide (p.1=q.1)else decide (p.2=q.2)) ⟨o,h1,h2,n,h3⟩ ⟨o',g1,g2,n',g3⟩ IL fun j h1 h2=>by
   have:j=0∨j=1:=by simp at h1;lia
   rcases this with rfl|rfl
   ·exact Oq
   ·exact Oq)
  have e2:((Zv (min #[Value.int p.1 t, .int p.2 u].size #[Value.int q.1 t', .int q.2 u'].size)).all (fun j=>if j=0 then decide (p.1=q.1)else decide (p.2=q.2))&&#[Value.int p.1 t, .int p.2 u].size==#[Value.int q.1 t', .int q.2 u'].size)=decide (p=q):=by
   simp[List.range_succ];by_cases a:p.1=q.1<;>by_cases b:p.2=q.2<;>simp[Prod.ext_iff,a,b]
  rw[e2]at this;exact this
theorem Lx{x y:Addr}{p q:Kw}{C:Bool→Shared→Prop}(hu:A.units+1<cLine)(hx:v5 s.heap x p)(hy:v5 s.heap y q)(h:C (zO p q) s):wpAny (model prog w) A (keyLt' (tuples' true) (.ref x) (.ref y)) C E s:=by
 obtain⟨ox,t,z,n,h1,h2,h3,h4⟩:=hx;obtain⟨oy,t',z',n',g1,g2,g3,g4⟩:=hy;refine kat_lt h1 h3 g1 g3 (kat_cons (Oq _ _ _ _ ?_));by_cases a:p.1=q.1
 ·rw[decide_eq_true a];refine kat_yes (kat_cons (Dh hu h4 g4 _ _ _ _ ?_));have e:zO p q=ki p.2 q.2:=Z1 a;by_cases b:p.2=q.2
  ·rw[decide_eq_true b];refine kat_yes (kat_nil ?_);have:zO p q=decide (#[Value.int p.1 t, .ref z].size<#[Value.int q.1 t', .ref z'].size):=by rw[e,b];simp[ki]
   rw[this]at h;exact h
  ·rw[decide_eq_false b];rw[e]at h;exact kat_no (kat_one _ _ (AM IL h4 g4 h))
 ·rw[decide_eq_false a];have e:zO p q=decide (p.1<q.1):=ZY a;rw[e]at h;exact kat_no (oneLt_int h)
end
theorem Ly{X:Cx}{cm:Bool}{k:Nat}{f:Addr}{fd:FuncData}{ps:List Str}{sp:Sp}{A':Around}{pins:List (Addr×Obj)}{σ:St}{H:Hp}{s:Shared}{Q:VK}{us:List Value}{vs:List V}{E:Value→Shared→Prop}
  (F:a8 X.prog X.w X.K X.mg X.base (cV X.prog X.w) cm k f fd ps sp) (hr:eZ cm k A') (hf:A'.frames=X.A.frames) (hb:Binds X.K fd ps []) (I:Inv X pins σ H s) (r:Vals vs us) (h:sp vs H Q E0):
  wpAny (model X.prog X.w) A' (call (.ref f) us) (EP X pins σ Q) E s:=by
 have hl:(us++[]).length=ps.length:=by rw[List.append_nil,←r.length];exact F.len _ _ _ _ h
 have Ml:=hb s us I.qg hl;rw[List.append_nil]at Ml;refine wpAny_call (codeAny_mono (F.run A' X.stack s H ⟨us,[]⟩ us vs Q E0 hr {I.Kd with frames:=by rw[hf];exact I.ok.frames} Ml r h) fun r s' hq=>?_);cases r with
 |error e=>obtain⟨_,_,_,_,_,_,_,_,_,_,_,_,_,h⟩:=hq;exact h.elim
 |ok fl=>
  cases fl with
  |ret u=>exact I.after hq
  |next=>exact False.elim hq
  |brk=>exact False.elim hq
  |cont=>exact False.elim hq
end L2
namespace QF
open PySem L2 PySem.Spec PyProof.Rows PySem.W PySem.Calls
def KQ(H1:Hp)(w:Kw):VK:=fun y H2=>au H1 H2∧∃k t,y= .ref k∧H2 k=some (.tup [.int w.1, .ref t])∧H2 t=some (.tup [.int w.2.1, .int w.2.2])
def kl(ws:List Kw)(i j:Nat):Bool:=zO (ws.getD i (0,(0,0))) (ws.getD j (0,(0,0)))
def Ks(H:Hp)(ws:List Kw)(as:List Addr):Prop:=∀j k,as[j]?=some k→∃t,H k=some (.tup [.int (ws.getD j (0,(0,0))).1, .ref t])∧H t=some (.tup [.int (ws.getD j (0,(0,0))).2.1, .int (ws.getD j (0,(0,0))).2.2])
theorem Ks.key{X:Cx}{pins:List (Addr×Obj)}{σ:L2.St}{H:Hp}{s:Shared}{ws:List Kw}{as:List Addr}{j:Nat}{k:Addr}(I:Inv X pins σ H s)(h:Ks H ws as)(e:as[j]?=some k):v5 s.heap k (ws.getD j (0,(0,0))):=by
 obtain⟨t,h1,h2⟩:=h j k e;obtain⟨its,r,⟨o,e1,e2,n,e3⟩,_⟩:=I.tuple (xs:=[.int (ws.getD j (0,(0,0))).1, .ref t]) (.of h1);obtain⟨its',r',⟨o',g1,g2,n',g3⟩,_⟩:=I.tuple (xs:=[.int (ws.getD j (0,(0,0))).2.1, .int (ws.getD j (0,(0,0))).2.2]) (.of h2);cases r with
 |cons a b=>cases b with
  |cons c d=>
   cases d;obtain⟨ta,rfl⟩:=a;cases c;cases r' with
   |cons a' b'=>cases b' with
    |cons c' d'=>
     cases d';obtain⟨Xi,rfl⟩:=a';obtain⟨Xj,rfl⟩:=c';exact⟨o,ta,t,n,e1,e2,e3,o',Xi,Xj,n',g1,g2,g3⟩
theorem y9{h:Heap}:∀{its:List Value},(∀v∈its,∃x p,v= .ref x∧v5 h x p)→∃fs,KatTups h its fs∧fs.length=its.length∧∀f∈fs,∃i t,f=Value.int i t
 |[],_=>⟨[], .nil,rfl,fun f hf=>by cases hf⟩
 |v::r,hv=>by
  obtain⟨x,p,rfl,o,t,u,n,h1,h2,h3,_⟩:=hv v (List.mem_cons_self ..);obtain⟨fs,k1,k2,k3⟩:=y9 (its:=r) fun v Np=>hv v (Ρ Np)
  refine⟨.int p.1 t::fs, .cons h1 h2 h3 rfl k1,by simp[k2],fun f hf=>?_⟩;rcases List.mem_cons.mp hf with rfl|hf
  ·exact⟨_,_,rfl⟩
  ·exact k3 f hf
theorem Fx{prog:Program}{w:World}{A:Around}{E:Value→Shared→Prop}{s:Shared}{its:List Value}{Q:SortKind→Shared→Prop}(eJ:0<its.length)(hv:∀v∈its,∃x p,v= .ref x∧v5 s.heap x p)(h:Q (tuples' true) s):wpAny (model prog w) A (keyKind' its.toArray) Q E s:=by
 obtain⟨fs,k1,k2,k3⟩:=y9 hv;refine kat_kind (T:= .type "int") k1 IL (fun v hv=>?_) (WD) h;obtain⟨i,t,rfl⟩:=k3 v hv;exact .now
section
variable{X:Cx}{cm:Bool}{k:Nat}{f:Addr}{fd:FuncData}{ps:List Str}{sp:Sp}{A':Around}{pins:List (Addr×Obj)}{σ:L2.St}{H:Hp}{s:Shared}{E:Value→Shared→Prop}{a kS:Addr}{vs:List Value}{xs:List V}{ws:List Kw}{e1:Nat}{P:PySem.Fin→Shared→Prop}
theorem Fy(hu:A'.units+1<cLine)(I:Inv X pins σ H s){kA:Array Value}{e:Nat}{as:List Addr}(hk:s.heap.get? kS=some (seqObj "list" kA e))(ha:s.heap.get? a=some (seqObj "list" #[] e1))(fk:iE X pins H kS)(fa:iE X pins H a)(eJ:kS≠a)
  (ek:kA.toList=as.map Value.ref) (el:as.length=vs.length) (K:Ks H ws as) (r:Vals xs vs) (hlen:ws.length=vs.length) (nd:ws.Nodup) (Fq:vs.length<10000)
  (h:∀p s',ym vs.length p→Sd (kl ws) p vs.length→Inv X pins σ (upd H a (.lst (p.toList.map fun i=>xs.getD i .cS))) s'→P (.done (.ret .none)) s'):
  wpAny (model X.prog X.w) A' (ksk_end a false vs.toArray e1 (.ref kS) kA) P E s:=by
 have Xk:kA=(as.map Value.ref).toArray:=by apply Array.toList_inj.mp;simpa using ek
 subst Xk;have hl:(as.map Value.ref).length=vs.length:=by rw[List.length_map];exact el
 have key:∀i,i<vs.length→∃x,(as.map Value.ref).getD i Value.none= .ref x∧v5 s.heap x (ws.getD i (0,(0,0))):=fun i hi=>by
  have hx:as[i]?=some as[i]:=Χ IL;exact⟨as[i],by simp[show i<as.length by lia],K.key I hx⟩
 have L:AD vs.length (kl ws):=by
  refine⟨fun i j k _ _ _ a b=>Lv a b,fun i j _ _ a=>Lw a,fun i j hi hj eJ=>HJ fun e=>eJ ?_⟩;have e:ws[i]?=ws[j]?:=by
   rw[Χ IL,Χ IL];simpa[show i<ws.length by lia,show j<ws.length by lia]using e
  exact(List.getElem?_inj IL nd).mp e
 have tail:∀(st:SortSt)(p:Array Nat),ym vs.length p→Sd (kl ws) p vs.length→(V1 st).map (·.2)=List.toArray (p.toList.map fun i=>vs.getD i Value.none)→failedOf st=none→wpAny (model X.prog X.w) A' (ksk_tail a false e1 (.ref kS) st) P E s:=fun st p hp hs hm hf=>by
  have hsz:(List.toArray (p.toList.map fun i=>vs.getD i Value.none)).size=vs.length:=by rw[List.size_toArray,List.length_map,Array.length_toList,hp.size]
  have s1:=Heap.SameBut.update s.heap kS (Obj.mapSeq fun _=>(#[]:Array Value));have AI:(η kS).get? a=some (seqObj "list" #[] e1):=(s1.2 a (Zd eJ)).trans ha;have s2:=Heap.SameBut.update (η kS) a (Obj.mapSeq fun _=>List.toArray (p.toList.map fun i=>vs.getD i Value.none));obtain⟨c2,wN⟩:∃c2,((η kS).update a (Obj.mapSeq fun _=>List.toArray (p.toList.map fun i=>vs.getD i Value.none))).get? a=some (seqObj "list" (List.toArray (p.toList.map fun i=>vs.getD i Value.none)) c2):=⟨_,get?_update_seq AI fun _=>List.toArray (p.toList.map fun i=>vs.getD i Value.none)⟩
  unfold ksk_tail
  try dsimp only
  simp only[Bool.false_eq_true,if_false];rw[hm];refine wpAny_bind (listUpdate_at hk rfl (Zk (wpAny_letGo ?_)) (by rw[List.size_toArray,hl,sizeLine_eq];lia) (Nat.zero_le _));refine wpAny_bind (seqEpoch_at (s:={s with heap:=η kS}) AI rfl (Zk (listUpdate_at (s:={s with heap:=η kS}) AI rfl ?_ (Nat.zero_le _) (Nat.le_trans (Nat.le_of_eq hsz) (by rw[sizeLine_eq];lia)))));rw[hf];simp only[bne_self_eq_false,Bool.false_eq_true,if_false];have hr:=r.length;have mem:∀i∈p.toList,i<vs.length:=fun i hi=>by
   have:=hp.mem_iff.mp hi;simpa using this
  have rel:Vals (p.toList.map fun i=>xs.getD i .cS) (p.toList.map fun i=>vs.getD i Value.none):=y8 fun i hi=>by
   have hi:=mem i hi;obtain⟨v,h1,h2⟩:=r.get (i:=i) (x:=xs[i]) (by simp[show i<xs.length by lia]);have e1:xs.getD i .cS=xs[i]:=by simp[show i<xs.length by lia]
   have e2:vs.getD i .none=v:=by simp[h1]
   rw[e1,e2];exact h2
  refine wpAny_pure (h p _ hp hs (I.BN (t':=s.toks) (fp:=[kS,a]) (fun b hb=>?_) fa (fun b o hb e=>?_) ⟨by rw[List.length_map,Array.length_toList,hp.size,sizeLine_eq];lia,_,c2,rel,wN⟩))
  ·simp only[List.mem_cons,List.mem_singleton,List.not_mem_nil,or_false]at hb;rcases hb with rfl|rfl
   ·exact fk
   ·exact fa
  ·simp only[List.mem_cons,List.not_mem_nil,or_false,not_or]at hb;exact(s2.2 b hb.2).trans ((s1.2 b hb.1).trans e)
 unfold ksk_end
 try dsimp only
 simp only[Bool.false_eq_true,if_false];by_cases h2:2≤vs.length
 ·have vF:¬vs.toArray.size<2:=by rw[List.size_toArray];lia
  rw[ZY vF,ZY vF];refine wpAny_bind (wpAny_mono (Fx (Q:=fun Qm s'=>Qm=tuples' true∧s'=s) (E:=E) (its:=as.map Value.ref) (by lia) (fun v hv=>?_) ⟨rfl,rfl⟩) ?_ fun _ _ x=>x)
  ·obtain⟨i,hi,rfl⟩:=List.mem_iff_getElem.mp hv;obtain⟨x,h3,h5⟩:=key i IL;exact⟨x,_,by rw[←h3];simp[show i<as.length by simpa using hi],h5⟩
  rintro Qm s0 ⟨Xl,Xm⟩;rw[Xl,Xm];have Ou:(as.map Value.ref).Nodup:=by
   refine List.pairwise_iff_getElem.mpr fun i j hi hj uI e=>?_
   have BF:i<as.length:=by simpa using hi
   have DR:j<as.length:=by simpa using hj
   have e:as[i]=as[j]:=by simpa using e
   obtain⟨t1,a1,a2⟩:=K i as[i] (Χ BF);obtain⟨t2,b1,b2⟩:=K j as[j] (Χ DR);rw[←e,a1]at b1;have h1:=HO.tup.inj (Zu b1);simp only[List.cons.injEq,V.int.injEq,V.ref.injEq,and_true]at h1;rw[←h1.2,a2]at b2;have h2:=HO.tup.inj (Zu b2);simp only[List.cons.injEq,V.int.injEq,and_true]at h2;have e9:ws.getD i (0,(0,0))=ws.getD j (0,(0,0)):=Prod.ext h1.1 (Prod.ext h2.1 h2.2);have g1:ws[i]?=some (ws.getD i (0,(0,0))):=by simp[show i<ws.length by lia]
   have g2:ws[j]?=some (ws.getD j (0,(0,0))):=by simp[show j<ws.length by lia]
   have:=(List.getElem?_inj IL nd).mp (g1.trans (by rw[e9];exact g2.symm))
   lia
  refine wpAny_bind (wpAny_mono (B7 (lt:=kl ws) hl IL L Ou fun i j hi hj C hC=>?_) ?_ fun _ _ e=>e)
  ·obtain⟨x,h3,h5⟩:=key i hi;obtain⟨y,g3,g5⟩:=key j hj;rw[h3,g3];exact Lx hu h5 g5 hC
  rintro⟨⟨⟩,aU⟩ s' ⟨p,SD,hp,hs,Sz,hf⟩;rw[SD];exact tail aU p hp hs (kat_snds hl Sz) hf
 ·have vF:vs.toArray.size<2:=by rw[List.size_toArray];lia
  rw[Z1 vF,Z1 vF];refine wpAny_bind (YZ (Zk (YZ ?_)));have hp:ym vs.length (List.toArray (Zv vs.length)):=by unfold ym;simp
  refine tail _ _ hp (fun i j uI hj=>by lia) ?_ rfl;show((as.map Value.ref).toArray.zip vs.toArray).map (·.2)=_;apply Array.toList_inj.mp;rw[Array.toList_map,Array.toList_zip];refine(List.map_snd_zip Ξ).trans ?_
  match vs,h2 with
  |[],_=>rfl
  |[x],_=>rfl
  |x::y::r,h=>simp at h
theorem Di(F:a8 X.prog X.w X.K X.mg X.base (cV X.prog X.w) cm k f fd ps sp)(hr:eZ cm k A')(hf:A'.frames=X.A.frames)(hb:Binds X.K fd ps [])(hu:A'.units+1<cLine)(I:Inv X pins σ H s)(hk:s.heap.get? kS=some (seqObj "list" #[] 0))(ha:s.heap.get? a=some (seqObj "list" #[] e1))
  (fk:iE X pins H kS) (fa:iE X pins H a) (eJ:kS≠a) (r:Vals xs vs) (hlen:ws.length=vs.length) (nd:ws.Nodup) (Fq:vs.length<10000)
  (oG:∀i v H1,xs[i]?=some v→au H H1→sp [v] H1 (KQ H1 (ws.getD i (0,(0,0)))) E0)
  (h:∀p H' s',ym vs.length p→Sd (kl ws) p vs.length→au H H'→H' a=none→Inv X pins σ (upd H' a (.lst (p.toList.map fun i=>xs.getD i .cS))) s'→P (.done (.ret .none)) s'):
  wpAny (model X.prog X.w) A' (ksk_rest a (.ref f) false vs.toArray e1 (.ref kS)) P E s:=by
 have Mr:=r.length;unfold ksk_rest;refine wpAny_bind (wpAny_rule ?_);first
  |rw[List.forIn_toArray]
  |(rw[←Array.forIn_toList];simp only[List.toList_toArray])
 refine wpAny_bind (ksk_fold (fun i s'=>∃(H':Hp)(as:List Addr)(e:Nat),Inv X pins σ H' s'∧au H H'∧s'.heap.get? kS=some (seqObj "list" (as.map Value.ref).toArray e)∧s'.heap.get? a=some (seqObj "list" #[] e1)∧iE X pins H' kS∧iE X pins H' a∧as.length=i∧Ks H' ws as) vs 0 s
  ⟨H,[],0,I,fun _ _ z=>z,hk,ha,fk,fa,rfl,fun j k e=>by simp at e⟩ ?_ ?_)
 ·rintro j x s' hx ⟨H',as,e,I',sm,EU,Ov,Qn,Ow,el,K⟩;simp only[Nat.zero_add]at el⊢;have hj:j<vs.length:=(ZF hx).1;obtain⟨u,U0,Qo⟩:=r.get (i:=j) (x:=xs[j]) (by simp[show j<xs.length by lia]);rw[hx]at U0;cases U0;have Ip:=I'.pinned (fp:=[kS,a]) (fun b hb=>by
   simp only[List.mem_cons,List.not_mem_nil,or_false]at hb;rcases hb with rfl|rfl
   ·exact Qn
   ·exact Ow) (fun b hb=>by
   simp only[List.mem_cons,List.not_mem_nil,or_false]at hb;rcases hb with rfl|rfl
   ·exact⟨_,EU,fun v z=>nomatch z⟩
   ·exact⟨_,Ov,fun v z=>nomatch z⟩)
  refine wpAny_bind (wpAny_attempt (wpAny_mono (Ly F hr hf hb Ip (.cons Qo .nil) (oG j xs[j] H' (by simp[show j<xs.length by lia]) sm)) (fun v wC he=>?_) fun _ _ z=>z));obtain⟨y,H2,I2,ry,SE,kk,t,rfl,k1,k2⟩:=he;cases ry;dsimp only;have pk:=I2.pin (kS,_) (Μ (Μ (gW Xs EU)));have pa:=I2.pin (a,_) (Μ (Μ (gW Xs Ov)));have I3:=I2.lL;have s1:=Heap.SameBut.update wC.heap kS (Obj.mapSeq (·.push (.ref kk)));obtain⟨c2,wN⟩:∃c2,(wC.heap.update kS (Obj.mapSeq (·.push (.ref kk)))).get? kS=some (seqObj "list" ((as.map Value.ref).toArray.push (.ref kk)) c2):=⟨_,get?_update_seq pk.1 (·.push (.ref kk))⟩
  refine wpAny_bind (listUpdate_at pk.1 rfl ?_ (by simp;rw[sizeLine_eq];lia) (by simp;rw[sizeLine_eq];lia));have Ms:iE X pins H2 kS:=⟨pk.2.1,Qn.2⟩
  have Xn:iE X pins H2 a:=⟨pa.2.1,Ow.2⟩
  refine wpAny_pure ⟨rfl,H2,as++[kk],c2,I3.turned (t':=wC.toks) (it:=kS) (fun b o hb e=>(s1.2 b hb).trans e) Ms.1 Ms.2.1 Ms.2.2.2.1 Ms.2.2.2.2.1 Ms.2.2.2.2.2,fun b o z=>SE b o (sm b o z),?_,(s1.2 a (Zd eJ)).trans pa.1,Ms,Xn,by simp[el],fun i k ei=>?_⟩
  ·show(wC.heap.update kS (Obj.mapSeq (·.push (.ref kk)))).get? kS=_;rw[wN]
   congr 2
   simp
  ·by_cases hi:i<as.length
   ·rw[Ι hi]at ei;obtain⟨t',g1,g2⟩:=K i k ei;exact⟨t',SE _ _ g1,SE _ _ g2⟩
   ·rw[Ο IL]at ei;have Xo:i-as.length=0:=by
     have:=(ZF ei).1;simp at this
     lia
    rw[Xo]at ei;have:kk=k:=by simpa using ei
    subst this;have:i=j:=by lia
    subst this;exact⟨t,k1,k2⟩
 ·rintro s' ⟨H',as,e,I',sm,EU,Ov,Qn,Ow,el,K⟩;refine wpAny_bind (listItems_at EU rfl ?_);exact Fy hu I' EU Ov Qn Ow eJ Xs (by lia) K r hlen nd Fq fun p s2 hp hs I2=>h p H' s2 hp hs sm Ow.1 I2
theorem Dj{n:Nat}(F:a8 X.prog X.w X.K X.mg X.base (cV X.prog X.w) cm k f fd ps sp)(hr:eZ cm k A')(hf:A'.frames=X.A.frames)(hb:Binds X.K fd ps [])(hu:A'.units+1<cLine)(I:Inv X pins σ H s)(ho:s.heap.get? a=some (seqObj "list" vs.toArray n))
  (fa:iE X pins H a) (r:Vals xs vs) (hlen:ws.length=vs.length) (nd:ws.Nodup) (Fq:vs.length<10000)
  (oG:∀i v H1,xs[i]?=some v→au H H1→sp [v] H1 (KQ H1 (ws.getD i (0,(0,0)))) E0)
  (h:∀p H' s',ym vs.length p→Sd (kl ws) p vs.length→au H H'→H' a=none→Inv X pins σ (upd H' a (.lst (p.toList.map fun i=>xs.getD i .cS))) s'→P (.done (.ret .none)) s'):
  wpAny (model X.prog X.w) A' (ksk_tree a (.ref f) false) P E s:=by
 have s1:=Heap.SameBut.update s.heap a (Obj.mapSeq fun _=>(#[]:Array Value));obtain⟨e1,HH⟩:∃e1,(η a).get? a=some (seqObj "list" #[] e1):=⟨_,get?_update_seq ho fun _=>#[]⟩
 have I1:Inv X pins σ H {s with heap:=η a}:=I.turned (t':=s.toks) (it:=a) (fun b o hb e=>(s1.2 b hb).trans e) fa.1 fa.2.1 fa.2.2.2.1 fa.2.2.2.2.1 fa.2.2.2.2.2;unfold ksk_tree;refine wpAny_bind (listItems_at ho rfl (Zk (listUpdate_at ho rfl ?_ (by rw[List.size_toArray,sizeLine_eq];lia) (Nat.zero_le _))));refine wpAny_bind (χ HH);have I2:Inv X pins σ H {s with heap:=(η a).push (seqObj "tuple" vs.toArray 0)}:=I1.kept (t':=s.toks) fun b o e=>ZZ e
 have I3:Inv X pins σ H {s with heap:=((η a).push (seqObj "tuple" vs.toArray 0)).push (seqObj "list" #[] 0)}:=I2.kept (t':=s.toks) fun b o e=>ZZ e
 have fk:=I2.uM Β (I2.bX.fresh Β);have As:=Heap.get?_push_of_some (seqObj "tuple" vs.toArray 0) HH;exact Di F hr hf hb hu I3 (Heap.get?_push_size _ rfl) (ZZ As) fk fa (Nat.ne_of_gt (Α As)) r hlen nd Fq oG h
theorem AN{l:Addr}{Q:VK}(F:a8 X.prog X.w X.K X.mg X.base (cV X.prog X.w) cm k f fd ps sp)(hr:eZ cm (k+1) X.A)(hb:Binds X.K fd ps [])(I:Inv X pins σ H s)(hq:iK X.K H l xs)(hlen:ws.length=xs.length)(nd:ws.Nodup)(Fq:xs.length<10000)
  (oG:∀i v H1,xs[i]?=some v→au H H1→sp [v] H1 (KQ H1 (ws.getD i (0,(0,0)))) E0)
  (h:∀p H' D,ym xs.length p→Sd (kl ws) p xs.length→au H H'→H D=none→H' D=none→Q (.ref D) (upd H' D (.lst (p.toList.map fun i=>xs.getD i .cS)))):
  wpAny (model X.prog X.w) X.A (call (.builtin "sorted") [.ref l] [(Str.ofString "key", .ref f)]) (EP X pins σ Q) E s:=by
 obtain⟨vs,r,pl,hz⟩:=I.list hq;have Mr:=r.length;refine call_function_entry_kw kind_sorted plain_sorted entry_sorted (ksk_s1 _ _) ?_;unfold Builtin.«sorted»;refine wpAny_bind (m:=checkCount "sorted" 1 1 _) (YZ (Zk (collect_list pl.isList (Zk (wpAny_newList ?_ (by rw[sizeLine_eq];lia))) (by rw[sizeLine_eq];lia))));generalize hh:((s.heap.push (seqObj "list" #[] 0)).update s.heap.objs.size (Obj.mapSeq (·++vs.toArray)))=h1;have hsz:h1.objs.size=s.heap.objs.size+1:=by rw[←hh,Heap.size_update,size_push']
 have keep:∀b o,s.heap.get? b=some o→(h1.push (seqObj "list" vs.toArray 0)).get? b=some o:=fun b o q=>by
  have hG:b<s.heap.objs.size:=Α q;rw[Heap.get?_push_ne _ _ _ (by rw[hsz];exact Κ (Nat.lt_succ_of_lt hG)),←hh,Heap.get?_update_ne _ _ _ _ (Κ hG),Heap.get?_push_ne _ _ _ (Κ hG)];exact q
 have IF:(h1.push (seqObj "list" vs.toArray 0)).get? h1.objs.size=some (seqObj "list" vs.toArray 0):=Heap.get?_push_size _ rfl;have hD:s.heap.objs.size≤h1.objs.size:=by rw[hsz];exact Nat.le_succ _
 have U1:H h1.objs.size=none:=I.bX.fresh hD;have I1:Inv X pins σ H {s with heap:=h1.push (seqObj "list" vs.toArray 0)}:=I.kept (t':=s.toks) keep;show wpAny _ _ _ _ _ {s with heap:=h1.push (seqObj "list" vs.toArray 0)};refine wpAny_bind (wpAny_holding (wpAny_call_entry_kw slot_list_sort ⟨_,IF,rfl⟩ entry_list_sort ?_ (ksk_l1 _ _)));show wpAny (model X.prog X.w) X.A.in1.in1 (Builtin.«list.sort» ⟨[.ref h1.objs.size],[(Str.ofString "key", .ref f)]⟩) _ _ _;rw[ksk_t1];have un:=hr.un;refine Dj F ⟨hr.hd,by have:=hr.dp;show X.A.depth+3*k+5<_;lia,by show X.A.units+1+1+16*k+200<_;lia⟩ rfl hb (by show X.A.units+1+1+1<_;lia) I1 IF (I.uM hD U1) r IL nd IL oG fun p H' s' hp hs sm hn I'=>⟨_,rfl,YZ ⟨_,rfl, .ref h1.objs.size,_,I',rfl,?_⟩⟩
 rw[←Mr]at hp hs;exact h p H' _ hp hs sm U1 hn
end
inductive Fz(K:Frag)(sp:Sp)(x:V)(H:Hp)(Q:VK):Prop
 |mk (l:Addr) (xs:List V) (ws:List Kw) (_:x= .ref l) (_:iK K H l xs) (_:ws.length=xs.length) (_:ws.Nodup) (_:xs.length<10000) (_:∀i v H1,xs[i]?=some v→au H H1→sp [v] H1 (KQ H1 (ws.getD i (0,(0,0)))) E0)
  (_:∀p H' D,ym xs.length p→Sd (kl ws) p xs.length→au H H'→H D=none→H' D=none→Q (.ref D) (upd H' D (.lst (p.toList.map fun i=>xs.getD i .cS)))):Fz K sp x H Q
def Lz(K:Frag)(sp:Sp)(ta:TE):TE:=fun σ H Q=>ta σ H fun x H1=>Fz K sp x H1 Q
theorem FA{X:Cx}(K:Frag){cm:Bool}{k:Nat}{x:Str}{ps:List Str}{sp:Sp}{e:Expr}{ta:TE}{p pos kp fp:Pos}(D:bJ X.prog X.w X.K X.mg X.base cm k x ps sp)(hr:eZ cm (k+1) X.A)(he:PE X e ta)(hg:Gl X "sorted")(hm:X.mg "sorted"=none)
  (Xp:Gl X x:=by rfl) (wB:(x==("__debug__":Str))=false:=by decide) (hs:starEach [e] X.env=[(false,eval e X.env)]:=by rfl) (hK:X.K=K:=by rfl):
  PE X (.Call (.Name "sorted" p) [e] [⟨some "key", .Name x fp,kp⟩] pos) (Lz K sp ta):=by
 subst hK;obtain⟨f,fd,ok,Xq,hk,hb⟩:=D;intro pins s σ H Q I h;refine wpAny_Call_Name_kw (kH I hg hm (PyProof.Rows.Boot.«sorted») ?_ (WD) (WD));rw[hs];refine callWith_builtin_kwB (first:=[]) rfl rfl (evalArgs_kwB rfl ?_);refine Calls.spliced_cons ?_;show wpAny _ _ (eval e X.env) _ _ s;refine cH (he pins s σ H _ I h) fun v s1 ⟨y,H1,I1,r1,q1⟩=>Calls.spliced_nil ?_
 obtain⟨l,xs,ws,rfl,hq,hlen,nd,Fq,oG,q⟩:=q1;cases r1;refine kws_cons ?_;show wpAny _ _ (eval (.Name x fp) X.env) _ _ s1;refine cH (Bn (v:= .ref f) Xp Xq rfl wB pins s1 σ H1 (fun y H2=>y= .ref f∧H2=H1) I1 ⟨rfl,rfl⟩) fun u s2 ⟨y,H2,I2,r2,e1,e2⟩=>?_
 subst e1 e2;cases r2;refine kws_nil ?_;exact AN ok hr hb I2 hq hlen nd Fq oG q
end QF
namespace L2
open PySem PySem.Spec PyProof.Rows PySem.W PySem.Calls
def Mt(hi:Int)(n:Nat):It:=⟨fun i _=>i<n,fun i H x H'=>H'=H∧x= .int (hi-i),fun i _=>n≤i⟩
theorem Dk{P:Program}{w:World}{K:PySem.W.Frag}{tg:Expr}(it:Addr)(hi:Int)(n:Nat):Turn P w K tg (Mt hi n) [it] it (fun i h=>IsRangeIter h it (hi+(i:Nat)*(-1)) ((n:Int)-(i:Nat)) (-1)) where
 mem:=XU
 obj:=fun i h st b hb=>by
  have e:b=it:=by simpa using hb
  subst e;exact⟨_,st,fun v z=>by
   have z':Data.fields _=Data.cell v:=z;cases z'⟩
 keep:=fun i h h' st k=>k it (XU) _ st
 item:=by
  intro X hP hw hK hc i pins s σ H E I hf st hg;subst hP hw hK;obtain⟨f0,f1,f2,f3,f4,f5⟩:=hf it (XU);have W:=Walks.range (prog:=X.prog) (w:=X.w) (I.ok.hd hc) it hi (-1) n;refine W.item i s _ _ hg st fun v h' tk hv aU kk=>?_
  obtain⟨t,rfl⟩:=hv;have I1:Inv X pins σ H {s with heap:=h',toks:=tk}:=I.turned (fun b o hb e=>kk b o (by simpa using hb) e) f0 f1 f3 f4 f5;refine⟨_,rfl,yw (s:={s with heap:=h',toks:=tk}) (n:="range_iterator") aU rfl rfl (WD) ⟨.int (hi-i),H,I1,⟨t,?_⟩,⟨rfl,rfl⟩,aU,fun b hb=>(hf b hb).1⟩⟩
  congr 1
  lia
 done:=by
  intro X hP hw hK hc i pins s σ H E I hf st hg;subst hP hw hK;obtain⟨f0,f1,f2,f3,f4,f5⟩:=hf it (XU);exact wpAny_pyNext_range_end (I.ok.hd hc) st (by have:n≤i:=hg;lia) fun h' eb=>⟨rfl,I.turned (t':=s.toks) (fun b o hb e=>eb b o hb e) f0 f1 f3 f4 f5⟩
 self:=fun _ _ _ _ _ st h=>wpAny_pyIter_rangeiter st h
theorem rangeSize_down(a b:Int):Builtin.Range.rangeSize a b (-1)=if a>b then a-b else 0:=by
 unfold Builtin.Range.rangeSize;rw[if_neg (WD)];split<;>simp
theorem small_down{a b:Int}(ha:-(2^62)≤a)(Ov:a<2^62)(hb:-(2^62)≤b)(Ml:b<2^62):Builtin.Range.small a b (-1)=true:=by
 unfold Builtin.Range.small;rw[rangeSize_down];simp only[Builtin.Range.rangeFitsLong,Bool.and_eq_true,Bool.or_eq_true,decide_eq_true_eq,beq_iff_eq,show ¬(-1:Int)>0 by decide,if_false];split<;>lia
section
variable{X:Cx}{tg:Expr}
theorem HK{pins:List (Addr×Obj)}{σ:L2.St}{H:Hp}{s:Shared}{R:It→Hp→Prop}{E:Value→Shared→Prop}{hi lo:Int}{t u v:Tok}{tk:Nat}(I:Inv X pins σ H s)(h1:-(2^62)≤hi)(h2:hi<2^62)(h3:-(2^62)≤lo)(h4:lo<2^62)
  (q:R (Mt hi (hi-lo).toNat) H):wpAny (model X.prog X.w) X.A (pyIter (.ref s.heap.objs.size)) (Ri X pins σ tg R) E {s with heap:=s.heap.push {cls:= .type "range",data:= .fields #[.int hi t, .int lo u, .int (-1) v]},toks:=tk}:=by
 refine wpAny_pyIter_range (IsRange.new ..) (small_down h1 h2 h3 h4) ?_;have I1:Inv X pins σ H {s with heap:=s.heap.push {cls:= .type "range",data:= .fields #[.int hi t, .int lo u, .int (-1) v]},toks:=tk}:=I.kept fun b o e=>ZZ e
 refine⟨(s.heap.push {cls:= .type "range",data:= .fields #[.int hi t, .int lo u, .int (-1) v]}).objs.size,[(s.heap.push {cls:= .type "range",data:= .fields #[.int hi t, .int lo u, .int (-1) v]}).objs.size],_,_,H,rfl,
  I1.kept (t':=tk) fun b o e=>ZZ e,Dk _ hi (hi-lo).toNat,?_,fun b hb=>?_,q⟩
 ·have e1:hi+((0:Nat):Int)*(-1)=hi:=XU;have e2:(((hi-lo).toNat:Nat):Int)-((0:Nat):Int)=Builtin.Range.rangeSize hi lo (-1):=by rw[rangeSize_down];split<;>lia
  show IsRangeIter _ _ (hi+((0:Nat):Int)*(-1)) ((((hi-lo).toNat:Nat):Int)-((0:Nat):Int)) (-1);rw[e1,e2];exact Heap.get?_push_size _ rfl
 ·have e:b=(s.heap.push {cls:= .type "range",data:= .fields #[.int hi t, .int lo u, .int (-1) v]}).objs.size:=by simpa using hb
  subst e;exact I1.uM Β (I1.bX.fresh Β)
def Ox(ta:TA):TI:=fun σ H R=>ta σ H fun vs H1=>∃i j:Int,vs=[.int i, .int j, .int (-1)]∧(-(2^30)≤i∧i<2^30∧-(2^30)≤j∧j<2^30)∧R (Mt i (i-j).toNat) H1
theorem v7{a b c:Expr}{ta:TA}{p pos:Pos}(hg:Gl X "range")(hm:X.mg "range"=none)(ha:PA X [a,b,c] ta)(hs:starEach [a,b,c] X.env=[(false,eval a X.env),(false,eval b X.env),(false,eval c X.env)]:=by rfl)(Gj:starEach [b,c] X.env=[(false,eval b X.env),(false,eval c X.env)]:=by rfl):
  PI X tg (.Call (.Name "range" p) [a,b,c] [] pos) (Ox ta):=by
 intro pins s σ H R I h;refine Call_ (kH I hg hm boot_range (PyProof.Rows.callWith_type1 (cH (ha pos pins s σ H _ I h) fun us s1 ⟨vs,H1,I1,r1,q1⟩=>?_) (by rw[hs,Gj]) (by rw[Gj];rfl)));obtain⟨i,j,e,⟨q1,q2,q3,q4⟩,q⟩:=q1;subst e;cases r1 with
 |cons r rr=>
  cases rr with
  |cons r' rr=>
   cases rr with
   |cons r2 rr=>
    cases rr;obtain⟨t,rfl⟩:=r;obtain⟨t',rfl⟩:=r';obtain⟨t2,rfl⟩:=r2;exact call_range_3 (WD) (HK I1 IL (by lia) (by lia) (by lia) q) (Or.inl (PyProof.noPylong_small IL))
theorem y_{hi:Int}{n:Nat}{g:TG}{tb:TS}{D:Ends}{σ:L2.St}{H:Hp}(Pv:Nat→L2.St→Hp→Prop)(h0:Pv 0 σ H)
  (hs:∀i σ H,i<n→Pv i σ H→g (.int (hi-i)) σ H fun f' H2=>tb {D with nx:=Pv (i+1),ct:=Pv (i+1),bk:=D.nx} f' H2) (hd:∀σ H,Pv n σ H→D.nx σ H):
  ∃W:Nat→Nat→L2.St→Hp→Prop,(∃m,W 0 m σ H)∧∀i m σ H,W i m σ H→
   ((Mt hi n).stop i H∧D.nx σ H)∨((Mt hi n).go i H∧∃N:L2.St→Hp→Prop,(∀bx H',N bx H'→∃m',m'<m∧W (i+1) m' bx H')∧∀x H',(Mt hi n).GC i H x H'→g x σ H' fun f' H2=>tb {D with nx:=N,ct:=N,bk:=D.nx} f' H2):=by
 refine⟨fun i m σ H=>m=n-i∧i≤n∧Pv i σ H,⟨n,XU,Nat.zero_le _,h0⟩,?_⟩;rintro i m σ H ⟨rfl,BF,p⟩;by_cases hG:i<n
 ·refine .inr ⟨hG,Pv (i+1),fun bx H' p'=>⟨n-(i+1),by lia,rfl,hG,p'⟩,fun x H' y=>?_⟩;obtain⟨e,y⟩:=y;subst e y;exact hs i σ _ hG p
 ·have e:i=n:=by lia
  subst e;exact .inl ⟨Nat.le_refl _,hd σ H p⟩
end
theorem Dm{d:Addr}{o:Obj}{kvs:List (List Key×V)}{ls:List Str}{js:List Nat}{g:TG}{tt:TT}{te:TE}{σ:L2.St}{H1:Hp}{D:Addr}{Q:VK}(Pv:Nat→List V→L2.St→Hp→Prop)
  (h0:Pv 0 [] (lM ls js σ) (upd H1 D (.lst []))) (hl:∀i ys σ H,i≤kvs.length→Pv i ys σ H→H d=some (.sF o (.dT kvs)))
  (hs:∀i p ys σ H,kvs[i]?=some p→Pv i ys σ H→g p.2 σ H fun f' H3=>tt f' H3 fun b H4=>if b=true then te f' H4 fun y H5=>H5 D=some (.lst ys)∧ys.length<sizeLine∧Pv (i+1) (ys++[y]) f' (upd H5 D (.lst (ys++[y])))else Pv (i+1) ys f' H4)
  (hd:∀ys σ H,Pv kvs.length ys σ H→Q (.ref D) H):tE (R6 d o kvs) ls js g tt te σ H1 D Q:=
 oO (n:=kvs.length) Pv h0 (fun i ys σ H hi p=>⟨hl i ys σ H (Nat.le_of_lt hi) p,hi⟩) (fun ys σ H p=>⟨hl _ ys σ H Β p,Nat.le_refl _⟩)
  (fun i ys σ H x H2 hi p y=>by
   obtain⟨rfl,q,hq,rfl⟩:=y;exact hs i q ys σ _ hq p) hd
theorem FC{X:Cx}{cm:Bool}{k:Nat}{x:Str}{C:Addr}{ps:List Str}{mB:List V}{sp:Sp}{E:L2.St→XK}{p pos:Pos}(D:m6 X.prog X.w X.K X.mg X.base cm k x C ps mB sp)(hr:eZ cm (k+1) X.A)(hx:Passes (cV X.prog X.w) X E)(hg:Gl X x:=by rfl)(wB:(x==("__debug__":Str))=false:=by decide):
  PE X (.Call (.Name x p) [] [] pos) (Bx C sp mB E Ed):=by
 obtain⟨f,fd,ds,ok,M,hm,hb,hd⟩:=D;exact Eh M ok hr hg hm hb hd hx wB
end L2
namespace QF
open PySem L2
structure qH(H:Hp)(C x dx e b:Addr)(es bs:List Addr)(f:Nat→Nat→Option Int)(o p:Int)(n m:Nat):Prop where
 ob:H x=some (.ins C dx (gR o p e b))
 he:H e=some (.lst (es.map V.ref))
 te:jl H es (dH f o p) n m
 hb:H b=some (.lst (bs.map V.ref))
 tb:jl H bs (Bq f o p) (n+1) (m+1)
theorem qH.keep{H H':Hp}{C x dx e b:Addr}{es bs:List Addr}{f:Nat→Nat→Option Int}{o p:Int}{n m:Nat}(t:qH H C x dx e b es bs f o p n m)(s:au H H'):qH H' C x dx e b es bs f o p n m:=
 ⟨s _ _ t.ob,s _ _ t.he,t.te.same s,s _ _ t.hb,t.tb.same s⟩
theorem FG(o p:Int)(e b:Addr):(gR o p e b).lookup ("goes_on":Str)=none:=by kernel_rfl
theorem B9(o p:Int)(e b:Addr):(gR o p e b).lookup ("crossings_before":Str)=none:=by kernel_rfl
theorem Jr(o p:Int)(e b:Addr):(gR o p e b).lookup ("is_brought_by":Str)=none:=by kernel_rfl
theorem LA(o p:Int)(e b:Addr):(gR o p e b).lookup ("pair_before":Str)=none:=by kernel_rfl
theorem Oy(o p:Int)(e b:Addr):(gR o p e b).lookup ("way_to":Str)=none:=by kernel_rfl
def gS:Option Int→Bool
 |none=>false
 |some b=>decide (0≤b)
def bC(f:Nat→Nat→Option Int)(o p:Int)(i j:Nat):List Pr:=
 (if bF (Bq f o p i (j+1)) o=Bq f o p (i+1) (j+1)then[((i:Int),((j+1:Nat):Int))]else[])++(if bF (Bq f o p (i+1) j) p=Bq f o p (i+1) (j+1)then[(((i+1:Nat):Int),(j:Int))]else[])
def cP(f:Nat→Nat→Option Int)(o p:Int):Nat→Nat→Nat×Nat
 |0,_=>(0,0)
 | _+1,0=>(0,0)
 |i+1,j+1=>if dH f o p i j=Bq f o p (i+1) (j+1)then(i,j)else if bF (Bq f o p i (j+1)) o=Bq f o p (i+1) (j+1)then cP f o p i (j+1)else cP f o p (i+1) j
termination_by i j=>(i,j)
theorem kT(f:Nat→Nat→Option Int)(o p:Int):∀i j,0<i→0<j→(cP f o p i j).1<i∧(cP f o p i j).2<j∨Bq f o p i j=none
 |0,_,h,_=>Y7 h IL
 | _+1,0,_,h=>Y7 h IL
 |i+1,j+1,_,_=>by
  cases hB:Bq f o p (i+1) (j+1)with
  |none=>exact .inr rfl
  |some v=>
   left
   unfold cP;by_cases h1:dH f o p i j=Bq f o p (i+1) (j+1)
   ·rw[Z1 h1];exact⟨XU,XU⟩
   ·rw[ZY h1];by_cases h2:bF (Bq f o p i (j+1)) o=Bq f o p (i+1) (j+1)
    ·rw[Z1 h2];have hn:Bq f o p i (j+1)≠none:=fun z=>by rw[z,hB]at h2;simp[bF]at h2
     have hi:0<i:=by
      cases i with
      |zero=>exact Y7 (iR f o p (j+1)) hn
      |succ i=>lia
     rcases kT f o p i (j+1) hi IL with z|z
     ·exact⟨by lia,z.2⟩
     ·exact Y7 z hn
    ·rw[ZY h2];have hn:Bq f o p (i+1) j≠none:=fun z=>by
      have e:Bq f o p (i+1) (j+1)=oS [dH f o p i j,bF (Bq f o p i (j+1)) o,bF (Bq f o p (i+1) j) p]:=by
       rw[Bq];rfl
      rw[z]at e;have:bF none p=(none:Option Int):=rfl;rw[this]at e;have key:∀a b:Option Int,oS [a,b,none]=a∨oS [a,b,none]=b:=fun a b=>by
       cases a<;>cases b<;>simp[oS]
       rename_i x y
       by_cases AG:x≤y
       ·right;lia
       ·left;lia
      rcases key (dH f o p i j) (bF (Bq f o p i (j+1)) o)with k|k
      ·exact h1 (by rw[e,k])
      ·exact h2 (by rw[e,k])
     have hj:0<j:=by
      cases j with
      |zero=>exact Y7 (by unfold Bq;rfl) hn
      |succ j=>lia
     rcases kT f o p (i+1) j IL hj with z|z
     ·exact⟨z.1,by lia⟩
     ·exact Y7 z hn
termination_by i j=>(i,j)
def eP(f:Nat→Nat→Option Int)(o p:Int):Nat→Nat→Nat→List (Nat×Nat)
 |0,i,j=>[(i,j)]
 |k+1,i,j=>if gS (Bq f o p i j)=true then eP f o p k (cP f o p i j).1 (cP f o p i j).2++[(i,j)]else[(i,j)]
def aR(q:Nat×Nat):Pr:=((q.1:Int),(q.2:Int))
inductive qI(C CT:Addr)(vs:List V)(H:Hp)(Q:VK)(u3:XK):Prop
 |mk (x dx w t:Addr) (c:Case) (as:List Addr) (f:Nat→Nat→Option Int) (n m:Nat) (_:vs=[.ref x, .ref w, .ref t]) (_:H x=some (.ins C dx [])) (_:H dx=some (.own x)) (_:H w=some (.lst (as.map V.ref))) (_:jl H as f n m) (_:yO H CT t c) (_:n≤1000) (_:m≤1000) (_:∀H' e b,SameBut x H H'→H' x=some (.ins C dx (gR c.out c.into e b))→Tab H H' e (dH f c.out c.into) n m→(0<n→Tab H H' b (Bq f c.out c.into) (n+1) (m+1))→Q .cS H'):qI C CT vs H Q u3
inductive xl(C:Addr)(vs:List V)(H:Hp)(Q:VK)(u3:XK):Prop
 |mk (x dx e b:Addr) (es bs:List Addr) (f:Nat→Nat→Option Int) (o p:Int) (n m:Nat) (pr:Addr) (i j:Nat) (_:vs=[.ref x, .ref pr]) (_:qH H C x dx e b es bs f o p n m) (_:H pr=some (.tup [.int i, .int j])) (_:i≤n) (_:j≤m) (_:Q (.bl (gS (Bq f o p i j))) H):xl C vs H Q u3
inductive AO(C:Addr)(vs:List V)(H:Hp)(Q:VK)(u3:XK):Prop
 |mk (x dx e b:Addr) (es bs:List Addr) (f:Nat→Nat→Option Int) (o p:Int) (n m:Nat) (cr pr:Addr) (i j k l:Nat) (_:vs=[.ref x, .ref cr, .ref pr]) (_:qH H C x dx e b es bs f o p n m) (_:H cr=some (.tup [.int i, .int j])) (_:H pr=some (.tup [.int k, .int l])) (_:i≤n) (_:j≤m) (_:k<n) (_:l<m) (_:Q (.bl (decide (dH f o p k l=Bq f o p i j))) H):AO C vs H Q u3
inductive tR(C:Addr)(vs:List V)(H:Hp)(Q:VK)(u3:XK):Prop
 |mk (x dx e b:Addr) (es bs:List Addr) (f:Nat→Nat→Option Int) (o p:Int) (n m:Nat) (cr:Addr) (i j:Nat) (_:vs=[.ref x, .ref cr]) (_:qH H C x dx e b es bs f o p n m) (_:H cr=some (.tup [.int ((i+1:Nat):Int), .int ((j+1:Nat):Int)])) (_:i<n) (_:j<m) (_:∀H' r us,au H H'→H r=none→H' r=some (.lst us)→eF H' us (bC f o p i j)→Q (.ref r) H'):tR C vs H Q u3
inductive xm(C:Addr)(vs:List V)(H:Hp)(Q:VK)(u3:XK):Prop
 |mk (x dx e b:Addr) (es bs:List Addr) (f:Nat→Nat→Option Int) (o p:Int) (n m:Nat) (pr:Addr) (i j:Nat) (_:vs=[.ref x, .ref pr]) (_:qH H C x dx e b es bs f o p n m) (_:H pr=some (.tup [.int i, .int j])) (_:i≤n) (_:j≤m) (_:Bq f o p i j≠none) (_:∀H' r,au H H'→H' r=some (.tup (j_ (aR (cP f o p i j))))→Q (.ref r) H'):xm C vs H Q u3
inductive AQ(C:Addr)(vs:List V)(H:Hp)(Q:VK)(u3:XK):Prop
 |mk (x dx e b:Addr) (es bs:List Addr) (f:Nat→Nat→Option Int) (o p:Int) (n m:Nat) (pr:Addr) (i j:Nat) (_:vs=[.ref x, .ref pr]) (_:qH H C x dx e b es bs f o p n m) (_:H pr=some (.tup [.int i, .int j])) (_:i<n) (_:j<m) (_:n≤1000) (_:∀H' r us,au H H'→H r=none→H' r=some (.lst us)→eF H' us ((eP f o p i i j).map aR)→Q (.ref r) H'):AQ C vs H Q u3
theorem Xr(a b:Option Int):oS [a,b,none]=a∨oS [a,b,none]=b:=by
 cases a<;>cases b<;>simp[oS]
 rename_i x y
 by_cases AG:x≤y
 ·right;lia
 ·left;lia
theorem za{f:Nat→Nat→Option Int}{o p:Int}{i j:Nat}(hB:Bq f o p (i+1) (j+1)≠none)(h1:dH f o p i j≠Bq f o p (i+1) (j+1)):
  ∃i2 j2,(bC f o p i j)[0]?=some (aR (i2+1,j2+1))∧i2≤i∧j2≤j∧i2+j2<i+j∧Bq f o p (i2+1) (j2+1)≠none∧cP f o p (i2+1) (j2+1)=cP f o p (i+1) (j+1):=by
 by_cases h2:bF (Bq f o p i (j+1)) o=Bq f o p (i+1) (j+1)
 ·have hn:Bq f o p i (j+1)≠none:=fun z=>by rw[z]at h2;exact hB h2.symm
  cases i with
  |zero=>exact Y7 (iR f o p (j+1)) hn
  |succ i=>
   refine⟨i,j,?_,by lia,by lia,by lia,hn,?_⟩
   ·unfold bC;rw[Z1 h2];rfl
   ·conv=>rhs;unfold cP
    rw[ZY h1,Z1 h2]
 ·have hn:Bq f o p (i+1) j≠none:=fun z=>by
   have e:Bq f o p (i+1) (j+1)=oS [dH f o p i j,bF (Bq f o p i (j+1)) o,bF (Bq f o p (i+1) j) p]:=by rw[Bq];rfl
   rw[z,show bF none p=(none:Option Int)from rfl]at e;rcases Xr (dH f o p i j) (bF (Bq f o p i (j+1)) o)with k|k
   ·exact h1 (by rw[e,k])
   ·exact h2 (by rw[e,k])
  have h3:bF (Bq f o p (i+1) j) p=Bq f o p (i+1) (j+1):=by
   have e:Bq f o p (i+1) (j+1)=oS [dH f o p i j,bF (Bq f o p i (j+1)) o,bF (Bq f o p (i+1) j) p]:=by rw[Bq];rfl
   have key:∀a b c:Option Int,oS [a,b,c]≠a→oS [a,b,c]≠b→c=oS [a,b,c]:=fun a b c=>by
    cases a<;>cases b<;>cases c<;>simp[oS]<;>lia
   rw[e];exact key _ _ _ (fun z=>h1 (by rw[e];exact z.symm)) (fun z=>h2 (by rw[e];exact z.symm))
  cases j with
  |zero=>exact Y7 (by unfold Bq;rfl) hn
  |succ j=>
   refine⟨i,j,?_,by lia,by lia,by lia,hn,?_⟩
   ·unfold bC;rw[ZY h2,Z1 h3];rfl
   ·conv=>rhs;unfold cP
    rw[ZY h1,ZY h2]
theorem kj{f:Nat→Nat→Option Int}{o p:Int}{i j:Nat}(h:gS (Bq f o p i j)=true):0<i∧0<j∧Bq f o p i j≠none:=by
 have hn:Bq f o p i j≠none:=fun z=>by rw[z]at h;cases h
 refine⟨?_,?_,hn⟩
 ·cases i with
  |zero=>exact Y7 (iR f o p j) hn
  |succ i=>lia
 ·cases j with
  |zero=>cases i with
   |zero=>exact Y7 (iR f o p 0) hn
   |succ i=>exact Y7 (by unfold Bq;rfl) hn
  |succ j=>lia
theorem gZ{f:Nat→Nat→Option Int}{o p:Int}{i j:Nat}(h:¬gS (Bq f o p i j)=true):∀k,eP f o p k i j=[(i,j)]
 |0=>rfl
 |k+1=>by rw[eP,ZY h]
theorem Dn(f:Nat→Nat→Option Int)(o p:Int)(i:Nat):∀k k' j,i≤k→i≤k'→eP f o p k i j=eP f o p k' i j:=by
 induction i using Nat.strongRecOn with
 |ind i ih=>
  intro k k' j h h';by_cases hg:gS (Bq f o p i j)=true
  ·obtain⟨a,b,c⟩:=kj hg;have hl:=(kT f o p i j a b).resolve_right c;obtain⟨k,rfl⟩:∃k1,k=k1+1:=⟨k-1,by lia⟩
   obtain⟨k',rfl⟩:∃k1,k'=k1+1:=⟨k'-1,by lia⟩
   rw[eP,eP,Z1 hg,Z1 hg,ih _ hl.1 k k' _ (by lia) (by lia)]
  ·rw[gZ hg,gZ hg]
theorem v8{f:Nat→Nat→Option Int}{o p:Int}{i j:Nat}(h:gS (Bq f o p i j)=true):eP f o p i i j=eP f o p (cP f o p i j).1 (cP f o p i j).1 (cP f o p i j).2++[(i,j)]:=by
 obtain⟨a,b,c⟩:=kj h;have hl:=(kT f o p i j a b).resolve_right c;obtain⟨i,rfl⟩:∃k1,i=k1+1:=⟨i-1,by lia⟩
 rw[eP,Z1 h,Dn f o p _ i _ _ (by lia) (Nat.le_refl _)]
structure Js(K:W.Frag)(C:Addr):Prop where
 cl:wA K C
 worth:bY K C "worth"
 way:bY K C "way"
 row:bY K C "row"
 pairs:bY K C "pairs"
def m_(w:Int)(a r p:Addr):List (Str×V):=[("worth", .int w),("way", .ref a),("row", .ref r),("pairs", .ref p)]
theorem jn(w:Int)(a r p:Addr):(m_ w a r p).lookup ("worth":Str)=some (V.int w):=by kernel_rfl
theorem fS(w:Int)(a r p:Addr):(m_ w a r p).lookup ("way":Str)=some (V.ref a):=by kernel_rfl
theorem AR(w:Int)(a r p:Addr):(m_ w a r p).lookup ("row":Str)=some (V.ref r):=by kernel_rfl
theorem kn(w:Int)(a r p:Addr):(m_ w a r p).lookup ("pairs":Str)=some (V.ref p):=by kernel_rfl
theorem LB(w:Int)(a r p:Addr):bu "pairs" (.ref p) (bu "row" (.ref r) (bu "way" (.ref a) (bu "worth" (.int w) [])))=m_ w a r p:=by kernel_rfl
inductive tS(C:Addr)(vs:List V)(H:Hp)(Q:VK)(u3:XK):Prop
 |mk (x dx a r p:Addr) (w:Int) (_:vs=[.ref x, .int w, .ref a, .ref r, .ref p]) (_:H x=some (.ins C dx [])) (_:Q .cS (upd H x (.ins C dx (m_ w a r p)))):tS C vs H Q u3
inductive tT(C:Addr)(vs:List V)(H:Hp)(Q:VK)(u3:XK):Prop
 |mk (x dx a r p:Addr) (w:Int) (us:List V) (ps:List Pr) (_:vs=[.ref x]) (_:H x=some (.ins C dx (m_ w a r p))) (_:H p=some (.lst us)) (_:eF H us ps) (_:ps≠[]) (_:∀H' k t,au H H'→H' k=some (.tup [.int (-w), .ref t])→H' t=some (.tup [.int (jZ ps).1, .int (jZ ps).2])→Q (.ref k) H'):tT C vs H Q u3
inductive AS(C CF:Addr)(vs:List V)(H:Hp)(Q:VK)(u3:XK):Prop
 |mk (x dx e b:Addr) (es bs:List Addr) (f:Nat→Nat→Option Int) (o p:Int) (n m:Nat) (w:Int) (pr:Addr) (us:List V) (ps:List (Nat×Nat)) (q0:Nat×Nat) (_:vs=[.ref x, .int w, .ref pr]) (_:qH H C x dx e b es bs f o p n m) (_:H pr=some (.lst us)) (_:eF H us (ps.map aR)) (_:∀q∈ps,q.1<n∧q.2<m) (_:(ps.filter fun q=>decide (dH f o p q.1 q.2=some w))[0]?=some q0) (_:n≤1000) (_:ps.length≤5000)
  (_:∀H' y dy wy rw gT,au H H'→H y=none→H dy=none→H wy=none→H rw=none→H' y=some (.ins CF dy (m_ w wy rw pr))→H' dy=some (.own y)→H' wy=some (.lst gT)→eF H' gT ((eP f o p q0.1 q0.1 q0.2).map aR)→H' rw=some (.lst ((eP f o p q0.1 q0.1 q0.2).map fun q=>bB (dH f o p q.1 q.2)))→Q (.ref y) H'):AS C CF vs H Q u3
theorem B_{f:Nat→Nat→Option Int}{o p:Int}{n m:Nat}:∀k i j,i<n→j<m→∀q∈eP f o p k i j,q.1<n∧q.2<m
 |0,i,j,hi,hj,q,hq=>by
  have:q=(i,j):=by simpa[eP]using hq
  subst this;exact⟨hi,hj⟩
 |k+1,i,j,hi,hj,q,hq=>by
  by_cases h:gS (Bq f o p i j)=true
  ·rw[eP,Z1 h]at hq;obtain⟨a,b,c⟩:=kj h;have hl:=(kT f o p i j a b).resolve_right c;rcases List.mem_append.mp hq with z|z
   ·exact B_ k _ _ (by lia) (by lia) q z
   ·have:q=(i,j):=by simpa using z
    subst this;exact⟨hi,hj⟩
  ·rw[gZ h]at hq;have:q=(i,j):=by simpa using hq
   subst this;exact⟨hi,hj⟩
theorem zb{f:Nat→Nat→Option Int}{o p:Int}:∀k i j,(eP f o p k i j).length≤k+1
 |0,i,j=>by simp[eP]
 |k+1,i,j=>by
  by_cases h:gS (Bq f o p i j)=true
  ·rw[eP,Z1 h,List.length_append];have:=zb (f:=f) (o:=o) (p:=p) k (cP f o p i j).1 (cP f o p i j).2;simp
   lia
  ·rw[gZ h];simp
end QF
namespace L2
open PySem PySem.Spec PyProof.Rows PySem.W PySem.Calls
section
variable{X:Cx}
inductive HL(K:Frag)(x:V)(y:V)(H:Hp)(Q:VK):Prop
 |mk (p q:Addr) (xs ys:List V) (_:x= .ref p) (_:y= .ref q) (_:D6 K H p xs) (_:D6 K H q ys) (_:xs.all rC=true) (_:ys.all rC=true) (_:Q (.bl (!uP xs ys)) H):HL K x y H Q
theorem Dp(K:Frag)(hu:X.A.units<cLine)(hK:X.K=K:=by rfl):rz X (compareOp .NotEq) (HL K):=by
 subst hK;intro pins s σ H x y v u Q I rx ry h;obtain⟨p,q,xs,ys,rfl,rfl,hp,hq,f1,f2,k⟩:=h;cases rx;cases ry;obtain⟨its,r,pl,hz⟩:=I.tuple hp;obtain⟨e6,r2,KO,Gm⟩:=I.tuple hq;have he:=yP (A:=X.A.in1) (s:=s) r r2 f1 f2;obtain⟨⟨cls,dd,data,sl⟩,ho,hc,n,hd⟩:=id pl;obtain⟨⟨N5,Hg,data2,zK⟩,As,wN,n2,hd2⟩:=id KO;simp only at hc hd wN hd2;subst hc hd wN hd2;refine richCompare_meets_room (op:= .NotEq) ⟨_,ho,rfl⟩ ⟨_,As,rfl⟩ F.slot_tuple_ne F.entry_tuple_ne (F.args_tuple_ne_2 _ _) (SeqAt.tuple_neAt p q its.toArray e6.toArray n n2 dd Hg sl zK _) ⟨ho,As,he,?_⟩ hu;have e:(!((Zv (min its.toArray.size e6.toArray.size)).all (fun j=>wH (xs.getD j .cS) (ys.getD j .cS))&&its.toArray.size==e6.toArray.size))=!uP xs ys:=by
  rw[←nJ,r.length,r2.length];simp
 rw[e];exact⟨(fun x=>nomatch x), .bl (!uP xs ys),H,I,rfl,k⟩
end
end L2
namespace QF
open PySem L2
theorem dB{p q:Pr}(h:bb p=bb q):p=q:=by
 simp only[bb,List.cons.injEq,Sum.inl.injEq,and_true]at h;exact Prod.ext h.1 h.2
theorem len_sub{α:Type}[DecidableEq α]:∀(l m:List α),l.Nodup→(∀x∈l,x∈m)→l.length≤m.length
 |[],m,_,_=>XU
 |x::r,m,hn,h=>by
  have D1:=List.nodup_cons.mp hn;have hx:=h x (XU);have:=len_sub r (m.erase x) D1.2 fun y hy=>(List.mem_erase_of_ne (fun e:y=x=>D1.1 (by rw[←e];exact hy))).mpr (h y (by simp[hy]))
  rw[List.length_erase_of_mem hx]at this;have:=List.length_pos_of_mem hx;simp
  lia
def Jt(E:Pr→Pr→Prop)(p:Pr):Pr→Pr→Prop:=fun a b=>E a b∨(a=p∧b=p)
def qJ(E:Pr→Pr→Prop)(p q:Pr):Pr→Pr→Prop:=fun a b=>E a b∨((E a p∨E a q)∧(E b p∨E b q))
theorem Dq{E:Pr→Pr→Prop}{p q a b:Pr}:qJ E p q a b↔qJ E q p a b:=by
 unfold qJ;rw[or_comm (a:=E a p),or_comm (a:=E b p)]
structure oY(S:Addr→Prop)(H:Hp)(S':Addr→Prop)(H':Hp):Prop where
 grow:∀a,S' a→S a∨H a=none
 keep:∀a o,¬S a→H a=some o→H' a=some o
theorem oY.trans{S S' Qp:Addr→Prop}{H H' Qq:Hp}(a:oY S H S' H')(b:oY S' H' Qp Qq):oY S H Qp Qq:=by
 refine⟨fun x hx=>?_,fun x o hs hx=>b.keep x o (fun z=>?_) (a.keep x o hs hx)⟩
 ·rcases b.grow x hx with h|h
  ·exact a.grow x h
  ·by_cases hs:S x
   ·exact .inl hs
   ·right
    cases e:H x with
    |none=>rfl
    |some o=>rw[a.keep x o hs e]at h;cases h
 ·rcases a.grow x z with h|h
  ·exact hs h
  ·rw[hx]at h;cases h
theorem oY.same{S:Addr→Prop}{H H':Hp}(s:au H H'):oY S H S H':=⟨fun _ h=> .inl h,fun a o _ h=>s a o h⟩
theorem oY.put{S:Addr→Prop}{H:Hp}{a:Addr}{o:HO}(h:S a):oY S H S (upd H a o):=⟨fun _ h=> .inl h,fun b u hb e=>by rw[ao (fun z:b=a=>hb (by rw[z];exact h))];exact e⟩
structure Oz(K:W.Frag)(C:Addr):Prop where
 cl:wA K C
 oZ:bY K C "leads"
 members:bY K C "members"
def rG(dl dm:Addr):List (Str×V):=[("leads", .ref dl),("members", .ref dm)]
theorem jG(a b:Addr):(rG a b).lookup ("leads":Str)=some (V.ref a):=by kernel_rfl
theorem jd(a b:Addr):(rG a b).lookup ("members":Str)=some (V.ref b):=by kernel_rfl
theorem OA(a b:Addr):bu "members" (.ref b) (bu "leads" (.ref a) [])=rG a b:=by kernel_rfl
theorem OB(a b:Addr):(rG a b).lookup ("has":Str)=none:=by kernel_rfl
theorem FH(a b:Addr):(rG a b).lookup ("take_in":Str)=none:=by kernel_rfl
theorem Ca(a b:Addr):(rG a b).lookup ("unite":Str)=none:=by kernel_rfl
theorem LC(a b:Addr):(rG a b).lookup ("told":Str)=none:=by kernel_rfl
def LD(H:Hp)(v:Option V):Option Pr→Prop
 |none=>v=none
 |some l=>∃t,v=some (.ref t)∧H t=some (.tup (j_ l))
def SF(H:Hp)(S:Addr→Prop)(v:Option V):Option (List Pr)→Prop
 |none=>v=none
 |some ms=>∃a us,v=some (.ref a)∧H a=some (.lst us)∧eF H us ms∧S a
theorem LD.cF{H H':Hp}{v:Option V}{o:Option Pr}(h:LD H v o)(t:dW H H'):LD H' v o:=by
 cases o with
 |none=>exact h
 |some l=>obtain⟨a,h1,h2⟩:=h;exact⟨a,h1,t _ _ h2⟩
structure DS(H:Hp)(S:Addr→Prop)(dl dm:Addr)(kl km:List (List Key×V))(ld:Pr→Option Pr)(mm:Pr→Option (List Pr)):Prop where
 hl:H dl=some (.dT kl)
 hm:H dm=some (.dT km)
 sl:S dl
 sm:S dm
 ne:dl≠dm
 lv:∀p,LD H (bE kl (bb p)) (ld p)
 mv:∀p,SF H S (bE km (bb p)) (mm p)
 inj:∀p q a,bE km (bb p)=some (.ref a)→bE km (bb q)=some (.ref a)→p=q
 key:∀kv∈km,∃p,kv.1=bb p
 Cb:(km.map (·.1)).Nodup
 ms:∀l ms,mm l=some ms→ms.Nodup∧∀p,p∈ms↔ld p=some l
 ml:∀p l,ld p=some l→∃ms,mm l=some ms
 self:∀l ms,mm l=some ms→ld l=some l
theorem DS.keep{H H':Hp}{S:Addr→Prop}{dl dm:Addr}{kl km:List (List Key×V)}{ld:Pr→Option Pr}{mm:Pr→Option (List Pr)}(d:DS H S dl dm kl km ld mm)(h:∀a o,S a→H a=some o→H' a=some o)(t:dW H H'):DS H' S dl dm kl km ld mm:=by
 refine⟨h _ _ d.sl d.hl,h _ _ d.sm d.hm,d.sl,d.sm,d.ne,fun p=>(d.lv p).cF t,fun p=>?_,d.inj,d.key,d.Cb,d.ms,d.ml,d.self⟩;have:=d.mv p;cases e:mm p with
 |none=>rw[e]at this;exact this
 |some ms=>
  rw[e]at this;obtain⟨a,us,h1,h2,h3,h4⟩:=this;exact⟨a,us,h1,h _ _ h4 h2,h3.cF t,h4⟩
theorem DS.zJ{H:Hp}{S:Addr→Prop}{dl dm:Addr}{kl km:List (List Key×V)}{ld:Pr→Option Pr}{mm:Pr→Option (List Pr)}(d:DS H S dl dm kl km ld mm){ms:List Pr}(hn:ms.Nodup)(h:∀p∈ms,∃l,ld p=some l):ms.length≤kl.length:=by
 have:=len_sub (ms.map bb) (kl.map (·.1)) (List.Pairwise.map _ (fun a b FI z=>FI (dB z)) hn) fun k hk=>by
  obtain⟨p,hp,rfl⟩:=List.mem_map.mp hk;obtain⟨l,hl⟩:=h p hp;have:=d.lv p;rw[hl]at this;obtain⟨t,h1,_⟩:=this;exact BD h1
 simpa using this
theorem DS.take{H H':Hp}{S:Addr→Prop}{dl dm a t:Addr}{kl km:List (List Key×V)}{ld:Pr→Option Pr}{mm:Pr→Option (List Pr)}{p:Pr}(d:DS H S dl dm kl km ld mm)(hn:ld p=none)(ht:H t=some (.tup (j_ p)))(ha:H a=none)
  (h1:H' dl=some (.dT (putK kl (bb p) (.ref t)))) (h2:H' dm=some (.dT (putK km (bb p) (.ref a)))) (h3:H' a=some (.lst [.ref t])) (hk:∀b o,b≠dl→b≠dm→H b=some o→H' b=some o):
  DS H' (fun x=>S x∨x=a) dl dm (putK kl (bb p) (.ref t)) (putK km (bb p) (.ref a)) (fun q=>if q=p then some p else ld q) (fun q=>if q=p then some [p]else mm q):=by
 have T:dW H H':=fun b v hb=>hk b _ (fun z=>by rw[z,d.hl]at hb;cases hb) (fun z=>by rw[z,d.hm]at hb;cases hb) hb
 have U2:mm p=none:=by
  cases e:mm p with
  |none=>rfl
  |some ms=>have:=d.self p ms e;rw[hn]at this;cases this
 have FJ:bE km (bb p)=none:=by have:=d.mv p;rw[U2]at this;exact this
 have OC:∀q b,bE km (bb q)=some (.ref b)→b≠a:=fun q b hq z=>by
  have:=d.mv q;cases e:mm q with
  |none=>rw[e]at this;have:bE km (bb q)=none:=this;rw[this]at hq;cases hq
  |some ms=>
   rw[e]at this;obtain⟨a',us,e1,e2,_⟩:=this;rw[hq]at e1;cases e1;rw[z,ha]at e2;cases e2
 refine⟨h1,h2, .inl d.sl, .inl d.sm,d.ne,fun q=>?_,fun q=>?_,fun q r b hq hr=>?_,fun kv Qr=>?_,?_,fun l ms hl=>?_,fun q l hq=>?_,fun l ms hl=>?_⟩
 ·rw[ji];by_cases e:q=p
  ·rw[Z1 (by rw[e]),Z1 e];exact⟨t,rfl,T _ _ ht⟩
  ·rw[ZY (fun z=>e (dB z)),ZY e];exact(d.lv q).cF T
 ·show SF _ _ _ (if q=p then some [p]else mm q);rw[ji];by_cases e:q=p
  ·rw[Z1 (by rw[e]),Z1 e];exact⟨a,_,rfl,h3,eF.one (T _ _ ht), .inr rfl⟩
  ·rw[ZY (fun z=>e (dB z)),ZY e];have:=d.mv q;cases e2:mm q with
   |none=>rw[e2]at this;exact this
   |some ms=>
    rw[e2]at this;obtain⟨b,us,z1,z2,z3,z4⟩:=this;exact⟨b,us,z1,hk b _ (fun z=>by rw[z,d.hl]at z2;cases z2) (fun z=>by rw[z,d.hm]at z2;cases z2) z2,z3.cF T, .inl z4⟩
 ·rw[ji]at hq hr;by_cases e:q=p
  ·by_cases e2:r=p
   ·rw[e,e2]
   ·rw[Z1 (by rw[e])]at hq;rw[ZY (fun z=>e2 (dB z))]at hr;cases hq;exact absurd rfl (OC r _ hr)
  ·rw[ZY (fun z=>e (dB z))]at hq;by_cases e2:r=p
   ·rw[Z1 (by rw[e2])]at hr;cases hr;exact absurd rfl (OC q _ hq)
   ·rw[ZY (fun z=>e2 (dB z))]at hr;exact d.inj q r b hq hr
 ·rw[s_ _ FJ]at Qr;rcases List.mem_append.mp Qr with z|z
  ·exact d.key kv z
  ·exact⟨p,by rw[List.mem_singleton.mp z]⟩
 ·rw[s_ _ FJ,List.map_append];refine List.nodup_append.mpr ⟨d.Cb,XU,fun x hx y hy e=>?_⟩;have hy:y=bb p:=by simpa using hy
  rw[e,hy]at hx;exact yJ FJ hx
 ·have hl:(if l=p then some [p]else mm l)=some ms:=hl;by_cases e:l=p
  ·rw[Z1 e]at hl;cases hl;refine⟨XU,fun q=>?_⟩;rw[List.mem_singleton];show q=p↔(if q=p then some p else ld q)=some l;by_cases e2:q=p
   ·rw[Z1 e2,e];simp[e2]
   ·rw[ZY e2];refine⟨fun z=>Y7 z e2,fun z=>?_⟩;obtain⟨ms,DT⟩:=d.ml q l z;rw[e,U2]at DT;cases DT
  ·rw[ZY e]at hl;obtain⟨z1,z2⟩:=d.ms l ms hl;refine⟨z1,fun q=>?_⟩;rw[z2];show ld q=some l↔(if q=p then some p else ld q)=some l;by_cases e2:q=p
   ·rw[Z1 e2,e2,hn];refine⟨fun z=>(by cases z),fun z=>Y7 (Zu z).symm e⟩
   ·rw[ZY e2]
 ·have hq:(if q=p then some p else ld q)=some l:=hq;show ∃ms,(if l=p then some [p]else mm l)=some ms;by_cases e:l=p
  ·exact⟨[p],Z1 e⟩
  ·rw[ZY e];by_cases e2:q=p
   ·rw[Z1 e2]at hq;exact Y7 (Zu hq).symm e
   ·rw[ZY e2]at hq;exact d.ml q l hq
 ·have hl:(if l=p then some [p]else mm l)=some ms:=hl;show(if l=p then some p else ld l)=some l;by_cases e:l=p
  ·rw[Z1 e,e]
  ·rw[ZY e]at hl⊢;exact d.self l ms hl
theorem Cc{κ:Type}[DecidableEq κ]{k:κ}{v:V}:∀{kvs:List (κ×V)}{i:Nat},(kvs.map (·.1)).Nodup→kvs[i]?=some (k,v)→bE kvs k=some v
 |[],i,_,h=>by simp at h
 |p::r,0,_,h=>by
  have h:p=(k,v):=by simpa using h
  subst h;exact cI rfl
 |p::r,i+1,hn,h=>by
  have D1:=List.nodup_cons.mp (show(p.1::r.map (·.1)).Nodup from hn);have h:r[i]?=some (k,v):=by simpa using h
  rw[cy (fun e=>D1.1 (by rw[e];exact List.mem_map.mpr ⟨_,ZS h,rfl⟩))];exact Cc D1.2 h
theorem zc{κ:Type}[DecidableEq κ]{k:κ}{v:V}:∀{kvs:List (κ×V)},bE kvs k=some v→∃i:Nat,kvs[i]?=some (k,v)
 |[],h=>by cases h
 |p::r,h=>by
  by_cases e:p.1=k
  ·rw[cI e]at h;exact⟨0,by simp;exact Prod.ext e (Zu h)⟩
  ·rw[cy e]at h;obtain⟨i,hi⟩:=zc h;exact⟨i+1,by simpa using hi⟩
theorem mG{κ:Type}[DecidableEq κ](k j:κ):∀kvs:List (κ×V),bE (jh kvs k) j=if j=k then none else bE kvs j
 |[]=>by simp[jh,bE]
 |p::r=>by
  have ih:=mG k j r;unfold jh at ih⊢;rw[List.filter_cons];by_cases e:p.1=k
  ·rw[ZY (by simpa using e),ih];by_cases e2:j=k
   ·rw[Z1 e2,Z1 e2]
   ·rw[ZY e2,ZY e2,cy (fun z=>e2 (z.symm.trans e))]
  ·rw[Z1 (by simpa using e)];by_cases e2:p.1=j
   ·rw[cI e2,ZY (fun z=>e (e2.trans z)),cI e2]
   ·rw[cy e2,ih,cy e2]
theorem DS.OD{H H':Hp}{S:Addr→Prop}{dl dm al tl:Addr}{kl uQ km:List (List Key×V)}{ld:Pr→Option Pr}{mm:Pr→Option (List Pr)}{l g:Pr}{m1 m2:List Pr}{fT gT:List V}(d:DS H S dl dm kl km ld mm)(Cd:l≠g)(h1:mm l=some m1)(h2:mm g=some m2)(Ce:bE km (bb l)=some (.ref al))(P1:eF H fT m1)(P2:eF H gT m2)(Ry:H al=some (.lst fT))(zd:H tl=some (.tup (j_ l)))
  (SG:∀r,bE uQ (bb r)=if r∈m2 then some (.ref tl)else bE kl (bb r)) (e1:H' dl=some (.dT uQ)) (e2:H' dm=some (.dT (jh km (bb g)))) (e3:H' al=some (.lst (fT++gT))) (hk:∀b o,b≠dl→b≠dm→b≠al→H b=some o→H' b=some o):
  DS H' S dl dm uQ (jh km (bb g)) (fun r=>if r∈m2 then some l else ld r) (fun r=>if r=g then none else if r=l then some (m1++m2)else mm r):=by
 have T:dW H H':=fun b v hb=>hk b _ (fun z=>by rw[z,d.hl]at hb;cases hb) (fun z=>by rw[z,d.hm]at hb;cases hb) (fun z=>by rw[z,Ry]at hb;cases hb) hb
 obtain⟨n1,q1⟩:=d.ms l m1 h1;obtain⟨n2,q2⟩:=d.ms g m2 h2;refine⟨e1,e2,d.sl,d.sm,d.ne,fun r=>?_,fun r=>?_,fun p q a hp hq=>?_,fun kv Qr=>d.key kv (List.mem_filter.mp Qr).1,d.Cb.sublist (List.filter_sublist.map _),fun x ms hx=>?_,fun p x hp=>?_,fun x ms hx=>?_⟩
 ·show LD H' _ (if r∈m2 then some l else ld r);rw[SG];by_cases e:r∈m2
  ·rw[Z1 e,Z1 e];exact⟨tl,rfl,T _ _ zd⟩
  ·rw[ZY e,ZY e];exact(d.lv r).cF T
 ·show SF H' S _ (if r=g then none else if r=l then some (m1++m2)else mm r);rw[mG];by_cases e:r=g
  ·rw[Z1 (by rw[e]),Z1 e];rfl
  ·rw[ZY (fun z=>e (dB z)),ZY e];by_cases e4:r=l
   ·rw[Z1 e4,e4,Ce];have:=d.mv l;rw[h1]at this;obtain⟨a,us,z1,_,_,z4⟩:=this;rw[Ce]at z1;cases z1;exact⟨al,_,rfl,e3,(P1.append P2).cF T,z4⟩
   ·rw[ZY e4];have:=d.mv r;cases e5:mm r with
    |none=>rw[e5]at this;exact this
    |some ms=>
     rw[e5]at this;obtain⟨a,us,z1,z2,z3,z4⟩:=this;exact⟨a,us,z1,hk a _ (fun z=>by rw[z,d.hl]at z2;cases z2) (fun z=>by rw[z,d.hm]at z2;cases z2) (fun z=>e4 (d.inj r l al (by rw[z1,z]) Ce)) z2,z3.cF T,z4⟩
 ·rw[mG]at hp hq;by_cases e:p=g
  ·rw[Z1 (by rw[e])]at hp;cases hp
  ·by_cases e4:q=g
   ·rw[Z1 (by rw[e4])]at hq;cases hq
   ·rw[ZY (fun z=>e (dB z))]at hp;rw[ZY (fun z=>e4 (dB z))]at hq;exact d.inj p q a hp hq
 ·have hx:(if x=g then none else if x=l then some (m1++m2)else mm x)=some ms:=hx;by_cases e:x=g
  ·rw[Z1 e]at hx;cases hx
  ·rw[ZY e]at hx;by_cases e4:x=l
   ·rw[Z1 e4]at hx;cases hx;refine⟨List.nodup_append.mpr ⟨n1,n2,fun a ha b hb z=>?_⟩,fun p=>?_⟩
    ·have ha:=(q1 a).mp ha;have hb:=(q2 b).mp hb;rw[z,hb]at ha;exact Cd (Zu ha).symm
    ·rw[List.mem_append];show p∈m1∨p∈m2↔(if p∈m2 then some l else ld p)=some x;rw[e4];by_cases e5:p∈m2
     ·rw[Z1 e5];simp[e5]
     ·rw[ZY e5,←q1];simp[e5]
   ·rw[ZY e4]at hx;obtain⟨z1,z2⟩:=d.ms x ms hx;refine⟨z1,fun p=>?_⟩;rw[z2];show ld p=some x↔(if p∈m2 then some l else ld p)=some x;by_cases e5:p∈m2
    ·rw[Z1 e5,(q2 p).mp e5];exact⟨fun z=>Y7 (Zu z).symm e,fun z=>Y7 (Zu z).symm e4⟩
    ·rw[ZY e5]
 ·have hp:(if p∈m2 then some l else ld p)=some x:=hp;show ∃ms,(if x=g then none else if x=l then some (m1++m2)else mm x)=some ms;by_cases e5:p∈m2
  ·rw[Z1 e5]at hp;cases hp;exact⟨m1++m2,by rw[ZY Cd,if_pos rfl]⟩
  ·rw[ZY e5]at hp;have hg:x≠g:=fun z=>e5 ((q2 p).mpr (by rw[hp,z]))
   by_cases e4:x=l
   ·exact⟨m1++m2,by rw[ZY hg,Z1 e4]⟩
   ·obtain⟨ms,DT⟩:=d.ml p x hp;exact⟨ms,by rw[ZY hg,ZY e4];exact DT⟩
 ·have hx:(if x=g then none else if x=l then some (m1++m2)else mm x)=some ms:=hx;show(if x∈m2 then some l else ld x)=some x;by_cases e:x=g
  ·rw[Z1 e]at hx;cases hx
  ·rw[ZY e]at hx;have U3:ld x=some x:=by
    by_cases e4:x=l
    ·rw[e4];exact d.self l m1 h1
    ·rw[ZY e4]at hx;exact d.self x ms hx
   have:x∉m2:=fun z=>by
    have:=(q2 x).mp z;rw[U3]at this;exact e (Zu this)
   rw[ZY this,U3]
theorem LF{ld:Pr→Option Pr}{l g p q:Pr}{m2:List Pr}(Cd:l≠g)(hp:ld p=some l)(hq:ld q=some g)(q2:∀r,r∈m2↔ld r=some g){E:Pr→Pr→Prop}(hE:∀a b,E a b↔∃x,ld a=some x∧ld b=some x)(a b:Pr):
  qJ E p q a b↔∃x,(if a∈m2 then some l else ld a)=some x∧(if b∈m2 then some l else ld b)=some x:=by
 have A:∀c,(E c p∨E c q)↔(if c∈m2 then some l else ld c)=some l:=fun c=>by
  rw[hE,hE,hp,hq];by_cases e:c∈m2
  ·rw[Z1 e,(q2 c).mp e];simp
  ·rw[ZY e];have:ld c≠some g:=fun z=>e ((q2 c).mpr z)
   constructor
   ·rintro(⟨x,h1,h2⟩|⟨x,h1,h2⟩)
    ·cases h2;exact h1
    ·cases h2;exact Y7 h1 this
   ·exact fun z=> .inl ⟨l,z,rfl⟩
 unfold qJ;rw[A,A,hE];constructor
 ·rintro(⟨x,h1,h2⟩|⟨h1,h2⟩)
  ·by_cases e:x=g
   ·subst e;exact⟨l,by rw[Z1 ((q2 a).mpr h1)],by rw[Z1 ((q2 b).mpr h2)]⟩
   ·exact⟨x,by rw[ZY (fun z=>e (by have:=(q2 a).mp z;rw[h1]at this;exact Zu this))];exact h1,by rw[ZY (fun z=>e (by have:=(q2 b).mp z;rw[h2]at this;exact Zu this))];exact h2⟩
  ·exact⟨l,h1,h2⟩
 ·rintro⟨x,h1,h2⟩;by_cases e:x=l
  ·subst e;exact .inr ⟨h1,h2⟩
  ·left
   refine⟨x,?_,?_⟩
   ·by_cases e2:a∈m2
    ·rw[Z1 e2]at h1;exact Y7 (Zu h1).symm e
    ·rw[ZY e2]at h1;exact h1
   ·by_cases e2:b∈m2
    ·rw[Z1 e2]at h2;exact Y7 (Zu h2).symm e
    ·rw[ZY e2]at h2;exact h2
def j1(H:Hp)(C g:Addr)(S:Addr→Prop)(E:Pr→Pr→Prop)(B:Nat):Prop:=
 ∃dg dl dm kl km ld mm,H g=some (.ins C dg (rG dl dm))∧¬S g∧DS H S dl dm kl km ld mm∧(∀a b,E a b↔∃l,ld a=some l∧ld b=some l)∧kl.length≤B∧km.length≤B
theorem j1.keep{H H':Hp}{C g:Addr}{S:Addr→Prop}{E:Pr→Pr→Prop}{B:Nat}(G:j1 H C g S E B)(h:∀a o,S a→H a=some o→H' a=some o)(t:dW H H')(hg:∀o,H g=some o→H' g=some o):j1 H' C g S E B:=by
 obtain⟨dg,dl,dm,kl,km,ld,mm,a1,a2,a3,a4⟩:=G;exact⟨dg,dl,dm,kl,km,ld,mm,hg _ a1,a2,a3.keep h t,a4⟩
theorem j1.same{H H':Hp}{C g:Addr}{S:Addr→Prop}{E:Pr→Pr→Prop}{B:Nat}(G:j1 H C g S E B)(s:au H H'):j1 H' C g S E B:=G.keep (fun a o _ h=>s a o h) (dW.same s) (fun o h=>s _ _ h)
theorem j1.iff{H:Hp}{C g:Addr}{S:Addr→Prop}{E E':Pr→Pr→Prop}{B B':Nat}(G:j1 H C g S E B)(h:∀a b,E' a b↔E a b)(hB:B≤B'):j1 H C g S E' B':=by
 obtain⟨dg,dl,dm,kl,km,ld,mm,a1,a2,a3,a4,a5,a6⟩:=G;exact⟨dg,dl,dm,kl,km,ld,mm,a1,a2,a3,fun a b=>(h a b).trans (a4 a b),by lia,by lia⟩
structure Told(E:Pr→Pr→Prop)(gs:List (List Pr)):Prop where
 tQ:∀ps∈gs,ps.Pairwise fun p q=>ki p q=true
 ne:∀ps∈gs,ps≠[]
 cls:∀ps∈gs,∀a∈ps,∀b,b∈ps↔E a b
 all:∀a,E a a→∃ps∈gs,a∈ps
 apart:gs.Pairwise fun ps qs=>∀a∈ps,a∉qs
inductive tU(C:Addr)(vs:List V)(H:Hp)(Q:VK)(u3:XK):Prop
 |mk (x dx:Addr) (_:vs=[.ref x]) (_:H x=some (.ins C dx [])) (_:∀H' S,SameBut x H H'→(∀a,S a→H a=none)→j1 H' C x S (fun _ _=>False) 0→Q .cS H'):tU C vs H Q u3
inductive AU(C:Addr)(vs:List V)(H:Hp)(Q:VK)(u3:XK):Prop
 |mk (x t:Addr) (p:Pr) (S:Addr→Prop) (E:Pr→Pr→Prop) (B:Nat) (_:vs=[.ref x, .ref t]) (_:j1 H C x S E B) (_:H t=some (.tup (j_ p))) (_:∀b:Bool,(b=true↔E p p)→Q (.bl b) H):AU C vs H Q u3
inductive xn(C:Addr)(vs:List V)(H:Hp)(Q:VK)(u3:XK):Prop
 |mk (x t:Addr) (p:Pr) (S:Addr→Prop) (E:Pr→Pr→Prop) (B:Nat) (_:vs=[.ref x, .ref t]) (_:j1 H C x S E B) (_:H t=some (.tup (j_ p))) (_:B≤10000) (_:∀H' S',oY S H S' H'→j1 H' C x S' (Jt E p) (B+1)→Q .cS H'):xn C vs H Q u3
inductive tV(C:Addr)(vs:List V)(H:Hp)(Q:VK)(u3:XK):Prop
 |mk (x t u:Addr) (p q:Pr) (S:Addr→Prop) (E:Pr→Pr→Prop) (B:Nat) (_:vs=[.ref x, .ref t, .ref u]) (_:j1 H C x S E B) (_:H t=some (.tup (j_ p))) (_:H u=some (.tup (j_ q))) (_:E p p) (_:E q q) (_:B≤10000) (_:∀H',oY S H S H'→j1 H' C x S (qJ E p q) B→Q .cS H'):tV C vs H Q u3
inductive xo(C:Addr)(vs:List V)(H:Hp)(Q:VK)(u3:XK):Prop
 |mk (x:Addr) (S:Addr→Prop) (E:Pr→Pr→Prop) (B:Nat) (_:vs=[.ref x]) (_:j1 H C x S E B) (_:B<10000) (_:∀H' r us gs,oY S H S H'→H r=none→H' r=some (.lst us)→fF H' us gs→(∀(k:Nat) a,us[k]?=some (.ref a)→H a=none)→Told E gs→Q (.ref r) H'):xo C vs H Q u3
theorem AV(g:Pr→Option Int)(o i:Int){as:List Pr}(eJ:as≠[])(q:Pr)(bs:List Pr):vl g o i (as++q::bs)=vl g o i as-gp o i (lstP as) q+vl g o i (q::bs):=by
 rw[xf,oU g o i eJ]
 lia
theorem Wy.app{g:Pr→Option Int}{as:List Pr}{q:Pr}{bs:List Pr}(a:Wy g as)(b:Wy g (q::bs))(s:qD (lstP as) q):Wy g (as++q::bs):=by
 refine⟨XU,fun x hx=>?_,ζ ⟨a.up,b.up,fun x hx y hy=>?_⟩⟩
 ·rcases List.mem_append.mp hx with h|h
  ·exact a.ok x h
  ·exact b.ok x h
 ·have h1:qD x q:=by
   rcases pw_lst a.up hx with e|e
   ·rw[e];exact s
   ·exact qE e s
  rcases List.mem_cons.mp hy with e|e
  ·rw[e];exact h1
  ·exact qE h1 ((List.pairwise_cons.mp b.up).1 y e)
theorem Wy.left{g:Pr→Option Int}{as bs:List Pr}(w:Wy g (as++bs))(h:as≠[]):Wy g as:=⟨h,fun x hx=>w.ok x (δ hx),(List.pairwise_append.mp w.up).1⟩
theorem Wy.right{g:Pr→Option Int}{as bs:List Pr}(w:Wy g (as++bs))(h:bs≠[]):Wy g bs:=⟨h,fun x hx=>w.ok x (Μ hx),(List.pairwise_append.mp w.up).2.1⟩
section
variable(f:Nat→Nat→Option Int)(o p W:Int)
def BW(ps:List Pr):Prop:=Wy (lf f) ps∧vl (lf f) o p ps=W
def fg:Prop:=∀ps,Wy (lf f) ps→vl (lf f) o p ps≤W
inductive gQ:Pr→Pr→Prop
 |way {a b:Pr} (ps:List Pr) (_:BW f o p W ps) (_:a∈ps) (_:b∈ps):gQ a b
 |tr {a b c:Pr} (_:gQ a b) (_:gQ b c):gQ a c
def uR(as:List Pr)(x y:Int):Int:=vl (lf f) o p as-(o*(x-1-(lstP as).1)+p*(y-1-(lstP as).2))
def OE(q:Pr)(bs:List Pr)(x y:Int):Int:=vl (lf f) o p (q::bs)-(o*(q.1-x)+p*(q.2-y))
def Over(x y:Int)(r:Pr):Prop:=∃as q bs,Wy (lf f) as∧Wy (lf f) (q::bs)∧(lstP as).1<x∧(lstP as).2<y∧x≤q.1∧y≤q.2∧vl (lf f) o p (as++q::bs)=W∧r∈q::bs
end
section
variable{f:Nat→Nat→Option Int}{o p W:Int}
theorem gQ.symm{a b:Pr}(h:gQ f o p W a b):gQ f o p W b a:=by
 induction h with
 |way ps h1 h2 h3=>exact .way ps h1 h3 h2
 |tr _ _ i1 i2=>exact .tr i2 i1
theorem gQ.left{a b:Pr}(h:gQ f o p W a b):gQ f o p W a a:= .tr h h.symm
theorem gQ.on{a b:Pr}(h:gQ f o p W a b):∃ps,BW f o p W ps∧a∈ps:=by
 induction h with
 |way ps h1 h2 h3=>exact⟨ps,h1,h2⟩
 |tr _ _ i1 _=>exact i1
theorem nN{as:List Pr}{q:Pr}{bs:List Pr}(eJ:as≠[])(x y:Int):vl (lf f) o p (as++q::bs)=uR f o p as x y+OE f o p q bs x y:=by
 rw[AV _ _ _ eJ];unfold uR OE gp;have e1:q.1-(lstP as).1-1=(x-1-(lstP as).1)+(q.1-x):=by lia
 have e2:q.2-(lstP as).2-1=(y-1-(lstP as).2)+(q.2-y):=by lia
 rw[e1,e2,Int.mul_add,Int.mul_add]
 lia
theorem mH(T:fg f o p W){as yn:List Pr}{q:Pr}{bs:List Pr}{x y:Int}(a:Wy (lf f) as)(b:Wy (lf f) (q::bs))(h3:x≤q.1)(h4:y≤q.2)(hW:vl (lf f) o p (as++q::bs)=W)
  (a':Wy (lf f) yn) (l1:(lstP yn).1<x) (l2:(lstP yn).2<y) (hb:uR f o p as x y≤uR f o p yn x y):BW f o p W (yn++q::bs):=by
 have w:=a'.app b ⟨by lia,by lia⟩;refine⟨w,?_⟩;have:=T _ w;rw[nN a'.ne x y]at this⊢;rw[nN a.ne x y]at hW
 lia
theorem xp{as:List Pr}{i j:Nat}(a:Wy (lf f) as)(l1:(lstP as).1<(i:Int))(l2:(lstP as).2<(j:Int)):∃b,Bq f o p i j=some b∧uR f o p as i j≤b:=by
 have m:=f7 f o p i j;cases e:Bq f o p i j with
 |none=>rw[e]at m;exact Y7 ⟨as,a,l1,l2,rfl⟩ (m _)
 |some b=>rw[e]at m;exact⟨b,rfl,m.2 _ ⟨as,a,l1,l2,rfl⟩⟩
theorem xq{i j:Nat}{b:Int}(e:Bq f o p i j=some b):∃as,Wy (lf f) as∧(lstP as).1<(i:Int)∧(lstP as).2<(j:Int)∧uR f o p as i j=b:=by
 have m:=f7 f o p i j;rw[e]at m;obtain⟨as,h1,h2,h3,h4⟩:=m.1;exact⟨as,h1,h2,h3,h4.symm⟩
theorem mI{i j:Nat}{b:Int}(e:dH f o p i j=some b):∃as,Wy (lf f) as∧lstP as=aR (i,j)∧vl (lf f) o p as=b:=by
 have m:=tO f o p i j;rw[e]at m;obtain⟨as,h1,h2,h3⟩:=m.1;exact⟨as,h1,h2,h3.symm⟩
theorem xr{as:List Pr}{i j:Nat}(a:Wy (lf f) as)(l:lstP as=aR (i,j)):∃b,dH f o p i j=some b∧vl (lf f) o p as≤b:=by
 have m:=tO f o p i j;cases e:dH f o p i j with
 |none=>rw[e]at m;exact Y7 ⟨as,a,l,rfl⟩ (m _)
 |some b=>rw[e]at m;exact⟨b,rfl,m.2 _ ⟨as,a,l,rfl⟩⟩
theorem FK{i j:Nat}(e:dH f o p i j=some W):gQ f o p W (aR (i,j)) (aR (i,j)):=by
 obtain⟨as,h1,h2,h3⟩:=mI e;have:aR (i,j)∈as:=by rw[←h2];exact dA h1.ne
 exact .way as ⟨h1,h3⟩ this this
theorem Dr(T:fg f o p W){i j:Nat}{r:Pr}(h:Over f o p W ((i+1:Nat):Int) ((j+1:Nat):Int) r)(e:dH f o p i j=Bq f o p (i+1) (j+1)):gQ f o p W (aR (i,j)) r:=by
 obtain⟨as,q,bs,a,b,l1,l2,l3,l4,hW,hr⟩:=h;obtain⟨v,hv,hle⟩:=xp (o:=o) (p:=p) a l1 l2;rw[hv]at e;obtain⟨yn,a',k1,k2⟩:=mI e;have hb:uR f o p yn ((i+1:Nat):Int) ((j+1:Nat):Int)=v:=by
  unfold uR;rw[k1,k2];have e1:((i+1:Nat):Int)-1-(aR (i,j)).1=0:=by show((i+1:Nat):Int)-1-(i:Int)=0;lia
  have e2:((j+1:Nat):Int)-1-(aR (i,j)).2=0:=by show((j+1:Nat):Int)-1-(j:Int)=0;lia
  rw[e1,e2,Int.mul_zero,Int.mul_zero];lia
 have:=mH T a b l3 l4 hW a' (by rw[k1];simp[aR];lia) (by rw[k1];simp[aR];lia) (by rw[hb];exact hle);refine .way _ this (δ ?_) (Μ hr);rw[←k1];exact dA a'.ne
theorem rH(T:fg f o p W){i j x y:Nat}{r:Pr}{c:Int}(h:Over f o p W ((i+1:Nat):Int) ((j+1:Nat):Int) r)(hx:x≤i+1)(hy:y≤j+1)(hc:c=o*((i+1:Nat)-x:Int)+p*((j+1:Nat)-y:Int))(e:bF (Bq f o p x y) c=Bq f o p (i+1) (j+1)):Over f o p W (x:Int) (y:Int) r:=by
 obtain⟨as,q,bs,a,b,l1,l2,l3,l4,hW,hr⟩:=h;obtain⟨v,hv,hle⟩:=xp (o:=o) (p:=p) a l1 l2;rw[hv]at e;cases e2:Bq f o p x y with
 |none=>rw[e2]at e;cases e
 |some v2=>
  rw[e2]at e;have e:v2-c=v:=by simpa[bF]using e
  obtain⟨yn,a',k1,k2,k3⟩:=xq e2;have hb:uR f o p yn ((i+1:Nat):Int) ((j+1:Nat):Int)=v:=by
   unfold uR at k3⊢;have e1:((i+1:Nat):Int)-1-(lstP yn).1=((x:Int)-1-(lstP yn).1)+((i+1:Nat)-x:Int):=by lia
   have e2:((j+1:Nat):Int)-1-(lstP yn).2=((y:Int)-1-(lstP yn).2)+((j+1:Nat)-y:Int):=by lia
   rw[e1,e2,Int.mul_add,Int.mul_add]
   lia
  have:=mH T a b l3 l4 hW a' IL (by lia) (by rw[hb];exact hle);exact⟨yn,q,bs,a',b,k1,k2,by lia,by lia,this.2,hr⟩
theorem HM(T:fg f o p W){i j:Nat}(h:gQ f o p W (aR (i,j)) (aR (i,j)))(g:gS (Bq f o p i j)=true):Over f o p W (i:Int) (j:Int) (aR (i,j)):=by
 obtain⟨ws,⟨hw,hW⟩,hm⟩:=h.on;obtain⟨u,v,rfl⟩:=List.append_of_mem hm;cases e:Bq f o p i j with
 |none=>rw[e]at g;cases g
 |some b=>
  rw[e]at g;have g:0≤b:=by simpa[gS]using g
  obtain⟨as,a,k1,k2,k3⟩:=xq e;have hr:Wy (lf f) (aR (i,j)::v):=hw.right Xs;have ws:=a.app hr ⟨k1,k2⟩;have hle:=T _ ws;have cv:=nN (f:=f) (o:=o) (p:=p) (q:=aR (i,j)) (bs:=v) a.ne (i:Int) (j:Int);have ha:OE f o p (aR (i,j)) v (i:Int) (j:Int)=vl (lf f) o p (aR (i,j)::v):=by
   unfold OE;have e1:(aR (i,j)).1-(i:Int)=0:=by simp[aR]
   have e2:(aR (i,j)).2-(j:Int)=0:=by simp[aR]
   rw[e1,e2,Int.mul_zero,Int.mul_zero];lia
  have aaL:W≤b+vl (lf f) o p (aR (i,j)::v):=by
   by_cases hu:u=[]
   ·subst hu;simp only[List.nil_append]at hW
    lia
   ·have cu:=nN (f:=f) (o:=o) (p:=p) (q:=aR (i,j)) (bs:=v) hu (i:Int) (j:Int);have Qs:Wy (lf f) u:=hw.left hu;have hs:qD (lstP u) (aR (i,j)):=(List.pairwise_append.mp hw.up).2.2 _ (dA hu) _ (XU);obtain⟨b2,rJ,aaT⟩:=xp (o:=o) (p:=p) Qs (i:=i) (j:=j) hs.1 hs.2;rw[e]at rJ;cases rJ
    lia
  exact⟨as,aR (i,j),v,a,hr,k1,k2,by simp[aR],by simp[aR],by lia,XU⟩
theorem over_over(T:fg f o p W){x y:Int}{r r':Pr}(h:Over f o p W x y r)(h':Over f o p W x y r'):gQ f o p W r r':=by
 obtain⟨as,q,bs,a,b,l1,l2,l3,l4,hW,hr⟩:=h;obtain⟨yn,q',Xu,a',b',k1,k2,k3,k4,U4,LG⟩:=h';have w1:BW f o p W (as++q::bs):=⟨a.app b ⟨by lia,by lia⟩,hW⟩
 have w2:BW f o p W (yn++q'::Xu):=⟨a'.app b' ⟨by lia,by lia⟩,U4⟩
 by_cases hb:uR f o p as x y≤uR f o p yn x y
 ·have:=mH T a b l3 l4 hW a' k1 k2 hb;exact .tr (.way (b:=lstP yn) _ this (Μ hr) (δ (dA a'.ne))) (.way _ w2 (δ (dA a'.ne)) (Μ LG))
 ·have:=mH T a' b' k3 k4 U4 a l1 l2 IL;exact .tr (.way (b:=lstP as) _ w1 (Μ hr) (δ (dA a.ne))) (.way _ this (δ (dA a.ne)) (Μ LG))
theorem between(T:fg f o p W){u v:List Pr}{q r:Nat×Nat}(w:BW f o p W (u++aR q::aR r::v)):
  (∀x y:Nat,q.1<x→q.2<y→x≤r.1→y≤r.2→Bq f o p x y=some (uR f o p (u++[aR q]) x y))∧dH f o p q.1 q.2=some (vl (lf f) o p (u++[aR q]))∧0≤uR f o p (u++[aR q]) r.1 r.2:=by
 obtain⟨w,hW⟩:=w;have e:u++aR q::aR r::v=(u++[aR q])++aR r::v:=XU;rw[e]at w hW;have hl:Wy (lf f) (u++[aR q]):=w.left Xs;have hr:Wy (lf f) (aR r::v):=w.right Xs;have ls:lstP (u++[aR q])=aR q:=dO;have mz:qD (aR q) (aR r):=by
  have:=(List.pairwise_append.mp w.up).2.2 _ (dA hl.ne) (aR r) (XU);rw[ls]at this;exact this
 refine⟨fun x y h1 h2 h3 h4=>?_,?_,?_⟩
 ·have c1:(lstP (u++[aR q])).1<(x:Int):=by rw[ls];simp[aR];lia
  have c2:(lstP (u++[aR q])).2<(y:Int):=by rw[ls];simp[aR];lia
  obtain⟨b,hb,hle⟩:=xp (o:=o) (p:=p) hl c1 c2;rw[hb]
  congr 1
  obtain⟨as,a,k1,k2,k3⟩:=xq hb;have wa:=a.app hr ⟨by simp[aR];lia,by simp[aR];lia⟩;have:=T _ wa;rw[nN a.ne (x:Int) (y:Int)]at this;rw[nN hl.ne (x:Int) (y:Int)]at hW
  lia
 ·obtain⟨b,hb,hle⟩:=xr (o:=o) (p:=p) hl (i:=q.1) (j:=q.2) ls;rw[hb]
  congr 1
  obtain⟨as,a,k1,k2⟩:=mI hb;have wa:=a.app hr (by rw[k1];exact mz);have:=T _ wa;rw[AV _ _ _ a.ne,k1,show aR (q.1,q.2)=aR q from rfl]at this;rw[AV _ _ _ hl.ne,ls]at hW
  lia
 ·have:=T _ hr;rw[nN hl.ne (r.1:Int) (r.2:Int)]at hW;unfold OE at hW;have e1:(aR r).1-(r.1:Int)=0:=by simp[aR]
  have e2:(aR r).2-(r.2:Int)=0:=by simp[aR]
  rw[e1,e2,Int.mul_zero,Int.mul_zero]at hW
  lia
end
abbrev GS:=(Pr→Pr→Prop)×(Pr→Option Pr)
def ze(s:GS)(c r:Pr):GS:=
 match s.2 c with
 |some r0=>(qJ s.1 r0 r,s.2)
 |none=>(s.1,fun x=>if x=c then some r else s.2 x)
section
variable(f:Nat→Nat→Option Int)(o p W:Int)
def Ju(i j:Nat)(s:GS)(r:Pr):GS:=(if dH f o p i j=Bq f o p (i+1) (j+1)then qJ (Jt s.1 (aR (i,j))) (aR (i,j)) r else s.1,s.2)
def LH(i j:Nat)(s:GS)(r:Pr):GS:=(bC f o p i j).foldl (fun s c=>ze s c r) (Ju f o p i j s r)
def HN(i j:Nat)(s:GS):GS:=(if dH f o p i j=some W then Jt s.1 (aR (i,j))else s.1,s.2)
def DU(i j:Nat)(s:GS):GS:=
 match s.2 (aR (i+1,j+1))with
 |some r=>LH f o p i j (HN f o p W i j s) r
 |none=>HN f o p W i j s
open Classical in
noncomputable def zP(i j:Nat)(s:GS):GS:=if (DU f o p W i j s).1 (aR (i,j)) (aR (i,j))∧gS (Bq f o p i j)=true then ze (DU f o p W i j s) (aR (i,j)) (aR (i,j))else DU f o p W i j s
structure iA(s:GS):Prop where
 sy:∀a b,s.1 a b→s.1 b a
 tr:∀a b c,s.1 a b→s.1 b c→s.1 a c
 hg:∀a b,s.1 a b→gQ f o p W a b
 mr:∀c r,s.2 c=some r→s.1 r r∧∃i j:Nat,c=aR (i,j)∧Over f o p W (i:Int) (j:Int) r
end
structure Gw(s s':GS)(N:Pr→Prop)(M:Pr→Prop):Prop where
 e:∀a b,s.1 a b→s'.1 a b
 n:∀a,s'.1 a a→s.1 a a∨N a
 m:∀c r,s.2 c=some r→s'.2 c=some r
 k:∀c r,s'.2 c=some r→s.2 c=some r∨M c
theorem Gw.refl{s:GS}{N M:Pr→Prop}:Gw s s N M:=⟨fun _ _ h=>h,fun _ h=> .inl h,fun _ _ h=>h,fun _ _ h=> .inl h⟩
theorem Gw.trans{s s' wC:GS}{N M:Pr→Prop}(a:Gw s s' N M)(b:Gw s' wC N M):Gw s wC N M:=
 ⟨fun x y h=>b.e x y (a.e x y h),fun x h=>(b.n x h).elim (a.n x) .inr,fun c r h=>b.m c r (a.m c r h),fun c r h=>(b.k c r h).elim (a.k c r) .inr⟩
theorem Gw.wide{s s':GS}{N M N' M':Pr→Prop}(a:Gw s s' N M)(hN:∀x,N x→N' x)(hM:∀x,M x→M' x):Gw s s' N' M':=⟨a.e,fun x h=>(a.n x h).imp id (hN x),a.m,fun c r h=>(a.k c r h).imp id (hM c)⟩
section
variable{f:Nat→Nat→Option Int}{o p W:Int}{s:GS}
theorem iA.U5(k:iA f o p W s){a b:Pr}(ha:s.1 a a)(hb:s.1 b b)(h:gQ f o p W a b):iA f o p W (qJ s.1 a b,s.2):=by
 have hc:∀c,s.1 c a∨s.1 c b→gQ f o p W c a:=fun c h'=>h'.elim (k.hg c a) fun z=> .tr (k.hg c b z) h.symm
 refine⟨fun x y h=>?_,fun x y z h1 h2=>?_,fun x y h=>?_,fun c r h=>⟨.inl (k.mr c r h).1,(k.mr c r h).2⟩⟩
 ·exact h.imp (k.sy x y) fun h=>⟨h.2,h.1⟩
 ·rcases h1 with h1|⟨h1,Mm⟩
  ·rcases h2 with h2|⟨h2,Je⟩
   ·exact .inl (k.tr _ _ _ h1 h2)
   ·exact .inr ⟨h2.imp (k.tr _ _ _ h1) (k.tr _ _ _ h1),Je⟩
  ·rcases h2 with h2|⟨h2,Je⟩
   ·exact .inr ⟨h1,Mm.imp (k.tr _ _ _ (k.sy _ _ h2)) (k.tr _ _ _ (k.sy _ _ h2))⟩
   ·exact .inr ⟨h1,Je⟩
 ·rcases h with h|⟨h1,h2⟩
  ·exact k.hg x y h
  ·exact .tr (hc x h1) (hc y h2).symm
theorem iA.take(k:iA f o p W s){a:Pr}(h:gQ f o p W a a):iA f o p W (Jt s.1 a,s.2):=by
 refine⟨fun x y h=>?_,fun x y z h1 h2=>?_,fun x y h'=>?_,fun c r h=>⟨.inl (k.mr c r h).1,(k.mr c r h).2⟩⟩
 ·exact h.imp (k.sy x y) fun h=>⟨h.2,h.1⟩
 ·rcases h1 with h1|⟨h1,Mm⟩
  ·rcases h2 with h2|⟨h2,Je⟩
   ·exact .inl (k.tr _ _ _ h1 h2)
   ·subst h2 Je;exact .inl h1
  ·subst h1 Mm;exact h2
 ·rcases h' with h'|⟨h1,h2⟩
  ·exact k.hg x y h'
  ·subst h1 h2;exact h
theorem FN(sy:∀a b,s.1 a b→s.1 b a)(tr:∀a b c,s.1 a b→s.1 b c→s.1 a c){a b:Pr}:Gw s (qJ s.1 a b,s.2) (fun _=>False) (fun _=>False):=by
 refine⟨fun _ _ h=> .inl h,fun x h=> .inl ?_,fun _ _ h=>h,fun _ _ h=> .inl h⟩;rcases h with h|⟨h,_⟩
 ·exact h
 ·exact h.elim (fun z=>tr _ _ _ z (sy _ _ z)) fun z=>tr _ _ _ z (sy _ _ z)
theorem iA.mark(T:fg f o p W)(k:iA f o p W s){i j:Nat}{r:Pr}(hr:s.1 r r)(ov:Over f o p W (i:Int) (j:Int) r):iA f o p W (ze s (aR (i,j)) r):=by
 unfold ze;cases e:s.2 (aR (i,j))with
 |some r0=>
  obtain⟨h1,i2,j2,h2,h3⟩:=k.mr _ _ e;have h2:(i:Int)=i2∧(j:Int)=j2:=by simpa[aR]using h2
  rw[←h2.1,←h2.2]at h3;exact k.U5 h1 hr (over_over T h3 ov)
 |none=>
  refine⟨k.sy,k.tr,k.hg,fun c r' h=>?_⟩;have h:(if c=aR (i,j)then some r else s.2 c)=some r':=h;by_cases e2:c=aR (i,j)
  ·rw[Z1 e2]at h;cases h;exact⟨hr,i,j,e2,ov⟩
  ·rw[ZY e2]at h;exact k.mr c r' h
theorem Jv(k:iA f o p W s){c r:Pr}:Gw s (ze s c r) (fun _=>False) (·=c):=by
 unfold ze;cases e:s.2 c with
 |some r0=>exact(FN k.sy k.tr).wide (fun _ h=>h) fun _ h=>h.elim
 |none=>
  refine⟨fun _ _ h=>h,fun _ h=> .inl h,fun c' r' h=>?_,fun c' r' h=>?_⟩
  ·show(if c'=c then some r else s.2 c')=some r';rw[ZY (fun z=>by rw[z,e]at h;cases h)];exact h
  ·have h:(if c'=c then some r else s.2 c')=some r':=h;by_cases e2:c'=c
   ·exact .inr e2
   ·rw[ZY e2]at h;exact .inl h
theorem FO(k:iA f o p W s){c r:Pr}(hr:s.1 r r):∃r',(ze s c r).2 c=some r'∧(ze s c r).1 r r':=by
 unfold ze;cases e:s.2 c with
 |some r0=>exact⟨r0,e, .inr ⟨.inr hr, .inl (k.mr _ _ e).1⟩⟩
 |none=>exact⟨r,XU,hr⟩
theorem tW(T:fg f o p W){r:Pr}:∀(cs:List Pr)(s:GS),iA f o p W s→s.1 r r→(∀c∈cs,∃i j:Nat,c=aR (i,j)∧Over f o p W (i:Int) (j:Int) r)→
  iA f o p W (cs.foldl (fun s c=>ze s c r) s)∧Gw s (cs.foldl (fun s c=>ze s c r) s) (fun _=>False) (·∈cs)∧∀c∈cs,∃r',(cs.foldl (fun s c=>ze s c r) s).2 c=some r'∧(cs.foldl (fun s c=>ze s c r) s).1 r r'
 |[],s,k,_,_=>⟨k, .refl,fun c h=>by cases h⟩
 |c::cs,s,k,hr,h=>by
  obtain⟨i,j,rfl,ov⟩:=h c (XU);have k1:=k.mark T hr ov;have g1:=Jv k (c:=aR (i,j)) (r:=r);obtain⟨r',m1,m2⟩:=FO k (c:=aR (i,j)) hr;obtain⟨a1,a2,a3⟩:=tW T cs _ k1 (g1.e _ _ hr) fun c hc=>h c (by simp[hc])
  refine⟨a1,(g1.wide (fun _ h=>h) fun x hx=>?_).trans (a2.wide (fun _ h=>h) fun x hx=>?_),fun c hc=>?_⟩
  ·show x∈_::_;rw[hx];simp
  ·exact Ρ hx
  ·rcases List.mem_cons.mp hc with rfl|hc
   ·exact⟨r',a2.m _ _ m1,a2.e _ _ m2⟩
   ·exact a3 c hc
theorem rK(T:fg f o p W){i j:Nat}{r:Pr}(h:Over f o p W ((i+1:Nat):Int) ((j+1:Nat):Int) r):∀c∈bC f o p i j,∃x y:Nat,c=aR (x,y)∧Over f o p W (x:Int) (y:Int) r:=by
 intro c hc;unfold bC at hc;rcases List.mem_append.mp hc with hc|hc
 ·split at hc
  ·rename_i e
   have:c=aR (i,j+1):=by simpa[aR]using hc
   refine⟨i,j+1,this,rH T h IL (by lia) ?_ e⟩;have e1:((i+1:Nat):Int)-(i:Int)=1:=by lia
   have e2:((j+1:Nat):Int)-((j+1:Nat):Int)=0:=by lia
   rw[e1,e2];lia
  ·cases hc
 ·split at hc
  ·rename_i e
   have:c=aR (i+1,j):=by simpa[aR]using hc
   refine⟨i+1,j,this,rH T h IL (by lia) ?_ e⟩;have e1:((i+1:Nat):Int)-((i+1:Nat):Int)=0:=by lia
   have e2:((j+1:Nat):Int)-(j:Int)=1:=by lia
   rw[e1,e2];lia
  ·cases hc
theorem FP(T:fg f o p W)(k:iA f o p W s){i j:Nat}{r:Pr}(hr:s.1 r r)(ov:Over f o p W ((i+1:Nat):Int) ((j+1:Nat):Int) r):
  iA f o p W (Ju f o p i j s r)∧Gw s (Ju f o p i j s r) (·=aR (i,j)) (·∈bC f o p i j)∧(dH f o p i j=Bq f o p (i+1) (j+1)→(Ju f o p i j s r).1 (aR (i,j)) r):=by
 unfold Ju;by_cases e:dH f o p i j=Bq f o p (i+1) (j+1)
 ·rw[Z1 e];have h:=Dr T ov e;have k1:=k.take h.left;have k2:=k1.U5 (a:=aR (i,j)) (b:=r) (.inr ⟨rfl,rfl⟩) (.inl hr) h;refine⟨k2,⟨fun a b h=> .inl (.inl h),fun a h=>?_,fun _ _ h=>h,fun _ _ h=> .inl h⟩,fun _=> .inr ⟨.inl (.inr ⟨rfl,rfl⟩), .inr (.inl hr)⟩⟩;rcases(FN (s:=(Jt s.1 (aR (i,j)),s.2)) k1.sy k1.tr).n a h with h|h
  ·exact h.imp id And.left
  ·exact h.elim
 ·rw[ZY e];exact⟨⟨k.sy,k.tr,k.hg,k.mr⟩, .refl,fun z=>Y7 z e⟩
theorem OF(T:fg f o p W)(k:iA f o p W s){i j:Nat}{r:Pr}(hr:s.1 r r)(ov:Over f o p W ((i+1:Nat):Int) ((j+1:Nat):Int) r):
  iA f o p W (LH f o p i j s r)∧Gw s (LH f o p i j s r) (·=aR (i,j)) (·∈bC f o p i j)∧(dH f o p i j=Bq f o p (i+1) (j+1)→(LH f o p i j s r).1 (aR (i,j)) r)∧∀c∈bC f o p i j,∃r',(LH f o p i j s r).2 c=some r'∧(LH f o p i j s r).1 r r':=by
 obtain⟨b1,b2,b3⟩:=FP T k hr ov;obtain⟨a1,a2,a3⟩:=tW T (bC f o p i j) _ b1 (b2.e _ _ hr) (rK T ov);exact⟨a1,b2.trans (a2.wide (fun _ h=>h.elim) fun _ h=>h),fun e=>a2.e _ _ (b3 e),a3⟩
theorem FQ(k:iA f o p W s)(i j:Nat):iA f o p W (HN f o p W i j s)∧Gw s (HN f o p W i j s) (·=aR (i,j)) (fun _=>False)∧(dH f o p i j=some W→(HN f o p W i j s).1 (aR (i,j)) (aR (i,j))):=by
 unfold HN;by_cases e:dH f o p i j=some W
 ·rw[Z1 e];exact⟨k.take (FK e),⟨fun _ _ h=> .inl h,fun _ h=>h.imp id And.left,fun _ _ h=>h,fun _ _ h=> .inl h⟩,fun _=> .inr ⟨rfl,rfl⟩⟩
 ·rw[ZY e];exact⟨⟨k.sy,k.tr,k.hg,k.mr⟩, .refl,fun z=>Y7 z e⟩
def LI(f:Nat→Nat→Option Int)(o p:Int)(i j:Nat)(c:Pr):Prop:=c∈bC f o p i j∨c=aR (i,j)
theorem FR(T:fg f o p W)(k:iA f o p W s)(i j:Nat):iA f o p W (DU f o p W i j s)∧Gw s (DU f o p W i j s) (·=aR (i,j)) (LI f o p i j)∧(dH f o p i j=some W→(DU f o p W i j s).1 (aR (i,j)) (aR (i,j)))∧∀r,s.2 (aR (i+1,j+1))=some r→
  (dH f o p i j=Bq f o p (i+1) (j+1)→(DU f o p W i j s).1 (aR (i,j)) r)∧∀c∈bC f o p i j,∃r',(DU f o p W i j s).2 c=some r'∧(DU f o p W i j s).1 r r':=by
 obtain⟨k1,g1,e1⟩:=FQ k i j;unfold DU;cases e:s.2 (aR (i+1,j+1))with
 |none=>exact⟨k1,g1.wide (fun _ h=>h) fun _ h=>h.elim,e1,fun r h=>by cases h⟩
 |some r=>
  obtain⟨h1,i2,j2,h2,h3⟩:=k.mr _ _ e;have h2:((i+1:Nat):Int)=i2∧((j+1:Nat):Int)=j2:=by simpa[aR]using h2
  rw[←h2.1,←h2.2]at h3;obtain⟨a1,a2,a3,a4⟩:=OF T k1 (g1.e _ _ h1) h3;refine⟨a1,(g1.wide (fun _ h=>h) fun _ h=>h.elim).trans (a2.wide (fun _ h=>h) fun _ h=> .inl h),fun z=>a2.e _ _ (e1 z),fun r' h=>?_⟩;cases h;exact⟨a3,a4⟩
theorem OG(T:fg f o p W)(k:iA f o p W s)(i j:Nat):iA f o p W (zP f o p W i j s)∧Gw s (zP f o p W i j s) (·=aR (i,j)) (LI f o p i j)∧(dH f o p i j=some W→(zP f o p W i j s).1 (aR (i,j)) (aR (i,j)))∧(∀r,s.2 (aR (i+1,j+1))=some r→
  (dH f o p i j=Bq f o p (i+1) (j+1)→(zP f o p W i j s).1 (aR (i,j)) r)∧∀c∈bC f o p i j,∃r',(zP f o p W i j s).2 c=some r'∧(zP f o p W i j s).1 r r')∧
  ((zP f o p W i j s).1 (aR (i,j)) (aR (i,j))→gS (Bq f o p i j)=true→∃r,(zP f o p W i j s).2 (aR (i,j))=some r∧(zP f o p W i j s).1 (aR (i,j)) r):=by
 obtain⟨k1,g1,e1,o1⟩:=FR T k i j;unfold zP;split
 ·rename_i h
  have k2:=k1.mark T h.1 (HM T (k1.hg _ _ h.1) h.2);have g2:=Jv k1 (c:=aR (i,j)) (r:=aR (i,j));refine⟨k2,g1.trans (g2.wide (fun _ h=>h.elim) fun _ h=> .inr h),fun z=>g2.e _ _ (e1 z),fun r hr=>?_,fun _ _=>FO k1 h.1⟩;obtain⟨a1,a2⟩:=o1 r hr;refine⟨fun z=>g2.e _ _ (a1 z),fun c hc=>?_⟩;obtain⟨r',b1,b2⟩:=a2 c hc;exact⟨r',g2.m _ _ b1,g2.e _ _ b2⟩
 ·rename_i h
  exact⟨k1,g1,e1,o1,fun h1 h2=>Y7 ⟨h1,h2⟩ h⟩
end
structure Vd(f:Nat→Nat→Option Int)(o p W:Int)(V:Nat→Nat→Prop)(s:GS):Prop where
 ok:iA f o p W s
 Xv:∀a,s.1 a a→∃i j:Nat,a=aR (i,j)∧V i j
 en:∀i j,V i j→dH f o p i j=some W→s.1 (aR (i,j)) (aR (i,j))
 on:∀i j,V i j→s.1 (aR (i,j)) (aR (i,j))→gS (Bq f o p i j)=true→∃r,s.2 (aR (i,j))=some r∧s.1 (aR (i,j)) r
 ov:∀i j r,V i j→s.2 (aR (i+1,j+1))=some r→(dH f o p i j=Bq f o p (i+1) (j+1)→s.1 (aR (i,j)) r)∧∀c∈bC f o p i j,∃r',s.2 c=some r'∧s.1 r r'
theorem iS{a b c d:Nat}(h:aR (a,b)=aR (c,d)):a=c∧b=d:=by
 have h:(a:Int)=c∧(b:Int)=d:=by simpa[aR]using h
 lia
theorem FT{f:Nat→Nat→Option Int}{o p:Int}{i j a b:Nat}(h:LI f o p i j (aR (a+1,b+1))):(a+1=i∧b+1=j)∨(a+1=i∧b=j)∨(a=i∧b+1=j):=by
 rcases h with h|h
 ·unfold bC at h;rcases List.mem_append.mp h with h|h
  ·split at h
   ·have:aR (a+1,b+1)=aR (i,j+1):=by simpa[aR]using h
    have:=iS this
    lia
   ·cases h
  ·split at h
   ·have:aR (a+1,b+1)=aR (i+1,j):=by simpa[aR]using h
    have:=iS this
    lia
   ·cases h
 ·have:=iS h
  lia
def Vb(n m i j:Nat)(a b:Nat):Prop:=a<n∧b<m∧(i<a∨(i=a∧j≤b))
theorem Vd.start(f:Nat→Nat→Option Int)(o p W:Int)(n m:Nat):Vd f o p W (Vb n m n 0) (fun _ _=>False,fun _=>none):=by
 have no:∀a b,¬Vb n m n 0 a b:=fun a b ⟨h1,_,h2⟩=>by lia
 exact⟨⟨fun _ _ h=>h.elim,fun _ _ _ h=>h.elim,fun _ _ h=>h.elim,fun _ _ h=>(by cases h)⟩,fun _ h=>h.elim,fun i j h=>Y7 h (no i j),fun i j h=>Y7 h (no i j),fun i j r h=>Y7 h (no i j)⟩
theorem Vd.turn{f:Nat→Nat→Option Int}{o p W:Int}{n m i:Nat}{s:GS}(v:Vd f o p W (Vb n m (i+1) 0) s):Vd f o p W (Vb n m i m) s:=by
 have e:Vb n m (i+1) 0=Vb n m i m:=by
  funext a b
  simp only[Vb,eq_iff_iff]
  lia
 rw[←e];exact v
theorem Vd.next{f:Nat→Nat→Option Int}{o p W:Int}{n m i j:Nat}{s:GS}(T:fg f o p W)(hi:i<n)(hj:j<m)(v:Vd f o p W (Vb n m i (j+1)) s):Vd f o p W (Vb n m i j) (zP f o p W i j s):=by
 obtain⟨k,g,e,ov,on⟩:=OG T v.ok i j;have cut:∀a b,Vb n m i j a b→(a=i∧b=j)∨Vb n m i (j+1) a b:=fun a b h=>by
  unfold Vb at h⊢
  lia
 have old:∀a b r,Vb n m i j a b→(zP f o p W i j s).2 (aR (a+1,b+1))=some r→s.2 (aR (a+1,b+1))=some r:=fun a b r h hr=>by
  rcases g.k _ _ hr with z|z
  ·exact z
  ·have:=FT z;unfold Vb at h
   lia
 refine⟨k,fun a ha=>?_,fun a b h he=>?_,fun a b h h1 h2=>?_,fun a b r h hr=>?_⟩
 ·rcases g.n a ha with z|z
  ·obtain⟨x,y,h1,h2⟩:=v.Xv a z;exact⟨x,y,h1,by unfold Vb at h2⊢;lia⟩
  ·exact⟨i,j,z,by unfold Vb;lia⟩
 ·rcases cut a b h with⟨rfl,rfl⟩|h'
  ·exact e he
  ·exact g.e _ _ (v.en a b h' he)
 ·rcases cut a b h with⟨rfl,rfl⟩|h'
  ·exact on h1 h2
  ·have hs:s.1 (aR (a,b)) (aR (a,b)):=by
    rcases g.n _ h1 with z|z
    ·exact z
    ·have:=iS z;unfold Vb at h'
     lia
   obtain⟨r,z1,z2⟩:=v.on a b h' hs h2;exact⟨r,g.m _ _ z1,g.e _ _ z2⟩
 ·have LG:=old a b r h hr;rcases cut a b h with⟨rfl,rfl⟩|h'
  ·exact ov r LG
  ·obtain⟨z1,z2⟩:=v.ov a b r h' LG;refine⟨fun z=>g.e _ _ (z1 z),fun c hc=>?_⟩;obtain⟨r',y1,y2⟩:=z2 c hc;exact⟨r',g.m _ _ y1,g.e _ _ y2⟩
theorem j4{f:Nat→Nat→Option Int}{n m:Nat}(t:DO f n m){ps:List Pr}(w:Wy (lf f) ps){a:Pr}(h:a∈ps):∃i j:Nat,a=aR (i,j)∧i<n∧j<m:=by
 have hs:=w.ok a h;obtain⟨i,j,rfl⟩:=BU hs;rw[qF]at hs;obtain⟨h1,h2⟩:=t i j hs;exact⟨i,j,rfl,h1,h2⟩
theorem Vd.step{f:Nat→Nat→Option Int}{o p W:Int}{n m:Nat}{s:GS}(T:fg f o p W)(v:Vd f o p W (Vb n m 0 0) s){us vs:List Pr}{q r:Nat×Nat}(w:BW f o p W (us++aR q::aR r::vs))(hr:r.1<n)(zQ:r.2<m)(hq:q.1<r.1)(FU:q.2<r.2)(hE:s.1 (aR r) (aR r)):s.1 (aR q) (aR r):=by
 obtain⟨b1,b2,b3⟩:=between T w;have ok:=v.ok;have V0:∀a b,a<n→b<m→Vb n m 0 0 a b:=fun a b h1 h2=>⟨h1,h2,by lia⟩
 have top:=b1 r.1 r.2 hq FU Β (Nat.le_refl _);obtain⟨r0,m0,e0⟩:=v.on r.1 r.2 (V0 _ _ hr zQ) hE (by rw[top];simpa[gS]using b3);have Xw:∀x y:Nat,uR f o p (us++[aR q]) (x:Int) (y:Int)-o=uR f o p (us++[aR q]) ((x+1:Nat):Int) (y:Int):=fun x y=>by
  unfold uR;have e1:((x+1:Nat):Int)-1-(lstP (us++[aR q])).1=((x:Int)-1-(lstP (us++[aR q])).1)+1:=by lia
  rw[e1,Int.mul_add];lia
 have Xx:∀x y:Nat,uR f o p (us++[aR q]) (x:Int) (y:Int)-p=uR f o p (us++[aR q]) (x:Int) ((y+1:Nat):Int):=fun x y=>by
  unfold uR;have e1:((y+1:Nat):Int)-1-(lstP (us++[aR q])).2=((y:Int)-1-(lstP (us++[aR q])).2)+1:=by lia
  rw[e1,Int.mul_add];lia
 have go:∀d x y:Nat,(r.1-x)+(r.2-y)=d→q.1<x→q.2<y→x≤r.1→y≤r.2→∃r',s.2 (aR (x,y))=some r'∧s.1 (aR r) r':=by
  intro d
  induction d with
  |zero=>
   intro x y hd h1 h2 h3 h4;have:x=r.1:=by lia
   have:y=r.2:=by lia
   subst x y;exact⟨r0,m0,e0⟩
  |succ d ih=>
   intro x y hd h1 h2 h3 h4;by_cases hx:x<r.1
   ·obtain⟨r1,m1,e1⟩:=ih (x+1) y IL (by lia) h2 IL h4;obtain⟨y,rfl⟩:∃y',y=y'+1:=⟨y-1,by lia⟩
    obtain⟨_,z⟩:=v.ov x y r1 (V0 _ _ (by lia) (by lia)) m1;have hc:aR (x,y+1)∈bC f o p x y:=by
     unfold bC;refine List.mem_append_left _ ?_;rw[if_pos]
     ·simp[aR]
     ·rw[b1 x (y+1) h1 h2 h3 h4,b1 (x+1) (y+1) (by lia) h2 IL h4];simp only[bF];rw[Xw]
    obtain⟨r2,m2,e2⟩:=z _ hc;exact⟨r2,m2,ok.tr _ _ _ e1 e2⟩
   ·obtain⟨r1,m1,e1⟩:=ih x (y+1) (by lia) h1 IL h3 IL;obtain⟨x,rfl⟩:∃x',x=x'+1:=⟨x-1,by lia⟩
    obtain⟨_,z⟩:=v.ov x y r1 (V0 _ _ (by lia) (by lia)) m1;have hc:aR (x+1,y)∈bC f o p x y:=by
     unfold bC;refine List.mem_append_right _ ?_;rw[if_pos]
     ·simp[aR]
     ·rw[b1 (x+1) y h1 h2 h3 h4,b1 (x+1) (y+1) h1 IL h3 IL];simp only[bF];rw[Xx]
    obtain⟨r2,m2,e2⟩:=z _ hc;exact⟨r2,m2,ok.tr _ _ _ e1 e2⟩
 obtain⟨r1,m1,e1⟩:=go _ (q.1+1) (q.2+1) rfl (by lia) (by lia) (by lia) (by lia);obtain⟨z,_⟩:=v.ov q.1 q.2 r1 (V0 _ _ (by lia) (by lia)) m1;have:=z (by
  rw[b2,b1 (q.1+1) (q.2+1) (by lia) (by lia) (by lia) (by lia)]
  congr 1
  unfold uR;rw[dO];have z1:((q.1+1:Nat):Int)-1-(aR q).1=0:=by show((q.1+1:Nat):Int)-1-(q.1:Int)=0;lia
  have z2:((q.2+1:Nat):Int)-1-(aR q).2=0:=by show((q.2+1:Nat):Int)-1-(q.2:Int)=0;lia
  rw[z1,z2,Int.mul_zero,Int.mul_zero];lia)
 exact ok.tr _ _ _ this (ok.sy _ _ e1)
theorem Vd.all{f:Nat→Nat→Option Int}{o p W:Int}{n m:Nat}{s:GS}(T:fg f o p W)(t:DO f n m)(v:Vd f o p W (Vb n m 0 0) s){ws:List Pr}(w:BW f o p W ws):
  ∀(vs us:List Pr),ws=us++vs→vs≠[]→∀a∈vs,s.1 a (jZ vs)
 |[],_,_,h=>absurd rfl h
 |[l],us,e,_=>fun a ha=>by
  have ha:a=l:=by simpa using ha
  subst ha;show s.1 a a;obtain⟨i,j,rfl,hi,hj⟩:=j4 t w.1 (a:=a) (by rw[e];simp);have hl:lstP ws=aR (i,j):=by rw[e];exact dO
  obtain⟨b,hb,hle⟩:=xr (o:=o) (p:=p) w.1 hl;obtain⟨as,a1,a2,a3⟩:=mI hb;have:=T _ a1;have hW:=w.2;exact v.en i j ⟨hi,hj,by lia⟩ (by rw[hb];congr 1;lia)
 |q::r::vs,us,e,_=>fun a ha=>by
  have ih:=Vd.all T t v w (r::vs) (us++[q]) (by rw[e];simp) (XU);have Mu:s.1 r r:=ih r Xs;have ok:=v.ok;obtain⟨i,j,hq,hi,hj⟩:=j4 t w.1 (a:=q) (by rw[e];simp);obtain⟨x,y,hr,hx,hy⟩:=j4 t w.1 (a:=r) (by rw[e];simp);have mz:qD q r:=by
   have:=w.1.up;rw[e]at this;exact(List.pairwise_cons.mp (List.pairwise_append.mp this).2.1).1 r Xs
  rw[hq,hr]at mz;have h1:(i:Int)<x:=mz.1;have h2:(j:Int)<y:=mz.2;rw[e,hq,hr]at w;have key:=v.step T w (q:=(i,j)) (r:=(x,y)) hx hy (by show i<x;lia) (by show j<y;lia) (by rw[←hr];exact Mu);rw[←hq,←hr]at key;show s.1 a q;rcases List.mem_cons.mp ha with rfl|ha
  ·exact ok.tr _ _ _ key (ok.sy _ _ key)
  ·exact ok.tr _ _ _ (ih a ha) (ok.sy _ _ key)
theorem Vd.SH{f:Nat→Nat→Option Int}{o p W:Int}{n m:Nat}{s:GS}(T:fg f o p W)(t:DO f n m)(v:Vd f o p W (Vb n m 0 0) s)(a b:Pr):s.1 a b↔gQ f o p W a b:=by
 refine⟨v.ok.hg a b,fun h=>?_⟩
 induction h with
 |way ps w h1 h2=>
  have k:=Vd.all T t v w ps [] rfl w.1.ne;exact v.ok.tr _ _ _ (k _ h1) (v.ok.sy _ _ (k _ h2))
 |tr _ _ i1 i2=>exact v.ok.tr _ _ _ i1 i2
theorem Told.iff{E E':Pr→Pr→Prop}{gs:List (List Pr)}(t:Told E gs)(h:∀a b,E a b↔E' a b):Told E' gs:=
 ⟨t.tQ,t.ne,fun ps hp a ha b=>(t.cls ps hp a ha b).trans (h a b),fun a ha=>t.all a ((h a a).mpr ha),t.apart⟩
def NT(H:Hp)(a:Addr):Prop:=∃o,H a=some o∧∀v,o≠ .tup v
theorem NT.same{H H':Hp}{a:Addr}(h:NT H a)(s:au H H'):NT H' a:=let ⟨o,h1,h2⟩:=h;⟨o,s _ _ h1,h2⟩
theorem oY.cF{S S':Addr→Prop}{H H':Hp}(u:oY S H S' H')(h:∀a,S a→NT H a):dW H H':=fun t v e=>u.keep t _ (fun z=>by
 obtain⟨o,h1,h2⟩:=h t z;rw[e]at h1;cases h1;exact h2 v rfl) e
theorem oY.out{S S':Addr→Prop}{H H':Hp}(u:oY S H S' H'){a:Addr}{o:HO}(h:¬S a)(e:H a=some o):¬S' a:=fun z=>by
 rcases u.grow a z with z|z
 ·exact h z
 ·rw[e]at z;cases z
theorem j1.nt{H:Hp}{C g:Addr}{S:Addr→Prop}{E:Pr→Pr→Prop}{B:Nat}(G:j1 H C g S E B):j1 H C g (fun a=>S a∧NT H a) E B:=by
 obtain⟨dg,dl,dm,kl,km,ld,mm,a1,a2,D,a4⟩:=G;refine⟨dg,dl,dm,kl,km,ld,mm,a1,fun z=>a2 z.1,⟨D.hl,D.hm,⟨D.sl,_,D.hl,fun v=>(XU)⟩,⟨D.sm,_,D.hm,fun v=>(XU)⟩,D.ne,D.lv,fun p=>?_,D.inj,D.key,D.Cb,D.ms,D.ml,D.self⟩,a4⟩;have:=D.mv p;cases e:mm p with
 |none=>rw[e]at this;exact this
 |some ms=>
  rw[e]at this;obtain⟨a,us,h1,h2,h3,h4⟩:=this;exact⟨a,us,h1,h2,h3,h4,_,h2,fun v=>(XU)⟩
structure Jw(K:W.Frag)(C:Addr):Prop where
 cl:wA K C
 tX:bY K C "trails"
 worth:bY K C "worth"
 groups:bY K C "groups"
 marks:bY K C "marks"
def j5(tr:Addr)(W:Int)(g dk:Addr):List (Str×V):=[("trails", .ref tr),("worth", .int W),("groups", .ref g),("marks", .ref dk)]
theorem mJ(a:Addr)(W:Int)(b c:Addr):(j5 a W b c).lookup ("trails":Str)=some (V.ref a):=by kernel_rfl
theorem FV(a:Addr)(W:Int)(b c:Addr):(j5 a W b c).lookup ("worth":Str)=some (V.int W):=by kernel_rfl
theorem je(a:Addr)(W:Int)(b c:Addr):(j5 a W b c).lookup ("groups":Str)=some (V.ref b):=by kernel_rfl
theorem lR(a:Addr)(W:Int)(b c:Addr):(j5 a W b c).lookup ("marks":Str)=some (V.ref c):=by kernel_rfl
theorem Cf(a:Addr)(W:Int)(b c:Addr):(j5 a W b c).lookup ("mark":Str)=none:=by kernel_rfl
theorem HP(a:Addr)(W:Int)(b c:Addr):(j5 a W b c).lookup ("go_over":Str)=none:=by kernel_rfl
theorem FW(a:Addr)(W:Int)(b c:Addr):(j5 a W b c).lookup ("visit":Str)=none:=by kernel_rfl
theorem LJ(a:Addr)(W:Int)(b c:Addr):bu "marks" (.ref c) (bu "groups" (.ref b) (bu "worth" (.int W) (bu "trails" (.ref a) [])))=j5 a W b c:=by kernel_rfl
structure LK(H:Hp)(C CG x tr:Addr)(W:Int)(S:Addr→Prop)(s:GS)(B M:Nat)(dx g dk:Addr)(km:List (List Key×V))(S1:Addr→Prop):Prop where
 ob:H x=some (.ins C dx (j5 tr W g dk))
 gr:j1 H CG g S1 s.1 B
 hk:H dk=some (.dT km)
 mv:∀c,LD H (bE km (bb c)) (s.2 c)
 len:km.length≤M
 sS:∀a,S a↔S1 a∨a=dk
 Cb:¬S1 dk
 nx:¬S x
 ng:¬S g
 nt:∀a,S a→NT H a
def iB(H:Hp)(C CG x tr:Addr)(W:Int)(S:Addr→Prop)(s:GS)(B M:Nat):Prop:=∃dx g dk km S1,LK H C CG x tr W S s B M dx g dk km S1
theorem iB.nt{H:Hp}{C CG x tr:Addr}{W:Int}{S:Addr→Prop}{s:GS}{B M:Nat}(G:iB H C CG x tr W S s B M):∀a,S a→NT H a:=let ⟨_,_,_,_,_,D⟩:=G;D.nt
theorem iB.same{H H':Hp}{C CG x tr:Addr}{W:Int}{S:Addr→Prop}{s:GS}{B M:Nat}(G:iB H C CG x tr W S s B M)(t:au H H'):iB H' C CG x tr W S s B M:=by
 obtain⟨dx,g,dk,km,S1,D⟩:=G;exact⟨dx,g,dk,km,S1,t _ _ D.ob,D.gr.same t,t _ _ D.hk,fun c=>(D.mv c).cF (dW.same t),D.len,D.sS,D.Cb,D.nx,D.ng,fun a h=>(D.nt a h).same t⟩
theorem iB.out{H:Hp}{C CG x tr:Addr}{W:Int}{S:Addr→Prop}{s:GS}{B M:Nat}(G:iB H C CG x tr W S s B M){a:Addr}(h:H a=none):¬S a:=fun z=>by
 obtain⟨o,e,_⟩:=G.nt a z;rw[h]at e;cases e
theorem iB.cast{H:Hp}{C CG x tr:Addr}{W:Int}{S:Addr→Prop}{s s':GS}{B M B' M':Nat}(G:iB H C CG x tr W S s B M)(h:s=s')(hB:B≤B')(hM:M≤M'):iB H C CG x tr W S s' B' M':=by
 subst h;obtain⟨dx,g,dk,km,S1,D⟩:=G;exact⟨dx,g,dk,km,S1,D.ob,D.gr.iff (fun _ _=>Iff.rfl) hB,D.hk,D.mv,by have:=D.len;lia,D.sS,D.Cb,D.nx,D.ng,D.nt⟩
section
variable{H H':Hp}{C CG x tr dx g dk:Addr}{W:Int}{S S1 LL:Addr→Prop}{s:GS}{B M B':Nat}{km:List (List Key×V)}
theorem LK.Qt(D:LK H C CG x tr W S s B M dx g dk km S1){E':Pr→Pr→Prop}(u:oY S1 H LL H')(G:j1 H' CG g LL E' B'):∃S' S2,oY S H S' H'∧LK H' C CG x tr W S' (E',s.2) B' M dx g dk km S2:=by
 have s1:∀a,S1 a→S a:=fun a h=>(D.sS a).mpr (.inl h)
 have Xy:∀a,S1 a→NT H a:=fun a h=>D.nt a (s1 a h)
 have T:=u.cF Xy;have EU:=u.keep dk _ D.Cb D.hk;obtain⟨dg,dl,dm,kl,HQ,ld,mm,og,_⟩:=id D.gr;have gone:∀{a o},¬S a→H a=some o→a≠dk→¬((LL a∧NT H' a)∨a=dk):=fun{a o} h1 h2 h3 z=>by
  rcases z with z|z
  ·exact u.out (fun y=>h1 (s1 _ y)) h2 z.1
  ·exact h3 z
 have AW:S dk:=(D.sS dk).mpr (.inr rfl);refine⟨fun a=>(LL a∧NT H' a)∨a=dk,fun a=>LL a∧NT H' a,⟨fun a h=>?_,fun a o h e=>u.keep a o (fun z=>h (s1 a z)) e⟩,⟨u.keep x _ (fun z=>D.nx (s1 _ z)) D.ob,G.nt,EU,fun c=>(D.mv c).cF T,D.len,fun a=>Iff.rfl,fun z=>u.out D.Cb D.hk z.1,gone D.nx D.ob (fun z=>D.nx (by rw[z];exact AW)),gone D.ng og (fun z=>D.ng (by rw[z];exact AW)),fun a h=>?_⟩⟩
 ·rcases h with h|h
  ·exact(u.grow a h.1).imp (s1 a) id
  ·exact .inl (by rw[h];exact AW)
 ·rcases h with h|h
  ·exact h.2
  ·exact⟨_,by rw[h];exact EU,fun v=>(XU)⟩
theorem LK.put(D:LK H C CG x tr W S s B M dx g dk km S1){c r:Pr}{t:Addr}(ht:H t=some (.tup (j_ r))):oY S H S (upd H dk (.dT (putK km (bb c) (.ref t))))∧LK (upd H dk (.dT (putK km (bb c) (.ref t)))) C CG x tr W S (s.1,fun y=>if y=c then some r else s.2 y) B (M+1) dx g dk (putK km (bb c) (.ref t)) S1:=by
 have AW:S dk:=(D.sS dk).mpr (.inr rfl);have nx:x≠dk:=fun z=>D.nx (by rw[z];exact AW)
 have ng:g≠dk:=fun z=>D.ng (by rw[z];exact AW)
 have T:dW H (upd H dk (.dT (putK km (bb c) (.ref t)))):=fun b v hb=>by
  rw[ao (fun z=>by rw[z,D.hk]at hb;cases hb)];exact hb
 refine⟨.put AW,⟨by rw[ao nx];exact D.ob,D.gr.keep (fun a o h e=>by rw[ao (fun z=>D.Cb (by rw[←z];exact h))];exact e) T (fun o e=>by rw[ao ng];exact e),ae,fun y=>?_,Nat.le_trans (e_ _ _ _) (by have:=D.len;lia),D.sS,D.Cb,D.nx,D.ng,fun a h=>?_⟩⟩
 ·show LD _ _ (if y=c then some r else s.2 y);rw[ji];by_cases e:y=c
  ·rw[Z1 (by rw[e]),Z1 e];exact⟨t,rfl,T _ _ ht⟩
  ·rw[ZY (fun z=>e (dB z)),ZY e];exact(D.mv y).cF T
 ·by_cases e:a=dk
  ·exact⟨_,by rw[e];exact ae,fun v=>(XU)⟩
  ·obtain⟨o,h1,h2⟩:=D.nt a h;exact⟨o,by rw[ao e];exact h1,h2⟩
end
structure Base(H0 H:Hp)(S:Addr→Prop):Prop where
 same:au H0 H
 free:∀a,S a→H0 a=none
theorem Base.ups{H0 H H':Hp}{S S':Addr→Prop}(b:Base H0 H S)(u:oY S H S' H'):Base H0 H' S':=by
 refine⟨fun a o h=>u.keep a o (fun z=>by rw[b.free a z]at h;cases h) (b.same a o h),fun a h=>?_⟩;rcases u.grow a h with z|z
 ·exact b.free a z
 ·exact b.same.free z
theorem Base.more{H0 H H':Hp}{S:Addr→Prop}(b:Base H0 H S)(s:au H H'):Base H0 H' S:=⟨b.same.trans s,b.free⟩
inductive qK(C CG:Addr)(vs:List V)(H:Hp)(Q:VK)(u3:XK):Prop
 |mk (x dx tr:Addr) (W:Int) (_:vs=[.ref x, .ref tr, .int W]) (_:H x=some (.ins C dx [])) (_:∀H' S,SameBut x H H'→(∀a,S a→H a=none)→iB H' C CG x tr W S (fun _ _=>False,fun _=>none) 0 0→Q .cS H'):qK C CG vs H Q u3
inductive tY(C CG:Addr)(vs:List V)(H:Hp)(Q:VK)(u3:XK):Prop
 |mk (x tc tp tr:Addr) (W:Int) (c r:Pr) (S:Addr→Prop) (s:GS) (B M:Nat) (_:vs=[.ref x, .ref tc, .ref tp]) (_:iB H C CG x tr W S s B M) (_:H tc=some (.tup (j_ c))) (_:H tp=some (.tup (j_ r))) (_:s.1 r r) (_:∀r0,s.2 c=some r0→s.1 r0 r0) (_:B≤10000) (_:M≤10000) (_:∀H' S',oY S H S' H'→iB H' C CG x tr W S' (ze s c r) B (M+1)→Q .cS H'):tY C CG vs H Q u3
inductive tZ(C CG CT:Addr)(vs:List V)(H:Hp)(Q:VK)(u3:XK):Prop
 |mk (x tc tp tr dt e b:Addr) (es bs:List Addr) (f:Nat→Nat→Option Int) (o p:Int) (n m:Nat) (W:Int) (i j:Nat) (r:Pr) (S:Addr→Prop) (s:GS) (B M:Nat) (H0:Hp) (_:vs=[.ref x, .ref tc, .ref tp]) (_:iB H C CG x tr W S s B M) (_:qH H0 CT tr dt e b es bs f o p n m) (_:Base H0 H S) (_:H tc=some (.tup (j_ (aR (i+1,j+1))))) (_:H tp=some (.tup (j_ (aR (i,j))))) (_:i<n) (_:j<m) (_:fg f o p W) (_:iA f o p W s) (_:s.2 (aR (i+1,j+1))=some r) (_:B<10000) (_:M+2≤10000)
  (_:∀H' S',oY S H S' H'→iB H' C CG x tr W S' (LH f o p i j s r) (B+1) (M+2)→Q .cS H'):tZ C CG CT vs H Q u3
inductive qL(C CG CT:Addr)(vs:List V)(H:Hp)(Q:VK)(u3:XK):Prop
 |mk (x tr dt e b:Addr) (es bs:List Addr) (f:Nat→Nat→Option Int) (o p:Int) (n m:Nat) (W:Int) (i j:Nat) (S:Addr→Prop) (s:GS) (B M:Nat) (H0:Hp) (_:vs=[.ref x, .int i, .int j]) (_:iB H C CG x tr W S s B M) (_:qH H0 CT tr dt e b es bs f o p n m) (_:Base H0 H S) (_:i<n) (_:j<m) (_:n≤1000) (_:m≤1000) (_:fg f o p W) (_:iA f o p W s) (_:B+2≤10000) (_:M+3≤10000)
  (_:∀H' S',oY S H S' H'→iB H' C CG x tr W S' (zP f o p W i j s) (B+2) (M+3)→Q .cS H'):qL C CG CT vs H Q u3
inductive AX(CT:Addr)(vs:List V)(H:Hp)(Q:VK)(u3:XK):Prop
 |mk (tr dt e b:Addr) (es bs:List Addr) (f:Nat→Nat→Option Int) (o p:Int) (n m:Nat) (W:Int) (_:vs=[.ref tr, .int W]) (_:qH H CT tr dt e b es bs f o p n m) (_:DO f n m) (_:n*m≤3000) (_:n≤1000) (_:m≤1000) (_:fg f o p W)
  (_:∀H' r us gs,au H H'→H r=none→H' r=some (.lst us)→fF H' us gs→(∀(k:Nat) a,us[k]?=some (.ref a)→H a=none)→Told (gQ f o p W) gs→Q (.ref r) H'):AX CT vs H Q u3
structure Fd where
 worth:Int
 way:List Pr
 row:List Int
 pairs:List Pr
def zR(g:Pr→Option Int)(o p:Int)(ps:List Pr):List Int:=(Zv ps.length).map fun k=>vl g o p (ps.take (k+1))
theorem FX(g:Pr→Option Int)(o p:Int)(ps:List Pr)(q:Pr):zR g o p (ps++[q])=zR g o p ps++[vl g o p (ps++[q])]:=by
 unfold zR;rw[List.length_append,List.length_singleton,List.range_succ,List.map_append]
 congr 1
 ·apply List.map_congr_left;intro k hk;have:k<ps.length:=by simpa using hk
  rw[List.take_append_of_le_length IL]
 ·simp;rw[List.take_of_length_le Xs]
structure OH(f:Nat→Nat→Option Int)(o p W:Int)(d:Fd):Prop where
 worth:d.worth=W
 way:BW f o p W d.way
 row:d.row=zR (lf f) o p d.way
 sub:∀q∈d.way,q∈d.pairs
def lB(f:Nat→Nat→Option Int)(ps:List Pr):Nat→Nat→Option Int:=fun i j=>if aR (i,j)∈ps then none else f i j
def Stop(f:Nat→Nat→Option Int)(o p least:Int):Prop:=∀ps,Wy (lf f) ps→vl (lf f) o p ps<least
structure mK(f:Nat→Nat→Option Int)(o p least W:Int)(gs:List (List Pr))(ds:List Fd):Prop where
 top:fg f o p W
 ex:∃ps,BW f o p W ps
 least:least≤W
 told:Told (gQ f o p W) gs
 HR:ds.map Fd.pairs=gs
 ok:∀d∈ds,OH f o p W d
inductive Reach(f0:Nat→Nat→Option Int)(o p least:Int):List Fd→(Nat→Nat→Option Int)→Prop
 |start:Reach f0 o p least [] f0
 |round {done:List Fd} {f:Nat→Nat→Option Int} {W:Int} {gs:List (List Pr)} {ds:List Fd} (_:Reach f0 o p least done f) (_:mK f o p least W gs ds):Reach f0 o p least (done++ds) (lB f gs.flatten)
theorem FY{f:Nat→Nat→Option Int}{n m:Nat}(t:DO f n m)(ps:List Pr):DO (lB f ps) n m:=fun i j h=>t i j (by
 unfold lB at h;split at h
 ·cases h
 ·exact h)
theorem Reach.SI{f0 f:Nat→Nat→Option Int}{o p least:Int}{ds:List Fd}{n m:Nat}(t:DO f0 n m)(r:Reach f0 o p least ds f):DO f n m:=by
 induction r with
 |start=>exact t
 |round _ _ ih=>exact FY ih _
theorem sT(f:Nat→Nat→Option Int)(ps:List Pr)(q:Pr):lf (lB f ps) q=if q∈ps then none else lf f q:=by
 unfold lf lB;by_cases h:0≤q.1∧0≤q.2
 ·rw[Z1 h,Z1 h];have:aR (q.1.toNat,q.2.toNat)=q:=Prod.ext (by simp[aR];lia) (by simp[aR];lia);rw[this]
 ·rw[ZY h,ZY h];split<;>rfl
theorem gQ.open{f:Nat→Nat→Option Int}{o p W:Int}{a b:Pr}(h:gQ f o p W a b):(lf f a).isSome=true:=by
 obtain⟨ps,⟨w,_⟩,hm⟩:=h.on;exact w.ok a hm
theorem Told.mem{E:Pr→Pr→Prop}{gs:List (List Pr)}(t:Told E gs){ps:List Pr}(h:ps∈gs){a:Pr}(ha:a∈ps):E a a:=(t.cls ps h a ha a).mp ha
structure Apart(f0 f:Nat→Nat→Option Int)(ds:List Fd):Prop where
 sub:∀q,(lf f q).isSome=true→lf f q=lf f0 q
 shut:∀d∈ds,∀q∈d.pairs,lf f q=none∧(lf f0 q).isSome=true
 ap:ds.Pairwise fun a b=>∀q∈a.pairs,q∉b.pairs
 tQ:∀d∈ds,d.pairs.Pairwise (fun p q=>ki p q=true)∧d.pairs≠[]
 gone:∀q,lf f q=none→(lf f0 q).isSome=true→∃d∈ds,q∈d.pairs
theorem Reach.apart{f0 f:Nat→Nat→Option Int}{o p least:Int}{ds:List Fd}(r:Reach f0 o p least ds f):Apart f0 f ds:=by
 induction r with
 |start=>exact⟨fun _ _=>rfl,fun d h=>(by cases h), .nil,fun d h=>(by cases h),fun q h1 h2=>by rw[h1]at h2;cases h2⟩
 |@round done f W gs ds r R ih=>
  have mem:∀d∈ds,d.pairs∈gs:=fun d h=>by rw[←R.HR];exact List.mem_map.mpr ⟨d,h,rfl⟩
  have op:∀d∈ds,∀q∈d.pairs,(lf f q).isSome=true:=fun d h q hq=>(R.told.mem (mem d h) hq).open
  refine⟨fun q h=>?_,fun d h q hq=>?_,?_,fun d h=>?_,fun q h1 h2=>?_⟩
  ·rw[sT]at h⊢;split at h
   ·cases h
   ·rename_i hn
    rw[ZY hn];exact ih.sub q h
  ·rw[sT];rcases List.mem_append.mp h with h|h
   ·obtain⟨h1,h2⟩:=ih.shut d h q hq;exact⟨by split;rfl;exact h1,h2⟩
   ·rw[Z1 (List.mem_flatten.mpr ⟨_,mem d h,hq⟩)];have:=op d h q hq;exact⟨rfl,by rw[←ih.sub q this];exact this⟩
  ·refine List.pairwise_append.mpr ⟨ih.ap,?_,fun a ha b hb q hq FU=>?_⟩
   ·have:=R.told.apart;rw[←R.HR,List.pairwise_map]at this;exact this
   ·have h1:=(ih.shut a ha q hq).1;have h2:=op b hb q FU;rw[h1]at h2;cases h2
  ·rcases List.mem_append.mp h with h|h
   ·exact ih.tQ d h
   ·exact⟨R.told.tQ _ (mem d h),R.told.ne _ (mem d h)⟩
  ·rw[sT]at h1;by_cases hm:q∈gs.flatten
   ·obtain⟨ps,AL,hq⟩:=List.mem_flatten.mp hm;rw[←R.HR]at AL;obtain⟨d,hd,rfl⟩:=List.mem_map.mp AL;exact⟨d,Μ hd,hq⟩
   ·rw[ZY hm]at h1;obtain⟨d,hd,hq⟩:=ih.gone q h1 h2;exact⟨d,δ hd,hq⟩
theorem t5(f:Nat→Nat→Option Int)(o p:Int):∀i j v,Bq f o p i j=some v→∃e,dH f o p (cP f o p i j).1 (cP f o p i j).2=some e∧v=e-(o*((i:Int)-1-(cP f o p i j).1)+p*((j:Int)-1-(cP f o p i j).2))
 |0,j,v,h=>by rw[iR]at h;cases h
 |i+1,0,v,h=>by unfold Bq at h;cases h
 |i+1,j+1,v,hB=>by
  unfold cP;by_cases h1:dH f o p i j=Bq f o p (i+1) (j+1)
  ·rw[Z1 h1];refine⟨v,by rw[h1,hB],?_⟩;have e1:((i+1:Nat):Int)-1-((i,j).1:Int)=0:=by show((i+1:Nat):Int)-1-(i:Int)=0;lia
   have e2:((j+1:Nat):Int)-1-((i,j).2:Int)=0:=by show((j+1:Nat):Int)-1-(j:Int)=0;lia
   rw[e1,e2,Int.mul_zero,Int.mul_zero];lia
  ·rw[ZY h1];by_cases h2:bF (Bq f o p i (j+1)) o=Bq f o p (i+1) (j+1)
   ·rw[Z1 h2];cases e:Bq f o p i (j+1)with
    |none=>rw[e,hB]at h2;cases h2
    |some v2=>
     rw[e,hB]at h2;have h2:v2-o=v:=by simpa[bF]using h2
     obtain⟨x,hx,hv⟩:=t5 f o p i (j+1) v2 e;refine⟨x,hx,?_⟩;have e1:((i+1:Nat):Int)-1-((cP f o p i (j+1)).1:Int)=((i:Int)-1-(cP f o p i (j+1)).1)+1:=by lia
     rw[e1,Int.mul_add]
     lia
   ·rw[ZY h2];have e0:Bq f o p (i+1) (j+1)=oS [dH f o p i j,bF (Bq f o p i (j+1)) o,bF (Bq f o p (i+1) j) p]:=by rw[Bq];rfl
    have key:∀a b c:Option Int,oS [a,b,c]≠a→oS [a,b,c]≠b→c=oS [a,b,c]:=fun a b c=>by
     cases a<;>cases b<;>cases c<;>simp[oS]<;>lia
    have h3:bF (Bq f o p (i+1) j) p=Bq f o p (i+1) (j+1):=by
     rw[e0];exact key _ _ _ (fun z=>h1 (by rw[e0];exact z.symm)) (fun z=>h2 (by rw[e0];exact z.symm))
    cases e:Bq f o p (i+1) j with
    |none=>rw[e,hB]at h3;cases h3
    |some v2=>
     rw[e,hB]at h3;have h3:v2-p=v:=by simpa[bF]using h3
     obtain⟨x,hx,hv⟩:=t5 f o p (i+1) j v2 e;refine⟨x,hx,?_⟩;have e1:((j+1:Nat):Int)-1-((cP f o p (i+1) j).2:Int)=((j:Int)-1-(cP f o p (i+1) j).2)+1:=by lia
     rw[e1,Int.mul_add]
     lia
termination_by i j=>(i,j)
theorem HS(f:Nat→Nat→Option Int)(o p:Int):∀(k i j:Nat)(v:Int),i≤k→dH f o p i j=some v→Wy (lf f) ((eP f o p i i j).map aR)∧lstP ((eP f o p i i j).map aR)=aR (i,j)∧vl (lf f) o p ((eP f o p i i j).map aR)=v∧(eP f o p i i j).map (fun q=>dH f o p q.1 q.2)=(zR (lf f) o p ((eP f o p i i j).map aR)).map some:=by
 intro k
 induction k with
 |zero=>
  intro i j v hi he;have:i=0:=by lia
  subst this;rw[gZ (fun h=>by rw[iR]at h;cases h)];have hw:f 0 j=some v:=by
   unfold dH at he;rw[iR]at he;cases e:f 0 j with
   |none=>rw[e]at he;cases he
   |some w=>rw[e]at he;exact he
  have hl:lf f (aR (0,j))=some v:=by rw[←hw];exact qF f 0 j
  refine⟨.one (by rw[hl];rfl),rfl,by simp[vl,hl],?_⟩;simp[zR,vl,hl,he]
 |succ k ih=>
  intro i j v hi he;by_cases hg:gS (Bq f o p i j)=true
  ·obtain⟨a1,a2,a3⟩:=kj hg;obtain⟨l1,l2⟩:=(kT f o p i j a1 a2).resolve_right a3;rw[v8 hg,List.map_append,List.map_append];cases eb:Bq f o p i j with
   |none=>exact Y7 eb a3
   |some b=>
    obtain⟨x,hx,hb⟩:=t5 f o p i j b eb;obtain⟨w1,w2,w3,w4⟩:=ih _ _ x (by lia) hx;have aaN:0≤b:=by rw[eb]at hg;simpa[gS]using hg
    have hw:∃w,f i j=some w∧v=w+b:=by
     unfold dH at he;rw[eb]at he;cases e:f i j with
     |none=>rw[e]at he;cases he
     |some w=>
      rw[e]at he;simp only[Ht,show ¬b<0 by lia,if_false,Option.some.injEq]at he;exact⟨w,rfl,by lia⟩
    obtain⟨w,hw,hv⟩:=hw;have hl:lf f (aR (i,j))=some w:=by rw[←hw];exact qF f i j
    have st:qD (lstP ((eP f o p (cP f o p i j).1 (cP f o p i j).1 (cP f o p i j).2).map aR)) (aR (i,j)):=by
     rw[w2];exact⟨by simp[aR];lia,by simp[aR];lia⟩
    have ev:vl (lf f) o p ((eP f o p (cP f o p i j).1 (cP f o p i j).1 (cP f o p i j).2).map aR++[aR (i,j)])=v:=by
     rw[oU _ _ _ w1.ne,w2,w3,hl];simp only[gp,Option.getD_some];have e1:(aR (i,j)).1-(aR ((cP f o p i j).1,(cP f o p i j).2)).1-1=(i:Int)-1-(cP f o p i j).1:=by show(i:Int)-((cP f o p i j).1:Int)-1=_;lia
     have e2:(aR (i,j)).2-(aR ((cP f o p i j).1,(cP f o p i j).2)).2-1=(j:Int)-1-(cP f o p i j).2:=by show(j:Int)-((cP f o p i j).2:Int)-1=_;lia
     rw[e1,e2]
     lia
    refine⟨w1.snoc (by rw[hl];rfl) st,dO,ev,?_⟩;show _++[dH f o p i j]=(zR (lf f) o p (_++[aR (i,j)])).map some;rw[FX,List.map_append,w4,he];show _++[some v]=_++[some _];rw[ev]
  ·rw[gZ hg];have hw:f i j=some v:=by
    unfold dH at he;cases e:f i j with
    |none=>rw[e]at he;cases he
    |some w=>
     rw[e]at he;cases eb:Bq f o p i j with
     |none=>rw[eb]at he;exact he
     |some b=>
      rw[eb]at he hg;have:b<0:=by
       have:¬0≤b:=fun z=>hg (by simpa[gS]using z)
       lia
      simp only[Ht,this,if_true]at he;exact he
   have hl:lf f (aR (i,j))=some v:=by rw[←hw];exact qF f i j
   refine⟨.one (by rw[hl];rfl),rfl,by simp[vl,hl],?_⟩;simp[zR,vl,hl,he]
def HU(f:Nat→Nat→Option Int)(o p:Int)(n m:Nat):Option Int:=oS ((Zv n).map fun i=>oS ((Zv m).map (dH f o p i)))
theorem FZ{f:Nat→Nat→Option Int}{n m:Nat}(t:DO f n m)(o p:Int):f6 (fun v=>∃ps,Wy (lf f) ps∧v=vl (lf f) o p ps) (HU f o p n m):=by
 refine(kP _).UO (fun v hv=>?_) (fun v hv=>?_)
 ·obtain⟨i,_,h2⟩:=List.mem_map.mp hv;have h3:=kP ((Zv m).map (dH f o p i));rw[h2]at h3;obtain⟨j,_,h4⟩:=List.mem_map.mp h3.1;obtain⟨as,a1,_,a3⟩:=mI h4;exact⟨as,a1,a3.symm⟩
 ·obtain⟨ps,w,rfl⟩:=hv;obtain⟨i,j,hl,hi,hj⟩:=j4 t w (dA w.ne);obtain⟨b,hb,hle⟩:=xr (o:=o) (p:=p) w hl;have h3:=kP ((Zv m).map (dH f o p i));have oA:some b∈(Zv m).map (dH f o p i):=List.mem_map.mpr ⟨j,by simpa using hj,hb⟩;cases e:oS ((Zv m).map (dH f o p i))with
  |none=>rw[e]at h3;exact Y7 oA (h3 b)
  |some u=>
   rw[e]at h3;refine⟨u,List.mem_map.mpr ⟨i,by simpa using hi,e⟩,?_⟩;have:=h3.2 b oA
   lia
theorem Ds{f:Nat→Nat→Option Int}{o p W:Int}(T:fg f o p W){n m:Nat}(t:DO f n m){a b:Pr}(h:gQ f o p W a b):∃i j:Nat,dH f o p i j=some W∧i<n∧j<m∧gQ f o p W a (aR (i,j)):=by
 obtain⟨ps,w,hm⟩:=h.on;obtain⟨i,j,hl,hi,hj⟩:=j4 t w.1 (dA w.1.ne);obtain⟨v,hb,hle⟩:=xr (o:=o) (p:=p) w.1 hl;obtain⟨as,a1,_,a3⟩:=mI hb;have:=T _ a1;have hW:=w.2;refine⟨i,j,by rw[hb];congr 1;lia,hi,hj, .way ps w hm ?_⟩;rw[←hl];exact dA w.1.ne
def uS(n m:Nat):List Pr:=(Zv n).flatMap fun i=>(Zv m).map fun j=>aR (i,j)
theorem o6(n m:Nat):(uS n m).length=n*m:=by
 unfold uS
 induction n with
 |zero=>simp
 |succ n ih=>
  rw[List.range_succ,List.flatMap_append,List.length_append,ih,Nat.succ_mul];simp
theorem o7{n m i j:Nat}(hi:i<n)(hj:j<m):aR (i,j)∈uS n m:=List.mem_flatMap.mpr ⟨i,by simpa using hi,List.mem_map.mpr ⟨j,by simpa using hj,rfl⟩⟩
theorem Told.zJ{E:Pr→Pr→Prop}{gs:List (List Pr)}{n m:Nat}(t:Told E gs)(h:∀g∈gs,∀a∈g,∃i j:Nat,a=aR (i,j)∧i<n∧j<m):gs.length≤n*m:=by
 have hf:∀g∈gs,jZ g∈g:=fun g hg=>by
  cases e:g with
  |nil=>exact Y7 e (t.ne g hg)
  |cons a r=>simp[jZ]
 have:=len_sub (gs.map jZ) (uS n m) (List.pairwise_map.mpr (List.Pairwise.imp_of_mem (fun{a b} ha hb FI e=>FI (jZ a) (hf a ha) (by rw[e];exact hf b hb)) t.apart)) fun x hx=>by
  obtain⟨g,hg,rfl⟩:=List.mem_map.mp hx;obtain⟨i,j,e,hi,hj⟩:=h g hg _ (hf g hg);rw[e];exact o7 hi hj
 rw[List.length_map,o6]at this;exact this
structure o8(P:Addr→Prop)(H:Hp)(CF a:Addr)(d:Fd)(dy wy rw pr:Addr)(fT gT:List V):Prop where
 ob:H a=some (.ins CF dy (m_ d.worth wy rw pr))
 hw:H wy=some (.lst fT)
 pw:eF H fT d.way
 hr:H rw=some (.lst (d.row.map V.int))
 hp:H pr=some (.lst gT)
 pp:eF H gT d.pairs
 fa:P a
 fw:P wy
 fr:P rw
 fp:P pr
def bU(P:Addr→Prop)(H:Hp)(CF:Addr)(us:List V)(ds:List Fd):Prop:=us.length=ds.length∧∀(k:Nat) d,ds[k]?=some d→∃a dy wy rw pr fT gT,us[k]?=some (V.ref a)∧o8 P H CF a d dy wy rw pr fT gT
theorem o8.keep{P P':Addr→Prop}{H H':Hp}{CF a:Addr}{d:Fd}{dy wy rw pr:Addr}{fT gT:List V}(F:o8 P H CF a d dy wy rw pr fT gT)(h:∀b o,P b→H b=some o→H' b=some o)(t:dW H H')(hP:∀b,P b→P' b):o8 P' H' CF a d dy wy rw pr fT gT:=
 ⟨h _ _ F.fa F.ob,h _ _ F.fw F.hw,F.pw.cF t,h _ _ F.fr F.hr,h _ _ F.fp F.hp,F.pp.cF t,hP _ F.fa,hP _ F.fw,hP _ F.fr,hP _ F.fp⟩
theorem bU.keep{P P':Addr→Prop}{H H':Hp}{CF:Addr}{us:List V}{ds:List Fd}(F:bU P H CF us ds)(h:∀b o,P b→H b=some o→H' b=some o)(t:dW H H')(hP:∀b,P b→P' b):bU P' H' CF us ds:=
 ⟨F.1,fun k d e=>let ⟨a,dy,wy,rw,pr,fT,gT,h1,h2⟩:=F.2 k d e;⟨a,dy,wy,rw,pr,fT,gT,h1,h2.keep h t hP⟩⟩
theorem bU.nil{P:Addr→Prop}{H:Hp}{CF:Addr}:bU P H CF [] []:=⟨rfl,fun k d e=>by simp at e⟩
theorem bU.append{P:Addr→Prop}{H:Hp}{CF:Addr}{us vs:List V}{ds es:List Fd}(F:bU P H CF us ds)(G:bU P H CF vs es):bU P H CF (us++vs) (ds++es):=by
 refine⟨by rw[List.length_append,List.length_append,F.1,G.1],fun k d e=>?_⟩;by_cases hk:k<ds.length
 ·rw[Ι hk]at e;rw[Ι (by rw[F.1];exact hk)];exact F.2 k d e
 ·rw[Ο IL]at e;rw[Ο (by rw[F.1];lia),F.1];exact G.2 _ d e
inductive t6(CT:Addr)(vs:List V)(H:Hp)(Q:VK)(u3:XK):Prop
 |mk (f g t:Addr) (v:V) (c:Case) (shut:List Pr) (_:vs=[.ref f, .ref g, .ref t,v]) (_:H f=some (.lst (c.xs.map V.str))) (_:H g=some (.lst (c.ys.map V.str))) (_:yO H CT t c) (_:E4 H v shut) (_:shut.length≤1000) (_:c.xs.length≤1000) (_:c.ys.length≤1000) (_:∀H' e as,au H H'→H' e=some (.lst (as.map V.ref))→H e=none→jl H' as (jc c shut) c.xs.length c.ys.length→as.Nodup→e∉as→(∀a∈as,H a=none)→Q (.ref e) H'):t6 CT vs H Q u3
inductive o_(CT CF:Addr)(vs:List V)(H:Hp)(Q:VK)(u3:XK):Prop
 |mk (w t:Addr) (as:List Addr) (c:Case) (f:Nat→Nat→Option Int) (n m:Nat) (_:vs=[.ref w, .ref t]) (_:H w=some (.lst (as.map V.ref))) (_:jl H as f n m) (_:yO H CT t c) (_:DO f n m) (_:n*m≤3000) (_:n≤1000) (_:m≤1000)
  (_:Stop f c.out c.into c.least→∀H' r,au H H'→H r=none→H' r=some (.lst [])→Q (.ref r) H')
  (_:∀W gs ds,mK f c.out c.into c.least W gs ds→gs≠[]→∀H' r us,au H H'→H r=none→H' r=some (.lst us)→bU (fun b=>H b=none) H' CF us ds→Q (.ref r) H'):o_ CT CF vs H Q u3
inductive t8(CF:Addr)(vs:List V)(H:Hp)(Q:VK)(u3:XK):Prop
 |mk (w md:Addr) (as:List Addr) (us:List V) (ds:List Fd) (f:Nat→Nat→Option Int) (n m:Nat) (_:vs=[.ref w, .ref md]) (_:H w=some (.lst (as.map V.ref))) (_:as.Nodup) (_:w∉as) (_:jl H as f n m) (_:H md=some (.lst us)) (_:md∉as) (_:bU (fun b=>b∉as) H CF us ds) (_:∀d∈ds,∀q∈d.pairs,∃i j:Nat,q=aR (i,j)∧i<n∧j<m)
  (_:∀H',(∀b o,b∉as→H b=some o→H' b=some o)→dW H H'→jl H' as (lB f (ds.map Fd.pairs).flatten) n m→Q .cS H'):t8 CF vs H Q u3
def OI(a b:Fd):Bool:=if a.worth=b.worth then ki (jZ a.pairs) (jZ b.pairs)else decide (b.worth<a.worth)
structure dP(f0:Nat→Nat→Option Int)(o p least:Int)(es:List Fd):Prop where
 SJ:∃ds f,Reach f0 o p least ds f∧Stop f o p least∧es.Perm ds
 zJ:es.length≤20
 tQ:es.Pairwise fun a b=>OI a b=true
inductive xt(CT CF CX:Addr)(vs:List V)(H:Hp)(Q:VK)(E:XK):Prop
 |mk (a b t:Addr) (c:Case) (_:vs=[.ref a, .ref b, .ref t]) (_:H a=some (.lst (c.xs.map V.str))) (_:H b=some (.lst (c.ys.map V.str))) (_:yO H CT t c) (_:c.xs.length≤50) (_:c.ys.length≤50)
  (_:∀es,dP (jc c []) c.out c.into c.least es→∀H' r us,au H H'→H r=none→H' r=some (.lst us)→bU (fun b=>H b=none) H' CF us es→Q (.ref r) H')
  (_:∀ds f,Reach (jc c []) c.out c.into c.least ds f→20<ds.length→∀H',au H H'→E (.ref CX) none H'):xt CT CF CX vs H Q E
def F1(c:Case)(i m:Nat):Nat:=((Zv m).filter fun j=>(c.pw (aR (i,j))).isSome).length
def manyN(c:Case):Nat→Nat
 |0=>0
 |n+1=>manyN c n+F1 c n c.ys.length
theorem Dt(c:Case)(i m:Nat):F1 c i (m+1)=F1 c i m+if (c.pw (aR (i,m))).isSome=true then 1 else 0:=by
 unfold F1;rw[List.range_succ,List.filter_append,List.length_append]
 congr 1
 by_cases h:(c.pw (aR (i,m))).isSome=true
 ·rw[Z1 h,List.filter_cons,Z1 h];rfl
 ·rw[ZY h,List.filter_cons,ZY h];rfl
theorem t9(c:Case):∀n,((uS n c.ys.length).filter fun q=>(c.pw q).isSome).length=manyN c n
 |0=>rfl
 |n+1=>by
  unfold uS;rw[List.range_succ,List.flatMap_append,List.filter_append,List.length_append];have ih:=t9 c n;unfold uS at ih;rw[ih,manyN]
  congr 1
  simp only[List.flatMap_cons,List.flatMap_nil,List.append_nil];rw[List.filter_map,List.length_map];rfl
def bV(c:Case):Nat:=manyN c c.xs.length/21+1
def eR(c:Case):Int:=min c.same (999999/(bV c:Int))
def cz(c:Case):Case:={c with same:=eR c,least:=max c.least (((bV c:Int)-1)*eR c+1)}
theorem AY(s t:Int)(fs:List Form)(x y:Str):(dj s fs x y).isSome=(dj t fs x y).isSome:=by
 unfold dj;split
 ·rfl
 ·simp
theorem Du(c:Case)(q:Pr):((cz c).pw q).isSome=(c.pw q).isSome:=by
 unfold Case.pw;show((wd c.xs q.1).bind fun x=>(wd c.ys q.2).bind fun y=>dj (cz c).same c.fs x y).isSome=_;cases wd c.xs q.1 with
 |none=>rfl
 |some x=>
  cases wd c.ys q.2 with
  |none=>rfl
  |some y=>exact AY _ _ _ _ _
theorem Dv{fs:List Form}(g:bO fs=true){x y:Str}{p:Int}(h:d7 fs x y=some p):0≤p:=by
 unfold d7 at h;cases e:fs.find? fun f=>decide (f.1=x∧f.2.1=y)with
 |none=>rw[e]at h;cases h
 |some f=>
  rw[e]at h;have h:f.2.2=p:=by simpa using h
  have hm:=List.mem_of_find?_eq_some e;simp only[bO,Bool.and_eq_true,List.all_eq_true]at g;have:=g.1.2 f hm;simp only[DN,iH,inR,Bool.and_eq_true,decide_eq_true_eq]at this
  lia
theorem pw_le{c:Case}(g:bO c.fs=true){q:Pr}{w:Int}(h:c.pw q=some w):w≤c.same:=by
 unfold Case.pw at h;cases e1:wd c.xs q.1 with
 |none=>rw[e1]at h;cases h
 |some x=>
  cases e2:wd c.ys q.2 with
  |none=>rw[e1,e2]at h;cases h
  |some y=>
   rw[e1,e2]at h;have h:dj c.same c.fs x y=some w:=h;unfold dj at h;split at h
   ·cases h;exact Int.le_refl _
   ·cases e3:d7 c.fs x y with
    |none=>rw[e3]at h;cases h
    |some p=>
     rw[e3]at h;have h:c.same-p=w:=by simpa using h
     have:=Dv g e3
     lia
theorem Cg(c:Case)(n:Nat):manyN c n≤n*c.ys.length:=by
 rw[←t9,←o6];exact List.length_filter_le _ _
theorem Ci{m:Nat}{c:Case}(k:fG m c)(hm:m≤60):fG m (cz c):=by
 have h1:manyN c c.xs.length≤3600:=by
  have:=Cg c c.xs.length;have h2:=Nat.mul_le_mul (Nat.le_trans k.x hm) (Nat.le_trans k.y hm)
  lia
 have he:(1:Int)≤bV c∧(bV c:Int)≤172:=by unfold bV;lia
 have hq:(bV c:Int)*(999999/(bV c:Int))≤999999:=by
  have:=Int.mul_ediv_self_le (x:=999999) (k:=(bV c:Int)) (by lia);exact this
 have OJ:1≤999999/(bV c:Int):=by
  have:(172:Int)≤999999:=WD;exact(Int.le_ediv_iff_mul_le IL).mpr IL
 have hs:=k.same;have hl:=k.least;have s1:1≤eR c∧eR c≤999999∧eR c≤999999/(bV c:Int):=by unfold eR;lia
 refine⟨k.x,k.y,k.good,⟨s1.1,s1.2.1⟩,k.out,k.into,?_⟩;show 1≤max c.least (((bV c:Int)-1)*eR c+1)∧max c.least (((bV c:Int)-1)*eR c+1)≤999999;have h3:((bV c:Int)-1)*eR c+1≤999999:=by
  have h4:(bV c:Int)*eR c≤(bV c:Int)*(999999/(bV c:Int)):=Int.mul_le_mul_of_nonneg_left s1.2.2 IL;rw[Int.sub_mul]
  lia
 lia
theorem jo{g g':Pr→Option Int}(o p:Int):∀{ps:List Pr},(∀q∈ps,g q=g' q)→vl g o p ps=vl g' o p ps
 |[],_=>rfl
 |[a],h=>by simp only[vl];rw[h a (XU)]
 |a::b::r,h=>by
  have ih:=jo (g:=g) (g':=g') o p (ps:=b::r) fun q hq=>h q (by simp[hq])
  simp only[vl];rw[ih,h a (XU)]
theorem Dx{g g':Pr→Option Int}(o p:Int){ps:List Pr}(h:∀q∈ps,g q=g' q):zR g o p ps=zR g' o p ps:=by
 unfold zR;apply List.map_congr_left;intro k _;exact jo o p fun q hq=>h q (List.mem_of_mem_take hq)
theorem Wy.congr{g g':Pr→Option Int}{ps:List Pr}(w:Wy g ps)(h:∀q∈ps,g q=g' q):Wy g' ps:=⟨w.ne,fun q hq=>by rw[←h q hq];exact w.ok q hq,w.up⟩
theorem LM{o p:Int}(ho:0≤o)(hp:0≤p){a b:Pr}(s:qD a b):0≤gp o p a b:=by
 have h1:=s.1;have h2:=s.2;have:=Int.mul_nonneg ho (show 0≤b.1-a.1-1 by lia);have:=Int.mul_nonneg hp (show 0≤b.2-a.2-1 by lia);unfold gp
 lia
theorem Jx{g:Pr→Option Int}{o p S:Int}(ho:0≤o)(hp:0≤p):∀{ps:List Pr},ps.Pairwise qD→(∀q∈ps,∃w,g q=some w∧w≤S)→vl g o p ps≤ps.length*S
 |[],_,_=>by simp[vl]
 |[a],_,h=>by
  obtain⟨w,h1,h2⟩:=h a (XU);simp[vl,h1,h2]
 |a::b::r,hs,h=>by
  have m8:=List.pairwise_cons.mp hs;have ih:=Jx ho hp m8.2 fun q hq=>h q (by simp[hq])
  obtain⟨w,h1,h2⟩:=h a (XU);have:=LM ho hp (m8.1 b (XU));simp only[vl,h1,Option.getD_some];have e:((a::b::r).length:Int)*S=((b::r).length:Int)*S+S:=by
   rw[List.length_cons (as:=b::r),Int.natCast_add,Int.add_mul];simp
  rw[e]
  lia
structure OL(f0:Nat→Nat→Option Int)(o p least:Int)(d:Fd):Prop where
 way:Wy (lf f0) d.way
 worth:vl (lf f0) o p d.way=d.worth
 least:least≤d.worth
 row:d.row=zR (lf f0) o p d.way
 sub:∀q∈d.way,q∈d.pairs
 tQ:d.pairs.Pairwise fun p q=>ki p q=true
 op:∀q∈d.pairs,(lf f0 q).isSome=true
 part:∀a b,d.way=a++b→a≠[]→b≠[]→vl (lf f0) o p a≤d.worth∧vl (lf f0) o p b≤d.worth
theorem Reach.f_{f0 f:Nat→Nat→Option Int}{o p least:Int}{ds:List Fd}(r:Reach f0 o p least ds f):∀d∈ds,OL f0 o p least d:=by
 induction r with
 |start=>exact fun d h=>by cases h
 |@round done f W gs ds r R ih=>
  intro d hd;rcases List.mem_append.mp hd with hd|hd
  ·exact ih d hd
  have ap:=r.apart;have k:=R.ok d hd;have hg:d.pairs∈gs:=by rw[←R.HR];exact List.mem_map.mpr ⟨d,hd,rfl⟩
  have cg:∀q∈d.way,lf f q=lf f0 q:=fun q hq=>ap.sub q (k.way.1.ok q hq)
  refine⟨k.way.1.congr cg,?_,by rw[k.worth];exact R.least,by rw[k.row];exact Dx o p cg,k.sub,R.told.tQ _ hg,fun q hq=>?_,fun a b e ha hb=>?_⟩
  ·rw[←jo o p cg,k.way.2,k.worth]
  ·have:=(R.told.mem hg hq).open;rw[←ap.sub q this];exact this
  ·have w:=k.way.1;rw[e]at w;rw[←jo o p (fun q hq=>cg q (by rw[e];exact δ hq)),←jo o p (fun q hq=>cg q (by rw[e];exact Μ hq)),k.worth];exact⟨R.top _ (w.left ha),R.top _ (w.right hb)⟩
theorem Reach.met{f0 f:Nat→Nat→Option Int}{o p least:Int}{ds:List Fd}(r:Reach f0 o p least ds f){ws:List Pr}(w:Wy (lf f0) ws):(∀q∈ws,(lf f q).isSome=true)∨∃d∈ds,vl (lf f0) o p ws≤d.worth∧∃q∈ws,q∈d.pairs:=by
 induction r with
 |start=>exact .inl w.ok
 |@round done f W gs ds r R ih=>
  rcases ih with h|⟨d,h1,h2⟩
  ·have ap:=r.apart;by_cases hm:∃q∈ws,q∈gs.flatten
   ·obtain⟨q,hq,hg⟩:=hm;obtain⟨g,U6,SK⟩:=List.mem_flatten.mp hg;rw[←R.HR]at U6;obtain⟨d,hd,rfl⟩:=List.mem_map.mp U6;refine .inr ⟨d,Μ hd,?_,q,hq,SK⟩;have cg:∀q∈ws,lf f0 q=lf f q:=fun q hq=>(ap.sub q (h q hq)).symm
    rw[jo o p cg,(R.ok d hd).worth];exact R.top _ (w.congr cg)
   ·refine .inl fun q hq=>?_
    rw[sT,ZY (fun z=>hm ⟨q,hq,z⟩)];exact h q hq
  ·exact .inr ⟨d,δ h1,h2⟩
theorem dP.met{f0:Nat→Nat→Option Int}{o p least:Int}{es:List Fd}(t:dP f0 o p least es){ws:List Pr}(w:Wy (lf f0) ws)(h:least≤vl (lf f0) o p ws):∃d∈es,vl (lf f0) o p ws≤d.worth∧∃q∈ws,q∈d.pairs:=by
 obtain⟨ds,f,r,st,pm⟩:=t.SJ;rcases r.met w with z|⟨d,h1,h2⟩
 ·exfalso;have cg:∀q∈ws,lf f0 q=lf f q:=fun q hq=>(r.apart.sub q (z q hq)).symm
  have:=st ws (w.congr cg);rw[←jo o p cg]at this
  lia
 ·exact⟨d,pm.mem_iff.mpr h1,h2⟩
theorem dP.f_{f0:Nat→Nat→Option Int}{o p least:Int}{es:List Fd}(t:dP f0 o p least es):∀d∈es,OL f0 o p least d:=fun d hd=>by
 obtain⟨ds,f,r,_,pm⟩:=t.SJ;exact r.f_ d (pm.mem_iff.mp hd)
theorem dP.apart{f0:Nat→Nat→Option Int}{o p least:Int}{es:List Fd}(t:dP f0 o p least es):es.Pairwise fun a b=>∀q∈a.pairs,q∉b.pairs:=by
 obtain⟨ds,f,r,_,pm⟩:=t.SJ;exact(pm.pairwise_iff fun{a b} h q hq FU=>h q FU hq).mpr r.apart.ap
theorem F2{l:List (List Pr)}{k:Nat}(h:∀x∈l,k≤x.length):l.length*k≤l.flatten.length:=by
 induction l with
 |nil=>simp
 |cons a r ih=>
  have h1:=h a (XU);have h2:=ih fun x hx=>h x (by simp[hx])
  rw[List.flatten_cons,List.length_append,List.length_cons,Nat.succ_mul]
  lia
theorem nP:∀{ds:List Fd},ds.Pairwise (fun a b=>∀q∈a.pairs,q∉b.pairs)→(∀d∈ds,d.pairs.Nodup)→(ds.map Fd.pairs).flatten.Nodup
 |[],_,_=>XU
 |d::r,h,h2=>by
  have h':=List.pairwise_cons.mp h;rw[List.map_cons,List.flatten_cons];refine List.nodup_append.mpr ⟨h2 d (XU),nP h'.2 fun x hx=>h2 x (by simp[hx]),fun a ha b hb e=>?_⟩;obtain⟨ps,hp,hq⟩:=List.mem_flatten.mp hb;obtain⟨x,hx,rfl⟩:=List.mem_map.mp hp;exact h'.1 x hx a ha (by rw[e];exact hq)
theorem qM{ps:List Pr}(h:ps.Pairwise fun p q=>ki p q=true):ps.Nodup:=h.imp fun{a b} h e=>by
 rw[e]at h;unfold ki at h;simp at h
theorem AZ(c:Case)(q:Pr):lf (jc c []) q=c.pw q:=by
 rw[xg];simp[oB]
theorem F5{m:Nat}{c:Case}(k:fG m (cz c)){ds:List Fd}{f:Nat→Nat→Option Int}(r:Reach (jc (cz c) []) (cz c).out (cz c).into (cz c).least ds f):ds.length≤20:=by
 have each:∀d∈ds,bV c≤d.pairs.length:=fun d hd=>by
  have F:=r.f_ d hd;have h1:=Jx (g:=lf (jc (cz c) [])) (S:=(cz c).same) k.out.1 k.into.1 F.way.up fun q hq=>by
   obtain⟨w,hw⟩:=Option.isSome_iff_exists.mp (F.way.ok q hq);refine⟨w,hw,?_⟩;rw[AZ]at hw;exact pw_le k.good hw
  rw[F.worth]at h1;have h2:=F.least;have h3:((bV c:Int)-1)*eR c+1≤(cz c).least:=by show _≤max c.least _;lia
  have hs:1≤eR c:=k.same.1;have h4:((bV c:Int)-1)*eR c<(d.way.length:Int)*eR c:=by
   have:(cz c).same=eR c:=rfl;rw[this]at h1
   lia
  have h5:(bV c:Int)-1<(d.way.length:Int):=Int.lt_of_mul_lt_mul_right h4 IL;have h6:=len_sub d.way d.pairs (F.way.up.imp fun{a b} h e=>by
   rw[e]at h;have:=h.1
   lia) F.sub
  lia
 have h1:=F2 (l:=ds.map Fd.pairs) (k:=bV c) fun x hx=>by
  obtain⟨d,hd,rfl⟩:=List.mem_map.mp hx;exact each d hd
 have h2:=nP r.apart.ap fun d hd=>qM (r.f_ d hd).tQ
 have h3:=len_sub _ ((uS c.xs.length c.ys.length).filter fun q=>(c.pw q).isSome) h2 fun q hq=>by
  obtain⟨ps,hp,hq⟩:=List.mem_flatten.mp hq;obtain⟨d,hd,rfl⟩:=List.mem_map.mp hp;have:=(r.f_ d hd).op q hq;rw[AZ,Du]at this;refine List.mem_filter.mpr ⟨?_,this⟩;obtain⟨w,hw⟩:=Option.isSome_iff_exists.mp this;obtain⟨⟨a1,a2⟩,a3,a4⟩:=c.pw_in hw;have:=o7 (n:=c.xs.length) (m:=c.ys.length) (i:=q.1.toNat) (j:=q.2.toNat) (by lia) (by lia);have e:aR (q.1.toNat,q.2.toNat)=q:=Prod.ext (by simp[aR];lia) (by simp[aR];lia);rw[e]at this;exact this
 rw[t9]at h3;rw[List.length_map]at h1;have h4:ds.length*bV c≤manyN c c.xs.length:=Nat.le_trans h1 h3;rcases Nat.lt_or_ge 20 ds.length with h|h
 ·exfalso;have h5:21*bV c≤ds.length*bV c:=Nat.mul_le_mul_right _ h;unfold bV at h4 h5
  lia
 ·exact h
inductive xu(vs:List V)(H:Hp)(Q:VK)(u3:XK):Prop
 |mk (a:Addr) (c:Case) (f g m l:Addr) (us:List V) (_:vs=[.ref a]) (_:iL H a c f g m l us) (_:fG 60 c) (_:∀H' b m',au H H'→H b=none→H' b=some (.lst [.ref f, .ref g, .ref m', .ref l])→iL H' b (cz c) f g m' l us→Q (.ref b) H'):xu vs H Q u3
inductive xv(CF:Addr)(vs:List V)(H:Hp)(Q:VK)(u3:XK):Prop
 |mk (a:Addr) (c0:Case) (f g m l:Addr) (us:List V) (most:Nat) (_:vs=[.ref a]) (_:iL H a (cz c0) f g m l us) (_:fG most (cz c0)) (_:most≤50) (_:∀es,dP (jc (cz c0) []) (cz c0).out (cz c0).into (cz c0).least es→∀H' r vs,au H H'→H r=none→H' r=some (.lst vs)→bU (fun b=>H b=none) H' CF vs es→Q (.ref r) H'):xv CF vs H Q u3
end QF
namespace QF
open PySem L2 PySem.Spec PyProof.Rows PySem.W PySem.Calls
section
variable{X:Cx}
inductive LN(K:Frag)(neg:Bool)(x:V)(y:V)(H:Hp)(Q:VK):Prop
 |mk (p q:Addr) (r:Pr) (vs:List V) (ps:List Pr) (_:x= .ref p) (_:y= .ref q) (_:H p=some (.tup (j_ r))) (_:iK K H q vs) (_:eF H vs ps) (_:Q (.bl (xor neg (decide (r∈ps)))) H):LN K neg x y H Q
open Classical in
theorem zf{pins:List (Addr×Obj)}{s:Shared}{σ:L2.St}{H:Hp}{p q:Addr}{r:Pr}{vs:List V}{ps:List Pr}(hu:X.A.units+1<cLine)(I:Inv X pins σ H s)(hp:H p=some (.tup (j_ r)))(hq:iK X.K H q vs)(P:eF H vs ps):
  ∃(its:List Value)(e:Value→Bool),s.heap.IsList q its.toArray∧(∀y∈its.toArray,SeqAt.EqAt X.A.in1 s y (.ref p) (e y))∧its.toArray.any e=decide (r∈ps):=by
 obtain⟨its,r1,pl,hz⟩:=I.tuple (xs:=j_ r) (.of hp);obtain⟨e6,r2,KO,Gm⟩:=I.list hq;have lc:=P.1;have l2:=r2.length;have key:∀j,j<e6.length→∃g t,ps[j]?=some g∧e6[j]?=some (.ref t)∧H t=some (.tup (j_ g)):=fun j hj=>by
  have hc:ps[j]?=some ps[j]:=by simp[show j<ps.length by lia]
  obtain⟨t,h1,h2⟩:=P.2 j _ hc;obtain⟨u,eu,ru⟩:=r2.get h1;cases ru;exact⟨_,t,hc,eu,h2⟩
 let e:Value→Bool:=fun y=>decide (∃t,y=Value.ref t∧H t=some (.tup (j_ r)))
 have ee:∀{t g},H t=some (.tup (j_ g))→e (.ref t)=decide (g=r):=fun{t g} h=>by
  show decide _=_;rw[Bool.eq_iff_iff,decide_eq_true_iff,decide_eq_true_iff];constructor
  ·rintro⟨t',e1,e2⟩;cases e1;rw[h]at e2;have:=HO.tup.inj (Zu e2);simp only[j_,List.cons.injEq,V.int.injEq,and_true]at this;exact Prod.ext this.1 this.2
  ·rintro rfl;exact⟨t,rfl,h⟩
 refine⟨e6,e,KO.isList,fun y hy=>?_,?_⟩
 ·obtain⟨j,hj,rfl⟩:=Array.mem_iff_getElem.mp hy;have DR:j<e6.length:=by simpa using hj
  obtain⟨g,t,h1,h2,h3⟩:=key j DR;have ej:e6.toArray[j]= .ref t:=by
   have:=(ZF h2).2;simpa using this
  rw[ej,ee h3];by_cases hn:t=p
  ·subst hn;rw[hp]at h3;have:=HO.tup.inj (Zu h3);simp only[j_,List.cons.injEq,V.int.injEq,and_true]at this;have:r=g:=Prod.ext this.1 this.2;rw[decide_eq_true this.symm];exact SeqAt.EqAt.same _
  ·obtain⟨Xz,r3,XA,aaJ⟩:=I.tuple (xs:=j_ g) (.of h3);have:=SeqAt.EqAt.of_refs hn (SeqAt.RcAt.tuples (A:=X.A.in1) XA pl (show X.A.in1.units<cLine from hu) (yP r3 r1 rfl rfl));rw[←BS,←nJ,r3.length,r1.length];simpa using this
 ·rw[Bool.eq_iff_iff,Array.any_eq_true,decide_eq_true_iff];constructor
  ·rintro⟨j,hj,hh⟩;have DR:j<e6.length:=by simpa using hj
   obtain⟨g,t,h1,h2,h3⟩:=key j DR;have ej:e6.toArray[j]= .ref t:=by
    have:=(ZF h2).2;simpa using this
   rw[ej,ee h3,decide_eq_true_iff]at hh;rw[←hh];exact ZS h1
  ·intro hm;obtain⟨j,hj,hg⟩:=List.mem_iff_getElem.mp hm;have DR:j<e6.length:=by lia
   obtain⟨g,t,h1,h2,h3⟩:=key j DR;refine⟨j,by simpa using DR,?_⟩;have ej:e6.toArray[j]'(by simpa using DR)= .ref t:=by
    have:=(ZF h2).2;simpa using this
   rw[ej,ee h3,decide_eq_true_iff];rw[Χ hj,hg]at h1;exact(Zu h1).symm
theorem A0(K:Frag)(hu:X.A.units+1<cLine)(hK:X.K=K:=by rfl):rz X (compareOp .In) (LN K false):=by
 subst hK;intro pins s σ H x y v u Q I rx ry h;obtain⟨p,q,r,vs,ps,rfl,rfl,hp,hq,P,k⟩:=h;cases rx;cases ry;obtain⟨its,e,pl,h1,h2⟩:=zf hu I hp hq P;refine SeqAt.in_listAt e pl h1 ⟨.bl (decide (r∈ps)),H,I,?_,by simpa using k⟩;rw[h2];rfl
theorem nc(K:Frag)(hu:X.A.units+1<cLine)(hK:X.K=K:=by rfl):rz X (compareOp .NotIn) (LN K true):=by
 subst hK;intro pins s σ H x y v u Q I rx ry h;obtain⟨p,q,r,vs,ps,rfl,rfl,hp,hq,P,k⟩:=h;cases rx;cases ry;obtain⟨its,e,pl,h1,h2⟩:=zf hu I hp hq P;refine SeqAt.notIn_listAt e pl h1 ⟨.bl (!decide (r∈ps)),H,I,?_,by simpa using k⟩;rw[h2];rfl
end
end QF
namespace QF
open PySem L2
theorem HV{xs:List V}{i j:Nat}(hi:i≤xs.length)(hj:j≤xs.length):qr xs (some (i:Int)) (some (j:Int))=(xs.drop i).take (j-i):=by
 unfold qr;rw[kN IL (by lia),kN IL (by lia)];simp
theorem F6{ps:List Pr}{a n k:Nat}(h:k<n):pr ((ps.drop a).take n) k=pr ps (a+k):=by
 rw[Ho h];simp[pr,List.getD_eq_getElem?_getD]
theorem Dy{c:Case}{ps:List Pr}(g:fe c ps ps.length){a n:Nat}(hn:0<n)(h:a+n≤ps.length):iM c ((ps.drop a).take n)=true:=by
 have hl:((ps.drop a).take n).length=n:=by rw[List.length_take,List.length_drop];lia
 refine jb (fun z=>by rw[z]at hl;simp at hl;lia) fun k hk=>?_
 rw[hl]at hk;have:=g (a+k) (by lia);simp only[cW]at this⊢;rw[F6 hk,F6 (by lia:k-1<n)];by_cases e:k=0
 ·subst e;simp only[Nat.add_zero,Bool.and_eq_true]at this⊢;exact⟨this.1,XU⟩
 ·rw[show a+(k-1)=a+k-1 by lia];simp only[Bool.and_eq_true,Bool.or_eq_true,decide_eq_true_eq]at this⊢;exact⟨this.1, .inr (this.2.resolve_left IL)⟩
theorem oT.of{c:Case}{ps:List Pr}(h:iM c ps=true):oT c [] ps:=⟨h,fun p _=>XU⟩
theorem sU{c:Case}{ps:List Pr}(h:iM c ps=true):Wy (lf (jc c [])) ps∧dJ c ps (ps.length-1)=vl (lf (jc c [])) c.out c.into ps:=⟨yU.mp (.of h),Hv (.of h)⟩
end QF
namespace L2
open PySem PySem.Spec PyProof.Rows PySem.W PySem.Calls
inductive fI(K:Frag)(x q:Str)(st:Stmt)(f:Addr):Prop
 |mk {oc kV dc pm cd ct:Value} {od an:Option Addr} {sl:Array (Option Value)} (l:K.lookup f=some ⟨oc,od, .func (fnOf x q (fL st) (eQ st) (av st) .none kV dc pm an cd ct),sl⟩) (c:codeIn K cd q=true) (k:keepIn K (.ref f)=true):fI K x q st f
theorem Cj{Φ:Value→Value→Value→Option Addr→Value→Value→List Value→Prop}(h:∀k d p n c t a,Φ k d p n c t [a])(k d p:Value)(n:Option Addr)(c t:Value)(us:List Value)(e:us.length=1):Φ k d p n c t us:=QF.WX (h k d p n c t) us e
theorem xw{Φ:Value→Value→Value→Option Addr→Value→Value→List Value→Prop}(h:∀k d p n c t a b,Φ k d p n c t [a,b])(k d p:Value)(n:Option Addr)(c t:Value)(us:List Value)(e:us.length=2):Φ k d p n c t us:=QF.WY (h k d p n c t) us e
theorem zS{Φ:Value→Value→Value→Option Addr→Value→Value→List Value→Prop}(h:∀k d p n c t x y z,Φ k d p n c t [x,y,z])(k d p:Value)(n:Option Addr)(c t:Value)(us:List Value)(e:us.length=3):Φ k d p n c t us:=QF.WZ (h k d p n c t) us e
theorem Qu{Φ:Value→Value→Value→Option Addr→Value→Value→List Value→Prop}(h:∀k d p n c t x y z u,Φ k d p n c t [x,y,z,u])(k d p:Value)(n:Option Addr)(c t:Value)(us:List Value)(e:us.length=4):Φ k d p n c t us:=QF.W0 (h k d p n c t) us e
theorem U7{Φ:Value→Value→Value→Option Addr→Value→Value→List Value→Prop}(h:∀k d p n c t x y z u v,Φ k d p n c t [x,y,z,u,v])(k d p:Value)(n:Option Addr)(c t:Value)(us:List Value)(e:us.length=5):Φ k d p n c t us:=QF.W4 (h k d p n c t) us e
theorem XB{Φ:Value→Value→Value→Option Addr→Value→Value→List Value→Prop}(h:∀k d p n c t x y z u v w,Φ k d p n c t [x,y,z,u,v,w])(k d p:Value)(n:Option Addr)(c t:Value)(us:List Value)(e:us.length=6):Φ k d p n c t us:=QF.W5 (h k d p n c t) us e
section
variable{P:Program}{w:World}{K:Frag}{mg:Str→Option Value}{base h:Heap}{cm:Bool}{k:Nat}{x q:Str}{st:Stmt}{f C:Addr}{ps:List Str}{sp:Sp}
def Qv(x q:Str)(st:Stmt)(ps:List Str):Prop:=∀(kV doc pm:Value)(an:Option Addr)(bR ct:Value)(us:List Value),us.length=ps.length→bindArgs (fnOf x q (fL st) (eQ st) (av st) .none kV doc pm an bR ct) ⟨us,[]⟩=pure (ps.zip us)
theorem fI.df(d:fI K x q st f)(X:K.In h)(G:h.Ns mainGlobals mg)(a:nsIn K mainGlobals x=some (some (.ref f)))(ok:∀fd,jy K x q st f fd→a8 P w K mg base (cV P w) cm k f fd ps sp)(b:Qv x q st ps):bJ P w K mg base cm k x ps sp:=by
 obtain⟨l,c,z⟩:=d;have F:=Ex (st:=st) l c z;exact EF F (mg_of X G a) (F.binds b) (ok _ F)
theorem fI.ok(d:fI K x q st f){R:FuncData→Prop}(ok:∀fd,iG K x q st f fd→R fd)(b:Qv x q st ps):∃fd,R fd∧Binds K fd ps []:=by
 obtain⟨l,c,z⟩:=d;exact⟨_,ok _ (BH (st:=st) l c z), .all fun us e=>b _ _ _ _ _ _ us e⟩
theorem fI.mt(d:fI K x q st f)(cl:wA K C)(a:findIn K (.ref C) x=some (some (.ref f)))(i:isFn K (.ref f)=true)(ok:∀fd,iG K x q st f fd→a8 P w K mg base (cV P w) cm k f fd ps sp)(b:Qv x q st ps):eM P w K mg base cm k C x ps sp:=by
 obtain⟨fd,h1,h2⟩:=d.ok (R:=fun fd=>a8 P w K mg base (cV P w) cm k f fd ps sp) ok b;obtain⟨l,c,z⟩:=d;exact CS h1 ⟨a,i,z⟩ h2 cl
theorem fI.nw{y:Str}(d:fI K x q st f)(m:mg y=some (.ref C))(g1:makesIn K C=true)(g2:keepIn K (.ref C)=true)(a:findIn K (.ref C) "__init__"=some (some (.ref f)))(i:isFn K (.ref f)=true)(ok:∀fd,iG K x q st f fd→a8 P w K mg base (cV P w) cm k f fd ps sp)(b:Qv x q st ps):m6 P w K mg base cm k y C ps [] sp:=by
 obtain⟨fd,h1,h2⟩:=d.ok (R:=fun fd=>a8 P w K mg base (cV P w) cm k f fd ps sp) ok b;exact yK h1 ⟨g1,a,i,g2⟩ m h2 .nil
structure OM(K:Frag)(x:Str)(C:Addr):Prop where
 a:nsIn K mainGlobals x=some (some (.ref C))
 b:excIn K C [.type "ValueError", .type "Exception", .type "BaseException", .type "object"] "ValueError.__new__"=true
 c:findIn K (.ref C) "__class__"=some (some (.builtin "object.__class__"))
 d:mroIn K C (.type "object")=some true
 e:mroIn K C (.type "BaseException")=some true
 f:findIn K (.ref C) "__getattribute__"=some (some (.builtin "BaseException.__getattribute__"))
 g:findIn K (.ref C) "__getattr__"=some none
 h:instIn K (.ref C) (.type "tuple")=some false
 i:keepIn K (.ref C)=true
theorem OM.er{x:Str}{C:Addr}(e:OM K x C)(X:K.In h)(G:h.Ns mainGlobals mg):QF.Er K mg x C:=⟨mg_of X G e.a,e.b,e.c,e.d,e.e,e.f,e.g,e.h,e.i⟩
structure ON(K:Frag)(x:Str)(C:Addr):Prop where
 a:nsIn K mainGlobals x=some (some (.ref C))
 b:makesIn K C=true
 c:keepIn K (.ref C)=true
def zT(K:Frag)(x:Str):Prop:=nsIn K mainGlobals x=some none
structure TZ(K:Frag):Prop where
 a:zT K "len"
 b:zT K "range"
 c:zT K "isinstance"
 d:zT K "int"
 e:zT K "bool"
 f:zT K "str"
 g:zT K "list"
 h:zT K "tuple"
 i:zT K "dict"
 j:zT K "all"
 k:zT K "any"
 l:zT K "min"
 m:zT K "max"
 n:zT K "enumerate"
 o:zT K "ValueError"
theorem nQ{x:Str}(z:zT K x)(X:K.In h)(G:h.Ns mainGlobals mg):mg x=none:=mg_none_of X G z
theorem TZ.tb(z:TZ K)(X:K.In h)(G:h.Ns mainGlobals mg):QF.TB mg:=⟨nQ z.a X G,nQ z.b X G,nQ z.c X G,nQ z.d X G,nQ z.e X G,nQ z.f X G,nQ z.g X G,nQ z.h X G,nQ z.i X G,nQ z.j X G,nQ z.k X G,nQ z.l X G,nQ z.m X G,nQ z.n X G,nQ z.o X G⟩
end
end L2
namespace QF
open PySem L2
def DV(H:Hp)(us:List V)(ts:List (Pr×Int)):Prop:=us.length=ts.length∧∀(k:Nat)(x:Pr×Int),ts[k]?=some x→∃t,us[k]?=some (V.ref t)∧H t=some (.tup [.int x.1.1, .int x.1.2, .int x.2])
theorem DV.cF{H H':Hp}{us:List V}{ts:List (Pr×Int)}(S:DV H us ts)(t:dW H H'):DV H' us ts:=⟨S.1,fun k x e=>let ⟨a,h1,h2⟩:=S.2 k x e;⟨a,h1,t _ _ h2⟩⟩
theorem DV.nil{H:Hp}:DV H [] []:=⟨rfl,fun k x e=>by simp at e⟩
theorem DV.snoc{H:Hp}{us:List V}{ts:List (Pr×Int)}(S:DV H us ts){t:Addr}{x:Pr×Int}(h:H t=some (.tup [.int x.1.1, .int x.1.2, .int x.2])):DV H (us++[.ref t]) (ts++[x]):=by
 refine⟨by simp[S.1],fun k y e=>?_⟩;by_cases hk:k<ts.length
 ·rw[Ι hk]at e;rw[Ι (by rw[S.1];exact hk)];exact S.2 k y e
 ·rw[Ο IL]at e;have zM:k-ts.length=0:=by
   have:=(ZF e).1;simp at this;lia
  rw[zM]at e;cases e;refine⟨t,?_,h⟩;rw[Ο (by rw[S.1];lia),S.1,zM];rfl
def lS(c:Case)(sh:List Pr)(i:Nat):Nat→List (Pr×Int)
 |0=>[]
 |j+1=>lS c sh i j++match oB c sh (aR (i,j))with|some w=>[(aR (i,j),w)]|none=>[]
def ko(c:Case)(sh:List Pr):Nat→List (Pr×Int)
 |0=>[]
 |n+1=>ko c sh n++lS c sh n c.ys.length
theorem qN(c:Case)(sh:List Pr)(i:Nat):∀j,(lS c sh i j).length≤j
 |0=>Nat.le_refl _
 |j+1=>by
  have:=qN c sh i j;simp only[lS,List.length_append];split<;>simp<;>lia
theorem v9(c:Case)(sh:List Pr):∀n,(ko c sh n).length≤n*c.ys.length
 |0=>by simp[ko]
 |n+1=>by
  have:=v9 c sh n;have:=qN c sh n c.ys.length;simp only[ko,List.length_append,Nat.succ_mul]
  lia
theorem v_{c:Case}{sh:List Pr}{i:Nat}{x:Pr×Int}:∀{j},x∈lS c sh i j→oB c sh x.1=some x.2
 |0,h=>by cases h
 |j+1,h=>by
  rcases List.mem_append.mp h with h|h
  ·exact v_ h
  ·split at h
   ·rename_i w e
    have:x=(aR (i,j),w):=by simpa using h
    rw[this];exact e
   ·cases h
theorem wb{c:Case}{sh:List Pr}{x:Pr×Int}:∀{n},x∈ko c sh n→oB c sh x.1=some x.2
 |0,h=>by cases h
 |n+1,h=>by
  rcases List.mem_append.mp h with h|h
  ·exact wb h
  ·exact v_ h
inductive t_(vs:List V)(H:Hp)(Q:VK)(u3:XK):Prop
 |mk (a s:Addr) (c:Case) (f g m l:Addr) (us ws:List V) (sh:List Pr) (_:vs=[.ref a, .ref s]) (_:iL H a c f g m l us) (_:H s=some (.lst ws)) (_:eF H ws sh) (_:c.xs.length≤50) (_:c.ys.length≤50) (_:∀H' r vs,au H H'→H r=none→H' r=some (.lst vs)→DV H' vs (ko c sh c.xs.length)→Q (.ref r) H'):t_ vs H Q u3
inductive ua(CF:Addr)(vs:List V)(H:Hp)(Q:VK)(u3:XK):Prop
 |mk (y:Addr) (P:Addr→Prop) (d:Fd) (dy wy rw pr:Addr) (fT gT:List V) (_:vs=[.ref y]) (_:o8 P H CF y d dy wy rw pr fT gT) (_:d.row.length=d.way.length) (_:d.way≠[]) (_:∀H',au H H'→Q (.bl true) H'):ua CF vs H Q u3
inductive qO(CF:Addr)(vs:List V)(H:Hp)(Q:VK)(u3:XK):Prop
 |mk (a t:Addr) (c:Case) (f g m l:Addr) (us ws:List V) (es:List Fd) (_:vs=[.ref a, .ref t]) (_:iL H a c f g m l us) (_:fG 50 c) (_:H t=some (.lst ws)) (_:bU (fun _=>True) H CF ws es) (_:dP (jc c []) c.out c.into c.least es) (_:∀H',au H H'→Q (.bl true) H'):qO CF vs H Q u3
theorem lT{c:Case}{ps:List Pr}(w:Wy (lf (jc c [])) ps):iM c ps=true:=(yU.mpr w).1
theorem HW(g:Pr→Option Int)(o p:Int)(ps:List Pr):(zR g o p ps).length=ps.length:=by simp[zR]
theorem dP.pair{c:Case}{es:List Fd}(t:dP (jc c []) c.out c.into c.least es){q:Pr}{w:Int}(h:oB c [] q=some w)(hl:c.least≤w):∃d∈es,q∈d.pairs:=by
 have hq:lf (jc c []) q=some w:=by rw[xg];exact h
 obtain⟨d,hd,_,p,hp,CH⟩:=t.met (ws:=[q]) (.one (by rw[hq];rfl)) (by simp[vl,hq];exact hl);have:p=q:=by simpa using hp
 exact⟨d,hd,this▸CH⟩
theorem dP.F8{m:Nat}{c:Case}(ok:fG m c){es:List Fd}(t:dP (jc c []) c.out c.into c.least es){ds:List Fd}(hs:ds.Sublist es):(ds.map Fd.pairs).flatten.length≤m*m:=by
 have h2:=nP (t.apart.sublist hs) fun d hd=>qM (t.f_ d (hs.subset hd)).tQ
 have h3:=len_sub _ (uS c.xs.length c.ys.length) h2 fun q hq=>by
  obtain⟨ps,hp,hq⟩:=List.mem_flatten.mp hq;obtain⟨d,hd,rfl⟩:=List.mem_map.mp hp;have:=(t.f_ d (hs.subset hd)).op q hq;rw[AZ]at this;obtain⟨w,hw⟩:=Option.isSome_iff_exists.mp this;obtain⟨⟨a1,a2⟩,a3,a4⟩:=c.pw_in hw;have:=o7 (n:=c.xs.length) (m:=c.ys.length) (i:=q.1.toNat) (j:=q.2.toNat) (by lia) (by lia);have e:aR (q.1.toNat,q.2.toNat)=q:=Prod.ext (by simp[aR];lia) (by simp[aR];lia);rw[e]at this;exact this
 rw[o6]at h3;exact Nat.le_trans h3 (Nat.mul_le_mul ok.x ok.y)
end QF
namespace L2
open PySem PySem.Spec PyProof.Rows PySem.W PySem.Calls
open AutoSeq1 (wpAny_loadPart')
end L2
namespace QF
open PySem L2 PySem.Spec PyProof.Rows PySem.W PySem.Calls
section
variable{X:Cx}
end
def lU(es:List Fd)(k:Nat):List Pr:=((es.take k).map Fd.pairs).flatten
theorem ub{es:List Fd}{k:Nat}{d:Fd}(ek:es[k]?=some d):lU es (k+1)=lU es k++d.pairs:=by
 unfold lU;rw[List.take_succ,ek];simp
theorem HX{es:List Fd}{k:Nat}{q:Pr}(h:q∈lU es k):∃d∈es.take k,q∈d.pairs:=by
 obtain⟨ps,hp,hq⟩:=List.mem_flatten.mp h;obtain⟨d,hd,rfl⟩:=List.mem_map.mp hp;exact⟨d,hd,hq⟩
theorem LO{es:List Fd}{d:Fd}{q:Pr}(hd:d∈es)(hq:q∈d.pairs):q∈lU es es.length:=by
 unfold lU;rw[List.take_length];exact List.mem_flatten.mpr ⟨_,List.mem_map.mpr ⟨d,hd,rfl⟩,hq⟩
theorem dP.HY{c:Case}{es:List Fd}(t:dP (jc c []) c.out c.into c.least es){k:Nat}{d:Fd}(ek:es[k]?=some d){q:Pr}(hq:q∈d.pairs):q∉lU es k:=fun h=>by
 obtain⟨e,he,h2⟩:=HX h;obtain⟨hk,rfl⟩:=ZF ek;obtain⟨i,hi,rfl⟩:=List.mem_iff_getElem.mp he;rw[List.length_take]at hi;rw[List.getElem_take]at h2;exact List.pairwise_iff_getElem.mp t.apart i k (by lia) hk IL q h2 hq
theorem dP.F9{m:Nat}{c:Case}(ok:fG m c){es:List Fd}(t:dP (jc c []) c.out c.into c.least es)(k:Nat):(lU es k).length≤m*m:=t.F8 ok (List.take_sublist _ _)
theorem HZ{α:Type}{l:List α}{i:Nat}{g:α}(h:l.Nodup)(e:l[i]?=some g):g∉l.take i:=fun m=>by
 obtain⟨hi,rfl⟩:=ZF e;obtain⟨j,hj,e2⟩:=List.mem_iff_getElem.mp m;rw[List.length_take]at hj;rw[List.getElem_take]at e2;exact List.pairwise_iff_getElem.mp h j i IL hi IL e2
theorem F_{kvs:List (List Key×V)}{ps:List Pr}(h:m9 kvs ps)(g:Pr)(v:V):m9 (putK kvs (bb g) v) (ps++[g]):=fun p=>by
 rw[ji];by_cases hp:p=g
 ·rw[Z1 (by rw[hp])];simp[hp]
 ·rw[ZY (fun z=>hp (dB z)),h p];simp[hp]
abbrev Ky:=Int×List Pr
inductive Rn(o p least:Int):(Nat→Nat→Option Int)→List Fd→Prop
 |stop {f:Nat→Nat→Option Int} (_:Stop f o p least):Rn o p least f []
 |round {f:Nat→Nat→Option Int} {W:Int} {gs:List (List Pr)} {ds rs:List Fd} (_:mK f o p least W gs ds) (_:Rn o p least (lB f gs.flatten) rs):Rn o p least f (ds++rs)
section
variable{X:Cx}
inductive HL(K:Frag)(x:V)(y:V)(H:Hp)(Q:VK):Prop
 |mk (p q:Addr) (xs ys:List V) (ps:List Pr) (_:x= .ref p) (_:y= .ref q) (_:iK K H p xs) (_:iK K H q ys) (_:eF H xs ps) (_:eF H ys ps) (_:Q (.bl false) H):HL K x y H Q
end
end QF
namespace QF
open PySem L2
end QF
namespace QF
open PySem L2
inductive xx(CF:Addr)(vs:List V)(H:Hp)(Q:VK)(u3:XK):Prop
 |mk (a t w:Addr) (c:Case) (f g m l:Addr) (us ts:List V) (es:List Fd) (ws:List V) (ps:List Pr) (_:vs=[.ref a, .ref t, .ref w]) (_:iL H a c f g m l us) (_:BP c) (_:H t=some (.lst ts)) (_:bU (fun _=>True) H CF ts es) (_:H w=some (.lst ws)) (_:eF H ws ps) (_:ps.length≤10000) (_:iM c ps=true) (_:dP (jc c []) c.out c.into c.least es) (_:∀H',au H H'→Q (.bl true) H'):xx CF vs H Q u3
inductive uc(CF:Addr)(vs:List V)(H:Hp)(Q:VK)(u3:XK):Prop
 |mk (a t y w:Addr) (c:Case) (f g m l:Addr) (us ts:List V) (es:List Fd) (d:Fd) (dy wy rw pr:Addr) (fT gT ws:List V) (ps:List Pr) (_:vs=[.ref a, .ref t, .ref y, .ref w]) (_:iL H a c f g m l us) (_:BP c) (_:H t=some (.lst ts)) (_:bU (fun _=>True) H CF ts es) (_:d∈es) (_:o8 (fun _=>True) H CF y d dy wy rw pr fT gT) (_:H w=some (.lst ws)) (_:eF H ws ps) (_:ps.length≤2000) (_:d.way.length≤2500) (_:fe c ps ps.length) (_:dP (jc c []) c.out c.into c.least es) (_:∀H',au H H'→Q (.bl true) H'):uc CF vs H Q u3
theorem H_{g:Pr→Option Int}{hs ws:List Pr}(h1:hs.Pairwise qD)(h2:∀q∈hs,(g q).isSome=true)(w:Wy g ws)(h3:∀q∈hs,qD q (jZ ws)):Wy g (hs++ws):=by
 have hf:∀q∈ws,q=jZ ws∨qD (jZ ws) q:=fun q hq=>by
  cases e:ws with
  |nil=>rw[e]at hq;cases hq
  |cons a r=>
   have u:=w.up;rw[e]at hq u;rcases List.mem_cons.mp hq with z|z
   ·exact .inl z
   ·exact .inr ((List.pairwise_cons.mp u).1 q z)
 refine⟨fun z=>w.ne (List.append_eq_nil_iff.mp z).2,fun q hq=>?_,ζ ⟨h1,w.up,fun a ha b hb=>?_⟩⟩
 ·rcases List.mem_append.mp hq with hq|hq
  ·exact h2 q hq
  ·exact w.ok q hq
 ·have s:=h3 a ha;rcases hf b hb with e|s2
  ·rw[e];exact s
  ·exact⟨Int.lt_trans s.1 s2.1,Int.lt_trans s.2 s2.2⟩
theorem Ia{g:Pr→Option Int}{hs ws:List Pr}(h1:hs.Pairwise qD)(h2:∀q∈hs,(g q).isSome=true)(w:Wy g ws)(h3:∀q∈hs,qD (lstP ws) q):Wy g (ws++hs):=by
 refine⟨fun z=>w.ne (List.append_eq_nil_iff.mp z).1,fun q hq=>?_,ζ ⟨w.up,h1,fun a ha b hb=>?_⟩⟩
 ·rcases List.mem_append.mp hq with hq|hq
  ·exact w.ok q hq
  ·exact h2 q hq
 ·have s:=h3 b hb;by_cases e:a=lstP ws
  ·rw[e];exact s
  ·have:qD a (lstP ws):=by
    obtain⟨i,hi,rfl⟩:=List.mem_iff_getElem.mp ha;have hl:lstP ws=ws[ws.length-1]:=by
     unfold lstP;simp[List.getLast?_eq_getElem?];rw[Χ IL];rfl
    rw[hl]at e⊢;refine List.pairwise_iff_getElem.mp w.up i (ws.length-1) hi IL ?_;rcases Nat.lt_or_ge i (ws.length-1)with z|z
    ·exact z
    ·exact Y7 (by congr 1;lia) e
   exact⟨Int.lt_trans this.1 s.1,Int.lt_trans this.2 s.2⟩
theorem A3{c:Case}{ps:List Pr}(g:fe c ps ps.length):ps.Pairwise qD∧∀q∈ps,(lf (jc c []) q).isSome=true:=by
 by_cases h:ps=[]
 ·subst h;exact⟨.nil,fun q hq=>by cases hq⟩
 ·have w:=(sU (jb h g)).1;exact⟨w.up,w.ok⟩
end QF
namespace L2
open PySem PySem.Spec PyProof.Rows PySem.W PySem.Calls
open AutoSeq1 (wpAny_loadPart')
end L2
namespace QF
open PySem L2 PySem.Spec PyProof.Rows PySem.W PySem.Calls
section
variable{X:Cx}
end
end QF
namespace QF
open PySem L2
end QF
namespace QF
open PySem L2
section
variable{m:Nat}{c:Case}
end
section
variable{φ ψ:Pr→Pr}{o p o' p' W least:Int}{f g:Nat→Nat→Option Int}
end
end QF
namespace L2
open PySem PySem.Spec PyProof.Rows PySem.W PySem.Calls
open AutoSeq1 (wpAny_loadPart')
open PySem.SeqAt PySem.MeetsSeq PySem.MeetsSeq2 PySem.MeetsSeq3 PySem.SeqRoads2
open PySem.SeqAt
section
variable{prog:Program}{w:World}{A:Around}{E:Value→Shared→Prop}{s:Shared}
end
end L2
namespace QF
open PySem L2 PySem.Spec PyProof.Rows PySem.W PySem.Calls
end QF
namespace QF
open PySem L2
section
variable{φ:Pr→Pr}{c:Case}{es:List Fd}{ks:List Ky}
end
section
open PySem.Spec PyProof.Rows PySem.W PySem.Calls
variable{X:Cx}
end
structure OO(c:Case)(zs:List Str):Prop where
 x:∀w∈c.xs,w∈zs
 y:∀w∈c.ys,w∈zs
 f:∀f∈c.fs,f.1∈zs∧f.2.1∈zs
section
variable{zs rs:List Str}{c:Case}(hl:rs.length=zs.length)(nd:rs.Nodup)(W:OO c zs)
include hl nd
include W
end
def U8(n m:Nat)(q:Pr):Prop:=(0≤q.1∧q.1<n)∧0≤q.2∧q.2<m
section
variable{n m:Nat}{S o p least:Int}(hS:0<S)(ho:40*S≤o)(hp:40*S≤p)(hn:n≤40)(hl:1≤least)
structure Un(n m:Nat)(S:Int)(f:Nat→Nat→Option Int):Prop where
 val:∀q,(lf f q).isSome=true→lf f q=some S∧U8 n m q
 all:∀q q',(lf f q).isSome=true→U8 n m q'→q.1-q.2=q'.1-q'.2→(lf f q').isSome=true
include hS ho hp hn
include hl
end
section
variable{n m:Nat}{S o p least:Int}{w:Str}(hS:0<S)(ho:40*S≤o)(hp:40*S≤p)(hn:n≤40)(hl:1≤least)
include hS ho hp hn hl
end
abbrev sR(a:Addr):Option V:=some (.ref a)
abbrev sI(a:Int):Option V:=some (.int a)
abbrev sS(a:Str):Option V:=some (.str a)
end QF
namespace SM
open PySem L2 QF
def top(i:Nat):Stmt:=PySem.Challenge.pw_quotefind_k20_none_better.main.body.getD i (.Pass ⟨0,0,0,0⟩)
abbrev gq:Stmt:=top 28
abbrev mL:Stmt:=top 29
abbrev kU:Stmt:=top 34
abbrev jq:Stmt:=top 35
abbrev gu:Stmt:=top 36
abbrev hV:Stmt:=top 37
abbrev bD:Stmt:=inClass (top 38) 0
abbrev d8:Stmt:=inClass (top 38) 1
abbrev kW:Stmt:=top 11
abbrev A4:Stmt:=top 12
abbrev fU:Stmt:=top 13
abbrev dQ:Stmt:=inClass (top 14) 1
abbrev eU:Stmt:=inClass (top 14) 0
abbrev g7:Stmt:=inClass (top 14) 2
abbrev d_:Stmt:=inClass (top 14) 4
abbrev cX:Stmt:=inClass (top 14) 3
abbrev fh:Stmt:=inClass (top 14) 5
abbrev iI:Stmt:=inClass (top 14) 6
abbrev fV:Stmt:=inClass (top 20) 0
abbrev nS:Stmt:=top 24
abbrev fj:Stmt:=top 21
abbrev gw:Stmt:=inClass (top 7) 0
abbrev iT:Stmt:=inClass (top 7) 1
abbrev fC:Stmt:=inClass (top 7) 2
abbrev fm:Stmt:=inClass (top 7) 3
abbrev hZ:Stmt:=inClass (top 7) 4
abbrev fo:Stmt:=inClass (top 8) 0
abbrev fD:Stmt:=inClass (top 8) 1
abbrev dM:Stmt:=inClass (top 8) 2
abbrev eV:Stmt:=inClass (top 8) 3
abbrev j6:Stmt:=top 9
abbrev mM:Stmt:=top 16
abbrev fJ:Stmt:=top 17
abbrev gy:Stmt:=top 22
abbrev kX:Stmt:=top 23
abbrev qQ:Stmt:=top 25
abbrev qR:Stmt:=top 40
abbrev kY:Stmt:=top 41
abbrev lV:Stmt:=top 42
abbrev lW:Stmt:=top 43
abbrev iU:Stmt:=top 44
abbrev gz:Stmt:=top 45
abbrev lX:Stmt:=top 46
abbrev lY:Stmt:=top 47
abbrev lZ:Stmt:=top 48
abbrev iV:Stmt:=top 50
abbrev kZ:Stmt:=top 49
abbrev k8:Stmt:=top 51
abbrev k_:Stmt:=top 52
abbrev l0:Stmt:=top 53
abbrev gA:Stmt:=top 54
abbrev h_:Stmt:=top 55
abbrev iW:Stmt:=top 56
abbrev ic:Stmt:=top 57
abbrev la:Stmt:=top 58
abbrev iC:Stmt:=top 59
abbrev gB:Stmt:=top 60
abbrev ud:Stmt:=top 61
section
variable{P:Program}{w:World}{K:W.Frag}{mg:Str→Option Value}{base:Heap}
variable{ed cZ aV aB ay aI az kq:Addr}
variable(T:TB mg)
theorem nU:aL ["sign"] ["sign"] (av gq):=⟨rfl,rfl,rfl,by decide+kernel,rfl,by decide+kernel,by decide+kernel⟩
include T in
theorem nV{f:Addr}{fd:FuncData}(F:jy K "is_small_letter" "is_small_letter" gq f fd):a8 P w K mg base (cV P w) true 1 f fd ["sign"] Aq:=by
 refine F.gk nU Y_ (fun bR A outer s H vs Q E hr h hX=>?_)
 ·obtain⟨i,rfl,_⟩:=h;rfl
 ·obtain⟨c,rfl,q⟩:=h;refine⟨_,(ZO (Z9 (@sW _ _ _ _ _ _ _ (@d6 _ _ _ _ _ _ _ _ vT dZ Y0 (aT _)) (@kI _ _ _ _ _ (@d6 _ _ _ _ _ _ _ _ vT Y0 dZ (aT _)))))),?_⟩;refine⟨_,rfl,_,_,rfl,rfl,_,rfl,?_⟩;have q:Q (.bl (decide (97≤c)&&decide (c≤122))) H:=q;rw[←RX,←RY]at q;refine aX (fun h=>?_) (fun h=>?_)
  ·refine⟨_,rfl,_,_,rfl,rfl,?_⟩;rw[h,Bool.true_and]at q;exact q
  ·rw[Bool.not_eq_true]at h;rw[h,Bool.false_and]at q;exact q
variable(jH:Ec mg "WORD_MOST" (.int 12))
variable(eW:bJ P w K mg base true 1 "is_small_letter" ["sign"] Aq)
theorem A5:aL ["text"] ["text"] (av mL):=⟨rfl,rfl,rfl,by decide+kernel,rfl,by decide+kernel,by decide+kernel⟩
include T jH eW in
theorem A6{f:Addr}{fd:FuncData}(F:jy K "is_word" "is_word" mL f fd):a8 P w K mg base (cV P w) true 2 f fd ["text"] wR:=by
 refine F.gk A5 Y_ (fun bR A outer s H vs Q E hr h hX=>?_)
 ·obtain⟨i,rfl,_⟩:=h;rfl
 ·obtain⟨z,rfl,hz,q⟩:=h;refine⟨_,(ZP (ZW (@PW.pt _ _ _ (Ω (ZQ jD (ZD oH T.cK (ZA Y0)) af) (@pw_or1 _ _ _ _ (ZQ lz (ZD oH T.cK (ZA Y0)) (ξ jH))))) aP) (ZO (Z9 (Z6 (CV K rfl) (by exact rfl) T.NZ PyProof.Rows.Boot.«all» (ZA (@mD _ _ _ _ _ _ _ _ _ _ _ _ _ _ (by exact rfl) (show bq ["text"] (av mL) _ ["sign"] [] []from⟨rfl,by decide+kernel,by decide+kernel,by decide+kernel,rfl,rfl,by decide+kernel,by decide+kernel,by decide+kernel⟩) (@KD _ _ _ _ (pv 0)) (fun _ _ _ _ _=>(Zy (0) (show(["sign"]:List Str).Nodup by decide+kernel))) (fun _ _ _ _ _=>iQ) (fun _ _ _ _ _=>(Zz eW aQ (ZA Y0))) (by intro _;rfl))))))),?_⟩;have U9:z.length≤sizeLine:=Nat.le_trans hz (WD);refine⟨_,rfl,z,rfl,U9,_,_,rfl,rfl,_,rfl,?_⟩;refine aX (fun h=>?_) (fun h=>?_)
  ·have h:((z.length:Nat):Int)<1:=by simpa using h
   refine jY ?_;have e:tG z=false:=by
    have:¬1≤z.length:=by lia
    simp[tG,this]
   have q:=q H (au.refl H);rw[e]at q;exact q
  have h:¬((z.length:Nat):Int)<1:=by simpa using h
  refine⟨_,rfl,z,rfl,U9,_,_,rfl,rfl,_,rfl,?_⟩;refine aX (fun h2=>?_) (fun h2=>?_)
  ·have h2:(12:Int)<((z.length:Nat):Int):=by simpa using h2
   have e:tG z=false:=by
    have:¬z.length≤12:=by lia
    simp[tG,this]
   have q:=q H (au.refl H);rw[e]at q;exact q
  have h2:¬(12:Int)<((z.length:Nat):Int):=by simpa using h2
  have hl:z.length≤12:=by lia
  have e:tG z=z.cps.toList.all low:=by
   have h3:1≤z.length:=by lia
   simp[tG,h3,hl]
  refine⟨_,rfl,z,rfl,fun D hD=>?_⟩;refine EB (fun i ys σ H'=>(∃v,σ=[v])∧ys=(z.cps.toList.take i).map (fun c=>V.bl (low c))∧H'=upd H D (.lst ys)) ⟨⟨_,rfl⟩,rfl,rfl⟩ ?_ ?_
  ·rintro i c ys σ H' hc ⟨⟨v,rfl⟩,hy,rfl⟩;refine qu ?_;refine⟨_,rfl,c,rfl,ae,?_,⟨_,rfl⟩,?_,?_⟩
   ·rw[hy,List.length_map,List.length_take];exact Nat.lt_of_le_of_lt (Nat.min_le_left _ _) (Nat.lt_of_lt_of_le (Nat.lt_of_lt_of_le (ZF hc).1 (by simpa[Str.length]using hl)) (WD))
   ·rw[hy,List.take_succ,hc];simp
   ·rw[gc]
  ·rintro ys σ H' ⟨_,hy,rfl⟩;have Ck:ys=(z.cps.toList.map low).map V.bl:=by
    rw[hy,List.take_of_length_le (by simp[Str.length])];simp
   rw[Ck];refine⟨D,z.cps.toList.map low,rfl,iK.of ae,?_⟩;have q:=q _ (au.upd hD:au H (upd H D (.lst ((z.cps.toList.map low).map V.bl))));rw[e]at q;have e3:(z.cps.toList.map low).all id=z.cps.toList.all low:=by rw[List.all_map];rfl
   rw[←e3]at q;exact q
theorem uT:aL ["low","number","high"] ["low","number","high"] (av kU):=⟨rfl,rfl,rfl,by decide+kernel,rfl,by decide+kernel,by decide+kernel⟩
include T in
theorem uU{f:Addr}{fd:FuncData}(F:jy K "is_between" "is_between" kU f fd):a8 P w K mg base (cV P w) true 1 f fd ["low","number","high"] nG:=by
 refine F.gk uT Y_ (fun bR A outer s H vs Q E hr h hX=>?_)
 ·obtain⟨l,n,h,rfl,_⟩:=h;rfl
 ·obtain⟨l,n,h,rfl,q⟩:=h;refine⟨_,(ZO (Z9 (@sW _ _ _ _ _ _ _ (@d6 _ _ _ _ _ _ _ _ yy Y0 (pv 1) (aT _)) (@kI _ _ _ _ _ (@d6 _ _ _ _ _ _ _ _ yy Y4 (pv 2) (aT _)))))),?_⟩;refine⟨_,rfl,_,rfl,_,_,rfl,rfl,_,rfl,?_⟩;refine aX (fun h1=>?_) (fun h1=>?_)
  ·refine⟨_,rfl,_,rfl,_,_,rfl,rfl,?_⟩;rw[h1,Bool.true_and]at q;exact q
  ·rw[Bool.not_eq_true]at h1;rw[h1,Bool.false_and]at q;exact q
variable(eh:bJ P w K mg base true 1 "is_between" ["low","number","high"] nG)
variable(jr:Er K mg "BadTerms" ed)
theorem r6:aL ["name","number","low","high"] ["name","number","low","high"] (av jq):=⟨rfl,rfl,rfl,by decide+kernel,rfl,by decide+kernel,by decide+kernel⟩
include T eh jr in
theorem r9{f:Addr}{fd:FuncData}(F:jy K "check_number" "check_number" jq f fd):a8 P w K mg base (cV P w) true 2 f fd ["name","number","low","high"] (qv ed):=by
 refine F.gk r6 Y_ (fun bR A outer s H vs Q E hr h hX=>?_)
 ·obtain⟨nm,n,l,h,rfl,_⟩:=h;rfl
 ·obtain⟨nm,n,l,h,rfl,hn,hl,hh,q⟩:=h;refine⟨_,(ZO (Δ (@cU _ _ _ _ (Z' (Zz eh aQ (ZE Y9 (Z_ Y4))))) (ZO (τ hX Ζ (by exact rfl) jr.m jr.e (ZA (@mC _ _ _ _ _ _ (@fA _ _ _ _ _ (@qt _ _ _ _ (pv 0)) (@fA _ _ _ _ _ dZ (@fA _ _ _ _ _ (@qt _ _ _ _ (pv 2)) (@fA _ _ _ _ _ dZ (@fA _ _ _ _ _ (@qt _ _ _ _ (pv 3)) wL))))))))) aP)),?_⟩;refine⟨_,rfl,_,rfl,_,rfl,l,n,h,rfl,?_⟩;refine⟨_,rfl,?_⟩;refine aX (fun h1=>?_) (fun h1=>?_)
  ·have h1:inR l n h=false:=(Bool.not_eq_true' _).mp h1;rw[h1]at q;have z1:=oP (i:=l) (by lia);have z2:=oP (i:=h) (by lia);have w1:(Str.ofString " lies between ").length=14:=by decide+kernel
   have w2:(Str.ofString " and ").length=5:=by decide+kernel
   have w3:=mE;refine⟨_,rfl, .inl ⟨nm,rfl,aE IL,nm,rfl,aE ?_,_,rfl,aE ?_,_,rfl, .inr ⟨l,rfl,z1.1,_,rfl,aE ?_,_,rfl,aE ?_,_,rfl, .inr ⟨h,rfl,z2.1,_,rfl,aE ?_,aE ?_,iy,?_⟩⟩⟩⟩
   ·rw[len_app];lia
   ·rw[len_app,len_app];lia
   ·rw[len_app,len_app,len_app];lia
   ·rw[len_app,len_app,len_app,len_app];lia
   ·rw[len_app,len_app,len_app,len_app,len_app];lia
   ·rw[len_app,len_app,len_app,len_app,len_app];lia
   ·exact q
  ·have h1:inR l n h=true:=by
    have h1:¬(!(inR l n h))=true:=h1;simpa using h1
   rw[h1]at q;exact q
variable(bQ:Ec mg "WORTH_MOST" (.int 999999))
variable(kr:bJ P w K mg base true 2 "is_word" ["text"] wR)
variable(bZ:Er K mg "BadNear" cZ)
theorem nW:aL ["x","y","price"] ["x","y","price"] (av gu):=⟨rfl,rfl,rfl,by decide+kernel,rfl,by decide+kernel,by decide+kernel⟩
include T eh bQ kr bZ in
theorem nX{f:Addr}{fd:FuncData}(F:jy K "check_near_form" "check_near_form" gu f fd):a8 P w K mg base (cV P w) true 3 f fd ["x","y","price"] (wU cZ):=by
 refine F.gk nW Y_ (fun bR A outer s H vs Q E hr h hX=>?_)
 ·obtain⟨x,y,p,rfl,_⟩:=h;rfl
 ·obtain⟨x,y,p,rfl,hx,hy,q⟩:=h;have bad:iH x y p=false→∀H',au H H'→E (.ref cZ) none H':=fun e=>by rw[e]at q;exact q
  have good:iH x y p=true→∀H',au H H'→Q .cS H':=fun e=>by rw[e]at q;exact q
  refine⟨_,(ZP (υ (@PW.pt _ _ _ (Ω (@cU _ _ _ _ (Z' (Zz kr aQ (ZA Y0)))) (@pw_or1 _ _ _ _ (@cU _ _ _ _ (Z' (Zz kr aQ (ZA Y4))))))) aP) (ZP (υ (ZQ jg Y0 (pv 1)) aP) (ZO (Δ (@cU _ _ _ _ (Z' (Zz eh aQ (ZE af (ZE Y9 (ZA (ξ bQ))))))) (ZO (τ hX Ζ (by exact rfl) bZ.m bZ.e (ZA (@mC _ _ _ _ _ _ (@fA _ _ _ _ _ dZ (@fA _ _ _ _ _ (@qt _ _ _ _ (ξ bQ)) wL)))))) aP)))),?_⟩;refine⟨_,rfl,x,rfl,hx,fun H1 s1=>⟨_,rfl,?_⟩⟩;refine aX (fun h1=>?_) (fun h1=>?_)
  ·have h1:(!(tG x))=true:=h1;exact⟨iy,bad (by simp[iH,(Bool.not_eq_true' _).mp h1]) H1 s1⟩
  have h1:¬(!(tG x))=true:=h1;have h1:tG x=true:=by simpa using h1
  refine⟨_,rfl,y,rfl,hy,fun H2 s2=>⟨_,rfl,?_⟩⟩;have s2:=s1.trans s2;refine aX (fun h2=>?_) (fun h2=>?_)
  ·have h2:(!(tG y))=true:=h2;exact⟨iy,bad (by simp[iH,(Bool.not_eq_true' _).mp h2]) H2 s2⟩
  have h2:¬(!(tG y))=true:=h2;have h2:tG y=true:=by simpa using h2
  refine⟨_,rfl,_,rfl,rfl,_,rfl,?_⟩;refine aX (fun h3=>?_) (fun h3=>?_)
  ·have h3:x=y:=by simpa using h3
   exact⟨iy,bad (by simp[iH,h3]) H2 s2⟩
  have h3:¬x=y:=by simpa using h3
  refine⟨_,rfl,0,p,999999,rfl,_,rfl,?_⟩;refine aX (fun h4=>?_) (fun h4=>?_)
  ·have h4:(!(inR 0 p 999999))=true:=h4;have z1:=oP (i:=999999) (by lia);have w1:(Str.ofString "the price of a near form lies between 0 and ").length=44:=by decide+kernel
   have w3:=mE;refine⟨_,rfl,aE ?_, .inr ⟨999999,rfl,z1.1,_,rfl,aE ?_,aE ?_,iy,?_⟩⟩
   ·rw[len_app];lia
   ·rw[len_app,len_app];lia
   ·rw[len_app,len_app];lia
   ·exact bad (by simp[iH,(Bool.not_eq_true' _).mp h4]) H2 s2
  ·have h4:¬(!(inR 0 p 999999))=true:=h4;have h4:inR 0 p 999999=true:=by simpa using h4
   exact good (by simp[iH,h1,h2,h3,h4]) H2 s2
variable(iD:Ec mg "NEAR_MOST" (.int 60))
variable(eX:bJ P w K mg base true 3 "check_near_form" ["x","y","price"] (wU cZ))
theorem fq:aL ["near","prices","x","y","price"] ["near"] (av hV):=⟨rfl,rfl,rfl,by decide+kernel,rfl,by decide+kernel,by decide+kernel⟩
include T bZ iD eX in
theorem ue{f:Addr}{fd:FuncData}(F:jy K "near_prices" "near_prices" hV f fd):a8 P w K mg base (cV P w) true 4 f fd ["near"] (qw cZ):=by
 refine F.gk fq Y_ (fun bR A outer s H vs Q E hr h hX=>?_)
 ·obtain⟨a,xs,fs,rfl,_⟩:=h;rfl
 ·obtain⟨a,xs,fs,rfl,ha,ht,NI,q⟩:=h;have bad:bO fs=false→∀H',au H H'→E (.ref cZ) none H':=fun e=>by rw[e]at q;exact q
  have good:bO fs=true→∀H' d,au H H'→H d=none→H' d=some (.dT (fs.map lN))→Q (.ref d) H':=fun e=>by rw[e]at q;exact q
  have hu:=hr.units;have hu:(A.deeper (Ψ "near_prices" (av hV) f bR)).units+1<cLine:=by lia
  refine⟨_,(ZP (Δ (ZQ lz (ZD (aK K) T.cK (ZA Y0)) (ξ iD)) (ZO (τ hX Ζ (by exact rfl) bZ.m bZ.e (ZA (@mC _ _ _ _ _ _ (@fA _ _ _ _ _ dZ (@fA _ _ _ _ _ (@qt _ _ _ _ (ξ iD)) (@fA _ _ _ _ _ dZ wL))))))) aP) (ZP (Zx (1) fq.nd kc) (ZP (ZI (Θ K Y0) (θ K (3) (by exact rfl) (Ν (Zy (2) fq.nd) (Ν (Zy (3) fq.nd) (Ν (Zy (4) fq.nd) gf)))) (ZP (Ε (Zz eX hX.pass (ZE Y9 (ZE (pv 3) (ZA (pv 4)))))) (ZP (υ (ZN (@qp _ _ _ _ _ hu (@e8 _ _ _ _ _ (Z_ Y9)) (pv 1))) aP) (ZO (@kJ _ _ _ _ _ _ _ _ _ hu Y4 (@e8 _ _ _ _ _ (Z_ Y9)) (pv 4) (by exact rfl)))))) (ZO (Z9 Y4))))),?_⟩;refine⟨_,rfl,a,_,rfl, .inl (.of ha),_,_,rfl,rfl,_,rfl,?_⟩;refine aX (fun h1=>?_) (fun h1=>?_)
  ·have h1:(60:Int)<(xs.length:Int):=by simpa using h1
   rw[ht.1]at h1;have z1:=oP (i:=60) (by lia);have w1:(Str.ofString "there are at most ").length=18:=by decide+kernel
   have w2:(Str.ofString " near forms").length=11:=by decide+kernel
   have w3:=mE;refine⟨_,rfl,aE ?_, .inr ⟨60,rfl,z1.1,_,rfl,aE ?_,_,rfl,aE ?_,aE ?_,iy,?_⟩⟩
   ·rw[len_app];lia
   ·rw[len_app,len_app];lia
   ·rw[len_app,len_app,len_app];lia
   ·rw[len_app,len_app,len_app];lia
   ·exact bad (by have:¬fs.length≤60:=(by lia);simp[bO,this]) H (.refl H)
  have h1:¬(60:Int)<(xs.length:Int):=by simpa using h1
  rw[ht.1]at h1;refine fun d hd=>?_
  have Za:H a≠none:=by rw[ha];intro z;cases z
  have eJ:a≠d:=aF ha hd;refine⟨_,rfl,a,rfl,⟨xs, .of (by rw[ao eJ];exact ha)⟩,?_⟩;refine bG (xs:=xs) (fun i σ H'=>(∃u v w,σ=[sR a,sR d,u,v,w])∧H' d=some (.dT ((fs.take i).map lN))∧au H H'∧((fs.take i).all DN=true)∧((fs.take i).map lE).Nodup) ?_ ?_ ?_ ?_
  ·exact⟨⟨_,_,_,rfl⟩,ae,YV hd,rfl, .nil⟩
  ·rintro i σ H' hi ⟨_,_,s1,_⟩;exact .of (s1 _ _ ha)
  ·rintro i x σ H' hx ⟨⟨u,v,w,rfl⟩,hD,s1,bX,Gu⟩;have hi:i<fs.length:=by rw[←ht.1];exact(ZF hx).1
   have hf:fs[i]?=some fs[i]:=by simp[hi]
   generalize fs[i]=f0 at hf;obtain⟨t,wc,r_⟩:=ht.2 i f0 hf;rw[hx]at wc;cases wc;obtain⟨x,y,p⟩:=f0;have hm:(x,y,p)∈fs:=ZS hf;obtain⟨kR,DW⟩:=NI.2 _ hm;refine⟨t,_,rfl, .of (s1 _ _ r_),rfl,_,_,rfl,_,_,rfl,_,_,rfl,rfl,?_⟩;refine⟨_,rfl,_,rfl,_,rfl,x,y,p,rfl,kR,DW,?_⟩;refine aX (fun h2=>?_) (fun h2=>?_)
   rotate_left
   ·have h2:DN (x,y,p)=false:=by simpa[DN]using h2
    exact fun H2 s2=>bad (EI hf h2) H2 (s1.trans s2)
   have h2:DN (x,y,p)=true:=h2;intro H2 s2;have Qw:=s1.trans s2;have ku:=s2 _ _ hD;refine⟨_,rfl,_,rfl,aE Xs,fun p1 Mp=>?_⟩;have n1:d≠p1:=aF ku Mp;refine⟨_,rfl,d,_,rfl, .t (k:=lE (x,y,p)) (by rw[ao n1];exact ku) ae,_,rfl,?_⟩;refine aX (fun h3=>?_) (fun h3=>?_)
   ·obtain⟨v3,h3⟩:=Option.isSome_iff_exists.mp h3;exact⟨iy,bad (CY hf (KL h3)) _ (Qw.eL (Qw.free Mp))⟩
   have h3:bE ((fs.take i).map lN) (lE (x,y,p))=none:=by simpa using h3
   have s3:au H (upd H2 p1 (.tup [.str x, .str y])):=Qw.eL (Qw.free Mp);refine⟨_,rfl,_,rfl,_,rfl,_,rfl,aE Xs,fun p2 CH=>?_⟩;have Dz:upd H2 p1 (.tup [.str x, .str y]) d=some (.dT ((fs.take i).map lN)):=by rw[ao n1];exact ku
   have n2:d≠p2:=aF Dz CH;have hlen:((fs.take i).map lN).length<sizeLine:=ba (by rw[List.length_map,List.length_take];lia);refine⟨d,_,rfl, .t (k:=lE (x,y,p)) (by rw[ao n2];exact Dz) ae hlen,?_⟩;refine⟨⟨_,_,_,rfl⟩,?_,?_,?_,?_⟩
   ·rw[ae,s_ _ h3,CZ hf];rfl
   ·exact(s3.eL (s3.free CH)).eL hd
   ·rw[List.take_succ,hf,List.all_append,bX];simp[h2]
   ·rw[List.take_succ,hf,List.map_append];have:=N1 h3;refine List.nodup_append.mpr ⟨Gu,XU,?_⟩;intro a1 AI b1 gU e;have gU:b1=lE (x,y,p):=by simpa using gU
    rw[e,gU]at AI;exact this AI
  ·rintro σ H' ⟨⟨u,v,w,rfl⟩,hD,s1,bX,Gu⟩;rw[ht.1,List.take_length]at hD bX Gu;refine⟨_,rfl,good ?_ H' d s1 hd hD⟩;have:fs.length≤60:=by lia
   simp[bO,this,bX,Gu]
variable(jI:Ec mg "PART_MOST" (.int 100))
variable(cA:bJ P w K mg base true 2 "check_number" ["name","number","low","high"] (qv ed))
variable(ie:bJ P w K mg base true 4 "near_prices" ["near"] (qw cZ))
variable(Tc:EJ K aV)
theorem pd:aL ["self","same","out","into","least","part","near"] ["self","same","out","into","least","part","near"] (av bD):=⟨rfl,rfl,rfl,by decide+kernel,rfl,by decide+kernel,by decide+kernel⟩
include T bQ jI cA ie Tc in
theorem pe{f:Addr}{fd:FuncData}(F:iG K "__init__" "Terms.__init__" bD f fd):a8 P w K mg base (cV P w) true 5 f fd ["self","same","out","into","least","part","near"] (sM aV ed cZ):=by
 refine F.gk pd Y_ (fun bR A outer s H vs Q E hr h hX=>?_)
 ·obtain⟨x,dx,n,nv,xs,fs,rfl,_⟩:=h;rfl
 ·obtain⟨x,dx,n,nv,xs,fs,rfl,hx,EW,XC,NI,q⟩:=h;have bad:jk n=false→E (.ref ed) none H:=fun e=>by rw[e]at q;exact q H .refl
  refine⟨_,(ZP (Ε (Zz cA hX.pass (ZE dZ (ς Y4)))) (ZP (Ε (Zz cA hX.pass (ZE dZ (ς Y9)))) (ZP (Ε (Zz cA hX.pass (ZE dZ (ς (pv 3))))) (ZP (Ε (Zz cA hX.pass (ZE dZ (ς (pv 4))))) (ZP (Ε (Zz cA hX.pass (ZE dZ (ZE (pv 5) (ZE af (ZA (ξ jI))))))) (ZP (Z7 K Y0 (pv 1)) (ZP (Z7 K Y0 (pv 2)) (ZP (Z7 K Y0 (pv 3)) (ZP (Z7 K Y0 (pv 4)) (ZP (Z7 K Y0 (pv 5)) (ZR (Z7 K Y0 (@oF _ _ _ _ _ _ _ _ (ZN (@lK _ _ _ _ _ (pv 6))) (Η ai) (ο (hJ K) (by exact rfl) T.nF PyProof.Rows.Boot.«list» (ZA (pv 6))))) (ZO (Z7 K Y0 (Zz ie hX.pass (ZA (ZG K)))))))))))))))),?_⟩;refine⟨_,rfl,"same",n.same,1,999999,rfl,by decide+kernel,by lia,by lia,?_⟩;refine aX (fun h1=>?_) (fun h1=>bad (by simp[jk,h1]));refine⟨_,rfl,"out",n.out,0,999999,rfl,by decide+kernel,by lia,by lia,?_⟩;refine aX (fun h2=>?_) (fun h2=>bad (by simp[jk,h2]));refine⟨_,rfl,"into",n.into,0,999999,rfl,by decide+kernel,by lia,by lia,?_⟩;refine aX (fun h3=>?_) (fun h3=>bad (by simp[jk,h3]));refine⟨_,rfl,"least",n.least,1,999999,rfl,by decide+kernel,by lia,by lia,?_⟩;refine aX (fun h4=>?_) (fun h4=>bad (by simp[jk,h4]));refine⟨_,rfl,"part",n.part,1,100,rfl,by decide+kernel,by lia,by lia,?_⟩;refine aX (fun h5=>?_) (fun h5=>bad (by simp[jk,h5]));have bX:jk n=true:=by simp[jk,h1,h2,h3,h4,h5]
  rw[bX]at q;have hl:∀k:Nat,k<10→k<1000:=fun k h=>by lia
  refine⟨_,rfl,_,rfl,x,aV,dx,_,rfl,hx,Tc.cl,Tc.same,WD,?_⟩;refine⟨_,rfl,_,rfl,x,aV,dx,_,rfl,ae,Tc.cl,Tc.out,?_,?_⟩
  ·exact hl _ (by have:=aW "same" (.int n.same) [];simp at this;lia)
  refine⟨_,rfl,_,rfl,x,aV,dx,_,rfl,ae,Tc.cl,Tc.into,?_,?_⟩
  ·exact hl _ (Nat.lt_of_le_of_lt (aW _ _ _) (by have:=aW "same" (.int n.same) [];simp at this;lia))
  refine⟨_,rfl,_,rfl,x,aV,dx,_,rfl,ae,Tc.cl,Tc.least,?_,?_⟩
  ·show([("same", .int n.same),("out", .int n.out),("into", .int n.into)]:List (Str×V)).length<1000;simp
  refine⟨_,rfl,_,rfl,x,aV,dx,_,rfl,ae,Tc.cl,Tc.part,?_,?_⟩
  ·show([("same", .int n.same),("out", .int n.out),("into", .int n.into),("least", .int n.least)]:List (Str×V)).length<1000;simp
  rw[gc,gc,gc,gc,RZ];have b5:SameBut x H (upd H x (.ins aV dx (m7 n))):=SameBut.refl.upd;refine⟨fun σ H'=>σ=[sR x,sI n.same,sI n.out,sI n.into,sI n.least,sI n.part,some nv]∧∃l,H' x=some (.ins aV dx (bu "near" (.ref l) (m7 n)))∧SameBut x H H'∧H' l=some (.lst xs)∧dX H' xs fs∧H l=none,?_,?_⟩
  ·refine⟨_,rfl,_,rfl,?_⟩;rcases XC with⟨rfl,rfl,rfl⟩|⟨a,rfl,ha,Qx⟩
   ·refine jY ?_;refine⟨aE Xs,fun l lC=>?_⟩;have n1:x≠l:=aF ae lC;refine⟨_,rfl,x,aV,dx,_,rfl,by rw[ao n1,ae],Tc.cl,Tc.near,by simp[m7],rfl,l,ae,?_,?_, .nil,?_⟩
    ·exact(b5.laid (b5.free ae lC)).upd
    ·rw[ao (Zd n1),ae]
    ·exact b5.free ae lC
   ·refine aX (fun hh=>absurd hh Xs) (fun _=>?_);have n0:a≠x:=jf ha hx (by intro z;cases z);refine⟨_,rfl,a,xs,rfl, .inl (.of (by rw[ao n0];exact ha)),fun l lC=>?_⟩;have n1:x≠l:=aF ae lC;have b6:SameBut x H (upd (upd H x (.ins aV dx (m7 n))) l (.lst xs)):=b5.laid (b5.free ae lC);refine⟨_,rfl,x,aV,dx,_,rfl,by rw[ao n1,ae],Tc.cl,Tc.near,by simp[m7],rfl,l,ae,b6.upd,?_,?_,?_⟩
    ·rw[ao (Zd n1),ae]
    ·exact Qx.but b6.upd hx
    ·exact b5.free ae lC
  ·rintro σ H' ⟨rfl,l,uJ,sb,SN,Qx,XD⟩;refine⟨_,rfl,x,aV,dx,_,_,rfl,uJ,Tc.cl,Tc.near,N3 n l,l,xs,fs,rfl,SN,Qx,NI,?_⟩;refine aX (fun h6=>?_) (fun h6=>?_)
   ·rw[if_pos rfl,Z1 h6]at q;intro H2 d s2 hd hD;have b2:=sb.same s2;have XE:=sb.free uJ hd;refine⟨_,rfl,x,aV,dx,_,rfl,s2 _ _ uJ,Tc.cl,Tc.EK,?_,?_⟩
    ·have:=aW "near" (.ref l) (m7 n);have e5:(m7 n).length=5:=rfl;exact hl _ (by lia)
    ·have nl:l≠x:=jf SN uJ (by intro z;cases z);have nd:d≠x:=jf hD (s2 _ _ uJ) (by intro z;cases z);have U_:dx≠x:=jf EW hx (by intro z;cases z);refine q _ l d b2.upd ⟨?_,?_,?_,?_,?_⟩ XD XE
     ·rw[ae,R0]
     ·rw[ao U_];exact b2 _ _ U_ EW
     ·rw[ao nl];exact s2 _ _ SN
     ·exact Qx.but (SameBut.upd (fun b u n e=>s2 b u e)) uJ
     ·rw[ao nd];exact hD
   ·rw[if_pos rfl,ZY h6]at q;exact fun H2 s2=>q H2 (sb.same s2)
theorem iO:aL ["self","x","y","price"] ["self","x","y"] (av d8):=⟨rfl,rfl,rfl,by decide+kernel,rfl,by decide+kernel,by decide+kernel⟩
include T Tc in
theorem mS{f:Addr}{fd:FuncData}(F:iG K "pair_worth" "Terms.pair_worth" d8 f fd):a8 P w K mg base (cV P w) true 1 f fd ["self","x","y"] (wZ aV):=by
 refine F.gk iO Y_ (fun bR A outer s H vs Q E hr h hX=>?_)
 ·obtain⟨t,x,y,n,fs,dx,l,d,xs,rfl,_⟩:=h;rfl
 ·obtain⟨t,x,y,n,fs,dx,l,d,xs,rfl,T1,q⟩:=h;have hu:=hr.units;have hu:(A.deeper (Ψ "Terms.pair_worth" (av d8) f bR)).units+1<cLine:=by lia
  refine⟨_,(ZP (Δ (ZQ jg Y4 (pv 2)) (ZO (Z9 (ZG K))) aP) (ZP (Zx (3) iO.nd (@El _ _ _ _ _ _ _ hu (ZG K) (@e8 _ _ _ _ _ (ι Y4)) ⟨rfl,rfl,rfl,rfl⟩)) (ZP (Δ (ZN (@lK _ _ _ _ _ (pv 3))) (ZO (Z9 jW)) aP) (ZO (Z9 (ZH cx (ZG K) (pv 3))))))),?_⟩;refine⟨_,rfl,_,rfl,rfl,_,rfl,?_⟩;refine aX (fun h=>?_) (fun h=>?_)
  ·have h:x=y:=by simpa using h
   have q:=q H (.refl H);rw[show dj n.same fs x y=some n.same by simp[dj,h]]at q;exact⟨_,rfl,t,aV,dx,_,_,rfl,T1.ob,Tc.cl,Tc.same,EL n l d,q⟩
  have h:¬x=y:=by simpa using h
  refine⟨_,rfl,t,aV,dx,_,_,rfl,T1.ob,Tc.cl,Tc.EK,EM n l d,d,rfl, .inr ⟨_, .inl T1.di⟩,_,rfl,_,rfl,aE Xs,fun p hp=>?_⟩;have nd:d≠p:=aF T1.di hp;have q:=q _ (au.upd (o:= .tup [.str x, .str y]) hp);refine⟨_, .t (k:=[.inr x, .inr y]) (by rw[ao nd];exact T1.di) ae,?_⟩;rw[vU];have T2:kM (upd H p (.tup [.str x, .str y])) aV t n fs dx l d xs:=⟨au.upd hp _ _ T1.ob,au.upd hp _ _ T1.own,au.upd hp _ _ T1.li,T1.tr.same (YV hp),au.upd hp _ _ T1.di⟩
  cases e:d7 fs x y with
  |none=>
   rw[show dj n.same fs x y=none by simp[dj,h,e]]at q;refine⟨_,rfl,_,rfl,?_⟩;exact jY q
  |some v=>
   rw[show dj n.same fs x y=some (n.same-v) by simp[dj,h,e]]at q;refine⟨_,rfl,_,rfl,?_⟩;refine aX (fun hh=>absurd hh Xs) (fun _=>?_);exact⟨_,rfl,t,aV,dx,_,_,rfl,T2.ob,Tc.cl,Tc.same,EL n l d,_,rfl,_,_,rfl,rfl,q⟩
theorem zg:aL ["numbers"] ["numbers"] (av kW):=⟨rfl,rfl,rfl,by decide+kernel,rfl,by decide+kernel,by decide+kernel⟩
include T in
theorem zh{f:Addr}{fd:FuncData}(F:jy K "greatest" "greatest" kW f fd):a8 P w K mg base (cV P w) true 1 f fd ["numbers"] lP:=by
 refine F.gk zg Y_ (fun bR A outer s H vs Q E hr h hX=>?_)
 ·obtain⟨a,os,rfl,_⟩:=h;rfl
 ·obtain⟨a,os,rfl,ha,hl,q⟩:=h;refine⟨_,(ZO (Z9 (@Hr _ K _ _ _ _ _ _ _ (by exact rfl) (by exact rfl) T.Jc (@mD _ _ _ _ _ _ _ _ _ _ _ _ _ _ (by exact rfl) (show bq ["numbers"] (av kW) _ ["number"] [] []from⟨rfl,by decide+kernel,by decide+kernel,by decide+kernel,rfl,rfl,by decide+kernel,by decide+kernel,by decide+kernel⟩) (Θ K Y0) (fun _ _ _ _ _=>(Zy (0) (show(["number"]:List Str).Nodup by decide+kernel))) (fun _ _ _ _ _=>(@sJ _ _ _ (ZN (@my _ _ _ _ _ (pv 0))))) (fun _ _ _ _ _=>(pv 0)) (by intro _;rfl)) (YW) (YW)))),?_⟩;refine⟨_,rfl,a,rfl,⟨_, .of ha⟩,fun D hD=>?_⟩;refine fZ (xs:=os.map bB) (fun i ys bx H'=>(∃u,bx=[u])∧ys=((os.take i).filterMap id).map V.int∧H' D=some (.lst ys)∧au H H') ⟨⟨_,rfl⟩,rfl,ae,YV hD⟩ ?_ ?_ ?_
  ·rintro i ys bx H' _ ⟨_,_,_,s1⟩;exact .of (s1 _ _ ha)
  ·rintro i x ys bx H' hx ⟨⟨u,rfl⟩,rfl,sf,s1⟩;have hi:i<os.length:=by have:=(ZF hx).1;simpa using this
   have ho:os[i]?=some os[i]:=by simp[hi]
   generalize os[i]=o at ho;have ex:x=bB o:=by
    rw[List.getElem?_map,ho]at hx;exact(Zu hx).symm
   subst ex;have hG:(((os.take i).filterMap id).map V.int).length<sizeLine:=ba (by
    have:=List.length_filterMap_le id (os.take i);rw[List.length_take]at this;rw[List.length_map]
    lia)
   have e1:os.take (i+1)=os.take i++[o]:=by rw[List.take_succ,ho];rfl
   refine⟨_,rfl,_,rfl,?_⟩;cases o with
   |none=>
    refine aX (fun hh=>Y7 hh (by simp[bB])) (fun _=>?_);exact⟨⟨_,rfl⟩,by rw[e1];simp,sf,s1⟩
   |some v=>
    refine aX (fun _=>?_) (fun hh=>Y7 (by simp[bB]) hh);exact⟨_,rfl,sf,hG,⟨_,rfl⟩,by rw[e1];simp[bB],ae,s1.eL hD⟩
  ·rintro ys bx H' ⟨_,rfl,sf,s1⟩;rw[List.length_map,List.take_length]at sf;refine⟨D,os.filterMap id,rfl, .of sf,?_⟩;rw[Hu];exact q H' s1
theorem Ib:aL ["number","price"] ["number","price"] (av A4):=⟨rfl,rfl,rfl,by decide+kernel,rfl,by decide+kernel,by decide+kernel⟩
include T in
theorem Ic{f:Addr}{fd:FuncData}(F:jy K "less" "less" A4 f fd):a8 P w K mg base (cV P w) true 1 f fd ["number","price"] xb:=by
 refine F.gk Ib Y_ (fun bR A outer s H vs Q E hr h hX=>?_)
 ·obtain⟨o,p,rfl,_⟩:=h;rfl
 ·obtain⟨o,p,rfl,q⟩:=h;refine⟨_,(ZO (Z9 (@oF _ _ _ _ _ _ _ _ (ZN (@lK _ _ _ _ _ (pv 0))) jW (ZH cx Y0 (pv 1))))),?_⟩;refine⟨_,rfl,_,rfl,?_⟩;cases o with
  |none=>
   refine jY ?_;exact q
  |some v=>
   refine aX (fun hh=>Y7 hh (by simp[bB])) (fun _=>?_);exact⟨_,rfl,_,rfl,_,_,rfl,rfl,q⟩
theorem mT:aL ["worth","brought"] ["worth","brought"] (av fU):=⟨rfl,rfl,rfl,by decide+kernel,rfl,by decide+kernel,by decide+kernel⟩
include T in
theorem mU{f:Addr}{fd:FuncData}(F:jy K "begun_or_gone_on" "begun_or_gone_on" fU f fd):a8 P w K mg base (cV P w) true 1 f fd ["worth","brought"] Az:=by
 refine F.gk mT Y_ (fun bR A outer s H vs Q E hr h hX=>?_)
 ·obtain⟨w,b,rfl,_⟩:=h;rfl
 ·obtain⟨w,b,rfl,q⟩:=h;refine⟨_,(ZP (Δ (ZN (@lK _ _ _ _ _ (pv 0))) (ZO (Z9 jW)) aP) (ZP (Δ (@PW.pt _ _ _ (Ω (ZN (@lK _ _ _ _ _ (pv 1))) (@pw_or1 _ _ _ _ (ZQ jD Y4 af)))) (ZO (Z9 Y0)) aP) (ZO (Z9 (ZH bA Y0 (pv 1)))))),?_⟩;refine⟨_,rfl,_,rfl,?_⟩;cases w with
  |none=>
   refine jY ?_;exact q
  |some w=>
   refine aX (fun hh=>Y7 hh (by simp[bB])) (fun _=>?_);refine⟨_,rfl,_,rfl,?_⟩;cases b with
   |none=>
    refine jY ?_;refine jY ?_;exact⟨_,rfl,q⟩
   |some b=>
    refine aX (fun hh=>Y7 hh (by simp[bB])) (fun _=>?_);refine⟨_,rfl,_,_,rfl,rfl,_,rfl,?_⟩;refine aX (fun hh=>?_) (fun hh=>?_)
    ·have hh:b<0:=by simpa using hh
     simp only[Ht,hh,if_true]at q;exact⟨_,rfl,q⟩
    ·have hh:¬b<0:=by simpa using hh
     simp only[Ht,hh,if_false]at q;exact⟨_,rfl,_,rfl,_,_,rfl,rfl,q⟩
variable(ft:bJ P w K mg base true 1 "greatest" ["numbers"] lP)
variable(lb:bJ P w K mg base true 1 "less" ["number","price"] xb)
variable(Rc:BQ K aB)
theorem ck:aL ["self","ended","above","row","j","worth"] ["self","ended","above"] (av dQ):=⟨rfl,rfl,rfl,by decide+kernel,rfl,by decide+kernel,by decide+kernel⟩
include T ft lb Rc in
theorem j7{f:Addr}{fd:FuncData}(F:iG K "brought_behind" "Trails.brought_behind" dQ f fd):a8 P w K mg base (cV P w) true 2 f fd ["self","ended","above"] (qC aB):=by
 refine F.gk ck Y_ (fun bR A outer s H vs Q E hr h hX=>?_)
 ·obtain⟨x,e,a,dx,te,tb,o,p,m,f,g,rfl,_⟩:=h;rfl
 ·obtain⟨x,e,a,dx,te,tb,o,p,m,f1,g,rfl,hx,he,ha,hm,q⟩:=h;refine⟨_,(ZP (Zx (3) ck.nd (Η (ZA jW))) (ZP (ZI (@oR _ K _ _ _ _ _ _ _ (by exact rfl) T.jE (ZA Y4) (YW) (YW)) (θ K (2) (by exact rfl) (Ν (Zy (4) ck.nd) (Ν (Zy (5) ck.nd) gf))) (ZO (Ε (ZJ K PySem.F.slot_list_append PySem.F.type_list_append bL (pv 3) (ZA (Zz ft aQ (ZA (Η (ZE (pv 5) (ZE (Zz lb aQ (ZE (ZC Y9 (ZH bA (pv 4) af)) (ZA (ZG K)))) (ZA (Zz lb aQ (ZE (ZC (pv 3) (pv 4)) (ZA (ZG K))))))))))))))) (ZO (Z9 (pv 3))))),?_⟩;refine⟨aE Xs,fun r Gv=>?_⟩;refine⟨_,rfl,e,rfl,⟨_, .of (au.upd Gv _ _ he)⟩,?_⟩;have hl:=dw m f1;refine yM (xs:=du m f1) (fun i σ H'=>(∃u v,σ=[sR x,sR e,sR a,sR r,u,v])∧au H H'∧H' r=some (.lst (du (i+1) (rX f1 g o p)))) ?_ ?_ ?_ ?_
  ·exact⟨⟨_,_,rfl⟩,YV Gv,by rw[ae];simp[du,rX,bB,List.range_succ]⟩
  ·rintro i σ H' _ ⟨_,s1,_⟩;exact .of (s1 _ _ he)
  ·rintro i v T' σ H' hv ⟨⟨u,u2,rfl⟩,s1,zQ⟩ hT;have hi:i<m:=by have:=(ZF hv).1;lia
   rw[dz hi]at hv;cases hv;have s2:au H (upd H' T' (.tup [.int i,bB (f1 i)])):=s1.trans (YV hT);have xy:=au.upd (o:= .tup [.int i,bB (f1 i)]) hT _ _ zQ;refine⟨T',_,rfl, .of ae,rfl,_,_,rfl,_,_,rfl,rfl,?_⟩;generalize upd H' T' (.tup [.int i,bB (f1 i)])=H2 at s2 xy;have XF:rV (du (m+1) g) ((i:Int)+1)=some (bB (g (i+1))):=by
    have:((i:Int)+1)=((i+1:Nat):Int):=by lia
    rw[this];exact ar (dz IL)
   have at2:rV (du (i+1) (rX f1 g o p)) (i:Int)=some (bB (rX f1 g o p i)):=ar (dz IL);refine⟨_,rfl, .inl ⟨rfl,_, .of xy⟩,_,rfl,_,rfl,_,rfl,_,_,rfl,rfl,a,_,_,_,rfl,rfl, .of (s2 _ _ ha),XF,_,rfl,x,aB,dx,_,_,rfl,s2 _ _ hx,Rc.cl,Rc.out,Jh o p te tb,g (i+1),o,rfl,_,rfl,_,rfl,r,_,_,_,rfl,rfl, .of xy,at2,_,rfl,x,aB,dx,_,_,rfl,s2 _ _ hx,Rc.cl,Rc.into,E2 o p te tb,rX f1 g o p i,p,rfl,aE Xs,fun L hL=>⟨L,[f1 i,bF (g (i+1)) o,bF (rX f1 g o p i) p],rfl,ae,XU,fun H3 s3=>?_⟩⟩;have s4:=(au.upd (o:= .lst [bB (f1 i),bB (bF (g (i+1)) o),bB (bF (rX f1 g o p i) p)]) hL).trans s3;exact⟨r,_,_,rfl,rfl,s4 _ _ xy,ba (by rw[dw];lia),⟨_,_,rfl⟩,(s2.trans s4).eL Gv,by rw[ae,qB (i+1)];rfl⟩
  ·rintro σ H' ⟨⟨u,v,rfl⟩,s1,zQ⟩;rw[hl]at zQ;exact⟨_,rfl,q H' r s1 Gv zQ⟩
variable(eA:bJ P w K mg base true 1 "begun_or_gone_on" ["worth","brought"] Az)
variable(cD:eM P w K mg base true 2 aB "brought_behind" ["self","ended","above"] (qC aB))
theorem cQ:aL ["self","worths","terms","width","row","above","ended"] ["self","worths","terms"] (av eU):=⟨rfl,rfl,rfl,by decide+kernel,rfl,by decide+kernel,by decide+kernel⟩
include T Tc Rc eA cD in
theorem nY{f:Addr}{fd:FuncData}(F:iG K "__init__" "Trails.__init__" eU f fd):a8 P w K mg base (cV P w) true 4 f fd ["self","worths","terms"] (qI aB aV):=by
 refine F.gk cQ Y_ (fun bR A outer s H vs Q E hr h hX=>?_)
 ·obtain⟨x,dx,w,t,c,as,f,n,m,rfl,_⟩:=h;rfl
 ·obtain⟨x,dx,w,t,c,as,f1,n,m,rfl,hx,EW,hw,TA,TF,hn,hm,q⟩:=h;obtain⟨nu,dt,l,d,vs,T1,e1,e2,e3,e4⟩:=TF;have SO:w≠x:=jf hw hx (by intro z;cases z);have Qy:t≠x:=fun z=>by
   have h1:=T1.ob;rw[z,hx]at h1;have h2:=congrArg (fun o=>match o with|some (HO.ins _ _ fs)=>fs.length| _=>0) h1;simp[wV]at h2
  refine⟨_,(ZR (Z7 K Y0 (Z0 K Y9)) (ZR (Z7 K Y0 (Z0 K Y9)) (ZR (Zx (3) cQ.nd (@oF _ _ _ _ _ _ _ _ (ZQ lz (ZD (aK K) T.cK (ZA Y4)) af) (ZD (aK K) T.cK (ZA (ZC Y4 af))) af)) (ZR (Z7 K Y0 (Η ai)) (ZR (Z7 K Y0 (Η (ZA (ZH Kt (Η (ZA jW)) (ZH bA (pv 3) af))))) (ZO (ZI (Θ K Y4) (Zy (4) cQ.nd) (ZR (@aG _ _ (5) _ _ _ _ cQ.nd Ζ (Or.inr rfl) (ZC (ZG K) (@lu _ _ _ _ _ _ iF af)) (YW) (by exact .inl rfl)) (ZR (@kL _ _ _ _ _ _ _ _ _ _ _ _ _ _ _ (6) _ _ (by exact rfl) cQ.nd Ζ (by exact rfl) (show bq ["self","worths","terms","width","row","above","ended"] (av eU) _ ["j","worth"] [5] ["above"]from⟨rfl,by decide+kernel,by decide+kernel,by decide+kernel,rfl,rfl,by decide+kernel,by decide+kernel,by decide+kernel⟩) (@oR _ K _ _ _ _ _ _ _ (by exact rfl) T.jE (ZA (pv 4)) (YW) (YW)) (fun _ _ _ _ _=>(θ K (2) (by exact rfl) (Ν (Zy (0) (show(["j","worth","above"]:List Str).Nodup by decide+kernel)) (Ν (Zy (1) (show(["j","worth","above"]:List Str).Nodup by decide+kernel)) gf)))) (fun _ _ _ _ _=>iQ) (fun _ _ _ _ _=>(Zz eA aQ (ZE Y4 (ZA (ZC Y9 (pv 0)))))) (YW) (by intro _;rfl)) (ZR (Ε (ZJ K PySem.F.slot_list_append PySem.F.type_list_append bL (ZG K) (ZA (pv 6)))) (ZO (Ε (ZJ K PySem.F.slot_list_append PySem.F.type_list_append bL (ZG K) (ZA (ZM Y0 cD aQ (ZE (pv 6) (ZA (pv 5)))))))))))))))))),?_⟩;refine⟨fun σ H1=>σ=[sR x,sR w,sR t,none,none,none,none]∧H1=upd H x (.ins aB dx (bu "out" (.int c.out) [])),?_,?_⟩
  ·refine⟨_,rfl,t,aV,dt,_,_,rfl,T1.ob,Tc.cl,Tc.out,l_out nu l d,_,rfl,x,aB,dx,_,rfl,hx,Rc.cl,Rc.out,WD,rfl,?_⟩;rw[e2]
  rintro σ H1 ⟨rfl,rfl⟩;refine⟨fun σ H1=>σ=[sR x,sR w,sR t,none,none,none,none]∧H1=upd H x (.ins aB dx (bu "into" (.int c.into) (bu "out" (.int c.out) []))),?_,?_⟩
  ·refine⟨_,rfl,t,aV,dt,_,_,rfl,by rw[ao Qy];exact T1.ob,Tc.cl,Tc.into,KN nu l d,_,rfl,x,aB,dx,_,rfl,ae,Rc.cl,Rc.into,?_,rfl,?_⟩
   ·have:=aW "out" (.int c.out) [];simp at this
    lia
   ·rw[gc,e3]
  rintro σ H1 ⟨rfl,rfl⟩;refine⟨fun σ H1=>∃wd:Int,σ=[sR x,sR w,sR t,sI wd,none,none,none]∧H1=upd H x (.ins aB dx (bu "into" (.int c.into) (bu "out" (.int c.out) [])))∧(0<n→wd=(m:Int))∧0≤wd∧wd≤1000,?_,?_⟩
  ·have sg:upd H x (.ins aB dx (bu "into" (.int c.into) (bu "out" (.int c.out) []))) w=some (.lst (as.map V.ref)):=by rw[ao SO];exact hw
   have Ce:=TA.len;refine⟨_,rfl,w,_,rfl, .inl (.of sg),_,_,rfl,rfl,_,rfl,?_⟩;refine aX (fun hh=>?_) (fun hh=>?_)
   ·have hh:0<n:=by
     have:(0:Int)<((as.map V.ref).length:Int):=by simpa using hh
     rw[List.length_map]at this
     lia
    obtain⟨a,AI,Mq,U'⟩:=TA.at hh;have OP:a≠x:=jf U' hx (by intro z;cases z);have XG:upd H x (.ins aB dx (bu "into" (.int c.into) (bu "out" (.int c.out) []))) a=some (.lst (du m (f1 0))):=by rw[ao OP];exact U'
    refine⟨_,rfl,w,_,0,_,rfl,rfl, .of sg,ar (j:=0) Mq,a,_,rfl, .inl (.of XG),_,rfl,rfl,fun _=>by rw[dw],by rw[dw];lia,by rw[dw];lia⟩
   ·have hh:n=0:=by
     have:¬(0:Int)<((as.map V.ref).length:Int):=by simpa using hh
     rw[List.length_map]at this
     lia
    exact⟨_,rfl,rfl,fun z=>by lia,by lia,by lia⟩
  rintro σ H1 ⟨wd,rfl,rfl,XH,Zb,Zc⟩;refine⟨fun σ H1=>∃e,σ=[sR x,sR w,sR t,sI wd,none,none,none]∧H1 x=some (.ins aB dx (bu "ending" (.ref e) (bu "into" (.int c.into) (bu "out" (.int c.out) []))))∧SameBut x H H1∧H e=none∧H1 e=some (.lst []),?_,?_⟩
  ·refine⟨aE Xs,fun e he=>?_⟩;have yo:SameBut x H (upd H x (.ins aB dx (bu "into" (.int c.into) (bu "out" (.int c.out) [])))):=SameBut.refl.upd;have Va:x≠e:=aF ae he;have Jy:=yo.free ae he;refine⟨_,rfl,x,aB,dx,_,rfl,by rw[ao Va,ae],Rc.cl,Rc.kQ,?_,e,rfl,ae,(yo.laid Jy).upd,Jy,by rw[ao (Zd Va),ae]⟩;have a1:=aW "into" (.int c.into) (bu "out" (.int c.out) []);have a2:=aW "out" (.int c.out) [];simp at a2
   lia
  rintro σ H1 ⟨e,rfl,kR,yo,Jy,A7⟩;refine⟨fun σ H2=>∃b ab,σ=[sR x,sR w,sR t,sI wd,none,none,none]∧H2 x=some (.ins aB dx (gR c.out c.into e b))∧SameBut x H H2∧H2 e=some (.lst [])∧H b=none∧e≠b∧H2 b=some (.lst [.ref ab])∧(0<n→H2 ab=some (.lst (du (m+1) (Bq f1 c.out c.into 0))))∧ab≠e∧ab≠b∧H ab=none,?_,?_⟩
  ·refine⟨aE Xs,fun l1 lC=>⟨_,rfl,_,_,rfl,rfl,l1,_,_,rfl,rfl,ae,by lia,by lia,aE Ξ,fun ab FI=>⟨aE Xs,fun b hb=>?_⟩⟩⟩;have s1:au H1 (upd (upd (upd H1 l1 (.lst [.cS])) ab (.lst (List.replicate (wd+1).toNat [V.cS]).flatten)) b (.lst [.ref ab])):=((YV lC).trans (YV FI)).trans (YV hb);have gU:H1 b=none:=((YV lC).trans (YV FI)).free hb;have we:=s1 _ _ kR;have XI:x≠b:=aF kR gU;have Jz:ab≠b:=aF ae hb;refine⟨_,rfl,x,aB,dx,_,rfl,we,Rc.cl,Rc.jF,?_,b,ab,rfl,by rw[ae,Ob],(yo.same s1).upd,?_,yo.free kR gU,aF A7 gU,?_,fun h0=>?_,?_,Jz,yo.free kR ((YV lC).free FI)⟩
   ·have a0:=aW "ending" (.ref e) (bu "into" (.int c.into) (bu "out" (.int c.out) []));have a1:=aW "into" (.int c.into) (bu "out" (.int c.out) []);have a2:=aW "out" (.int c.out) [];simp at a2
    lia
   ·have:e≠x:=jf A7 kR (by intro z;cases z);rw[ao this];exact s1 _ _ A7
   ·rw[ao (Zd XI),ae]
   ·have Vc:ab≠x:=fun z=>by rw[z]at FI;rw[(YV lC) _ _ kR]at FI;cases FI
    rw[ao Vc,ao Jz,ae,XH h0]
    congr 1
    have:((m:Int)+1).toNat=m+1:=by lia
    rw[this]
    congr 1
    apply List.ext_getElem?;intro k;by_cases hk:k<m+1
    ·rw[dz hk,iR];simp[bB,hk]
    ·rw[List.getElem?_eq_none Ξ,List.getElem?_eq_none (by rw[dw];lia)]
   ·exact Zd (aF ((YV lC) _ _ A7) FI)
  clear kR yo A7 H1;rintro σ H1 ⟨b,ab,rfl,kR,yo,A7,Ve,Vf,gU,Ie,OQ,Jz,DX⟩;refine⟨_,rfl,w,rfl,⟨_, .of (yo _ _ SO hw)⟩,?_⟩;refine bG (xs:=as.map V.ref) (fun i σ H'=>(∃u1 u2 u3,σ=[sR x,sR w,sR t,sI wd,u1,u2,u3])∧H' x=some (.ins aB dx (gR c.out c.into e b))∧SameBut x H H'∧∃(es:List Addr)(bs:List V)(ab:Addr),H' e=some (.lst (es.map V.ref))∧jl H' es (dH f1 c.out c.into) i m∧(∀a∈es,H a=none∧a≠e∧a≠b∧a≠x)∧H' b=some (.lst (bs++[.ref ab]))∧bs.length=i∧(0<n→H' ab=some (.lst (du (m+1) (Bq f1 c.out c.into i))))∧ab≠e∧ab≠b∧H ab=none∧∃bz:List Addr,bs=bz.map V.ref∧∀k a,bz[k]?=some a→H' a=some (.lst (du (m+1) (Bq f1 c.out c.into k)))∧a≠e∧a≠b∧H a=none) ?_ ?_ ?_ ?_
  ·exact⟨⟨_,_,_,rfl⟩,kR,yo,[],[],ab,A7,⟨rfl,fun i a h=>by simp at h⟩,(fun a h=>by cases h),gU,rfl,Ie,OQ,Jz,DX,[],rfl,fun k a h=>by simp at h⟩
  ·rintro i σ H' _ ⟨_,_,sb,_⟩;exact .of (sb _ _ SO hw)
  ·clear kR yo A7 gU Ie OQ Jz DX ab H1;rintro i v σ H' hv ⟨⟨u1,u2,u3,rfl⟩,kR,yo,es,bs,ab,A7,TE,OR,gU,Ig,Ie,OQ,Jz,DX,bz,OS,BZ⟩;have Ce:=TA.len;have hi:i<n:=by have:=(ZF hv).1;rw[List.length_map]at this;lia
   obtain⟨ra,Gv,zQ,xy⟩:=TA.at hi;rw[zQ]at hv;cases hv;have XJ:ra≠x:=jf xy hx (by intro z;cases z);have Qz:=yo _ _ XJ xy;have DA:=Ie IL;refine⟨fun σ H2=>σ=[sR x,sR w,sR t,sI wd,sR ra,sR ab,u3]∧H2=H',?_,?_⟩
   ·exact⟨_,rfl,x,aB,dx,_,_,rfl,kR,Rc.cl,Rc.jF,gY c.out c.into e b,_,rfl,b,_,_,_,rfl,rfl, .of gU,tw _ _,rfl,rfl⟩
   rintro σ H' ⟨rfl,rfl⟩;refine⟨fun σ H2=>∃D,σ=[sR x,sR w,sR t,sI wd,sR ra,sR ab,sR D]∧au H' H2∧H' D=none∧H2 D=some (.lst (du m (dH f1 c.out c.into i))),?_,?_⟩
   ·refine⟨_,rfl,ra,rfl,⟨_, .of Qz⟩,fun D hD=>?_⟩;refine vW (xs:=du m (f1 i)) (fun j ys bx H2=>(∃w1 w2,bx=[w1,w2,sR ab])∧ys=du j (dH f1 c.out c.into i)∧H2 D=some (.lst ys)∧au H' H2) ⟨⟨_,_,rfl⟩,rfl,ae,YV hD⟩ ?_ ?_ ?_
    ·rintro j ys bx H2 _ ⟨_,_,_,s2⟩;exact .of (s2 _ _ Qz)
    ·rintro j y T2 ys bx H2 hy ⟨⟨w1,w2,rfl⟩,rfl,ku,s2⟩ OT;have hj:j<m:=by have:=(ZF hy).1;rw[dw]at this;exact this
     rw[dz hj]at hy;cases hy;have s3:au H' (upd H2 T2 (.tup [.int j,bB (f1 i j)])):=s2.trans (YV OT);have Dz:=au.upd (o:= .tup [.int j,bB (f1 i j)]) OT _ _ ku;refine⟨T2,_,rfl, .of ae,rfl,_,_,rfl,_,_,rfl,rfl,?_⟩;refine wQ ?_;refine⟨_,rfl,_,rfl,_,rfl,ab,_,_,_,rfl,rfl, .of (s3 _ _ DA),ar (dz IL),f1 i j,Bq f1 c.out c.into i j,rfl,Dz,ba (by rw[dw];lia),⟨_,_,rfl⟩,by rw[qB];rfl,ae,s3.eL hD⟩
    ·rintro ys bx H2 ⟨_,rfl,ku,s2⟩;rw[dw]at ku;exact⟨D,rfl,s2,hD,ku⟩
   rintro σ H2 ⟨D,rfl,s2,Mv,ku⟩;have we:=s2 _ _ kR;have Mw:=s2 _ _ A7;have rJ:=s2 _ _ gU;have SQ:=s2 _ _ DA;have XM:D≠x:=Zd (aF kR Mv);have Vg:D≠e:=Zd (aF A7 Mv);have Vh:D≠b:=Zd (aF gU Mv);have XN:e≠x:=jf A7 kR (by intro z;cases z);have XO:b≠x:=jf gU kR (by intro z;cases z);have Vc:ab≠x:=jf DA kR (by intro z;cases z);have Ih:=TE.len;have XQ:H D=none:=yo.free kR Mv;have SR:=yo.same s2;refine⟨fun σ H3=>σ=[sR x,sR w,sR t,sI wd,sR ra,sR ab,sR D]∧H3=upd H2 e (.lst (es.map V.ref++[.ref D])),?_,?_⟩
   ·exact⟨_,rfl,x,aB,dx,_,_,rfl,we,Rc.cl,Rc.kQ,iz c.out c.into e b, .inl ⟨rfl,_, .of Mw⟩,_,rfl,e,_,_,rfl,rfl,Mw,ba (by rw[List.length_map];lia),rfl,rfl⟩
   rintro σ H3 ⟨rfl,rfl⟩;have Mx:upd H2 e (.lst (es.map V.ref++[.ref D])) x=some (.ins aB dx (gR c.out c.into e b)):=by rw[ao (Zd XN)];exact we
   have My:upd H2 e (.lst (es.map V.ref++[.ref D])) b=some (.lst (bs++[.ref ab])):=by rw[ao (Zd Vf)];exact rJ
   have LP:upd H2 e (.lst (es.map V.ref++[.ref D])) ab=some (.lst (du (m+1) (Bq f1 c.out c.into i))):=by rw[ao OQ];exact SQ
   have Dz:upd H2 e (.lst (es.map V.ref++[.ref D])) D=some (.lst (du m (dH f1 c.out c.into i))):=by rw[ao Vg];exact ku
   have Gx:upd H2 e (.lst (es.map V.ref++[.ref D])) e=some (.lst (es.map V.ref++[.ref D])):=ae;have SS:SameBut x H (upd H2 e (.lst (es.map V.ref++[.ref D]))):=SR.laid Jy;have Vi:∀k a,es[k]?=some a→upd H2 e (.lst (es.map V.ref++[.ref D])) a=some (.lst (du m (dH f1 c.out c.into k))):=fun k a hk=>by
    rw[ao (OR a (ZS hk)).2.1];exact s2 _ _ (TE.row k a hk)
   have Vj:∀k a,bz[k]?=some a→upd H2 e (.lst (es.map V.ref++[.ref D])) a=some (.lst (du (m+1) (Bq f1 c.out c.into k))):=fun k a hk=>by
    rw[ao (BZ k a hk).2.1];exact s2 _ _ (BZ k a hk).1
   generalize upd H2 e (.lst (es.map V.ref++[.ref D]))=H3 at Mx My LP Dz Gx SS Vi Vj;refine⟨_,rfl,x,aB,dx,_,_,rfl,Mx,Rc.cl,Rc.jF,gY c.out c.into e b, .inl ⟨rfl,_, .of My⟩,_,rfl,x,dx,_,rfl,Mx,E3 c.out c.into e b,_,rfl,_,rfl,x,D,ab,dx,e,b,c.out,c.into,m,_,_,rfl,Mx,Dz,LP,hm,fun H4 r s4 rL XR=>?_⟩;have Vk:r≠b:=Zd (aF My rL);have XS:r≠e:=Zd (aF Gx rL);refine⟨b,_,_,rfl,rfl,s4 _ _ My,ba (by rw[List.length_append];simp;lia),⟨_,_,_,rfl⟩,by rw[ao (Zd XO)];exact s4 _ _ Mx,(SS.same s4).laid Ve,es++[D],bs++[.ref ab],r,by rw[ao Vf];rw[s4 _ _ Gx];simp,⟨by simp[Ih],fun k a hk=>?_⟩,fun a ha=>?_,ae,by simp[Ig],fun _=>?_,XS,Vk,SS.free Mx rL,bz++[ab],by simp[OS],fun k a hk=>?_⟩
   ·by_cases h:k<i
    ·rw[Ι IL]at hk;rw[ao (OR a (ZS hk)).2.2.1];exact s4 _ _ (Vi k a hk)
    ·rw[Ο IL]at hk;have zM:k-es.length=0:=by
      have:=(ZF hk).1;simp at this
      lia
     rw[zM]at hk;have:D=a:=by simpa using hk
     subst this;rw[ao Vh];have:k=i:=by lia
     rw[this];exact s4 _ _ Dz
   ·rcases List.mem_append.mp ha with ha|ha
    ·exact OR a ha
    ·have:a=D:=by simpa using ha
     rw[this];exact⟨XQ,Vg,Vh,XM⟩
   ·rw[ao Vk,XR]
    congr 2
    unfold du;apply List.map_congr_left;intro j _;rw[BR]
   ·have OU:bz.length=i:=by rw[OS,List.length_map]at Ig;exact Ig
    by_cases h:k<i
    ·rw[Ι IL]at hk;obtain⟨_,z1,z2,z3⟩:=BZ k a hk;exact⟨by rw[ao z2];exact s4 _ _ (Vj k a hk),z1,z2,z3⟩
    ·rw[Ο IL]at hk;have zM:k-bz.length=0:=by
      have:=(ZF hk).1;simp at this
      lia
     rw[zM]at hk;have:ab=a:=by simpa using hk
     subst this;have:k=i:=by lia
     subst this;exact⟨by rw[ao Jz];exact s4 _ _ LP,OQ,Jz,DX⟩
  ·rintro σ H' ⟨⟨u1,u2,u3,rfl⟩,we,SR,es,bs,SU,Mw,TE,OR,rJ,Ig,DA,XT,aaC,Mq,bz,OS,BZ⟩;rw[List.length_map,TA.len]at TE Ig DA;have OU:bz.length=n:=by rw[OS,List.length_map]at Ig;exact Ig
   refine q H' e b SR we ⟨es,Mw,Jy,TE,fun a ha=>(OR a ha).1⟩ fun SV=>⟨bz++[SU],by rw[rJ,OS];simp,Ve,⟨by simp[OU],fun k a hk=>?_⟩,fun a ha=>?_⟩
   ·by_cases h:k<n
    ·rw[Ι IL]at hk;exact(BZ k a hk).1
    ·rw[Ο IL]at hk;have zM:k-bz.length=0:=by
      have:=(ZF hk).1;simp at this
      lia
     rw[zM]at hk;have:SU=a:=by simpa using hk
     subst this;have:k=n:=by lia
     subst this;exact DA SV
   ·rcases List.mem_append.mp ha with ha|ha
    ·obtain⟨k,hk,rfl⟩:=List.mem_iff_getElem.mp ha;exact(BZ k _ (by simp[hk])).2.2.2
    ·have:a=SU:=by simpa using ha
     rw[this];exact Mq
theorem jJ:aL ["self","pair","brought"] ["self","pair"] (av g7):=⟨rfl,rfl,rfl,by decide+kernel,rfl,by decide+kernel,by decide+kernel⟩
include T Rc in
theorem ph{f:Addr}{fd:FuncData}(F:iG K "goes_on" "Trails.goes_on" g7 f fd):a8 P w K mg base (cV P w) true 1 f fd ["self","pair"] (xl aB):=by
 refine F.gk jJ Y_ (fun bR A outer s H vs Q E hr h hX=>?_)
 ·obtain⟨x,dx,e,b,es,bs,f,o,p,n,m,pr,i,j,rfl,_⟩:=h;rfl
 ·obtain⟨x,dx,e,b,es,bs,f1,o,p,n,m,pr,i,j,rfl,TR,Cm,hi,hj,q⟩:=h;refine⟨_,(ZP (Zx (2) jJ.nd (ZC (ZC (ZG K) (ZT (bj K) (pv 1) af)) (ZT (bj K) (pv 1) af))) (ZO (Z9 (@sW _ _ _ _ _ _ _ (@zW _ _ _ _ _ _ (@my _ _ _ _ _ (pv 2)) (by first|exact bp _ (WD) (WD)|rfl)) (@kI _ _ _ _ _ (@d6 _ _ _ _ _ _ _ _ Bv Y9 af (aT _))))))),?_⟩;obtain⟨ra,h1,h2,h3⟩:=TR.tb.at (show i<n+1 by lia);refine⟨_,rfl,x,aB,dx,_,_,rfl,TR.ob,Rc.cl,Rc.jF,gY o p e b,_,rfl,pr,_,_,_,rfl,rfl, .of Cm,Y' (j:=0),b,_,_,_,rfl,rfl, .of TR.hb,ar h2,_,rfl,pr,_,_,_,rfl,rfl, .of Cm,Y' (j:=1),ra,_,_,_,rfl,rfl, .of h3,ar (dz (show j<m+1 by lia)),?_⟩;refine⟨_,rfl,?_⟩;cases eB:Bq f1 o p i j with
  |none=>
   rw[eB]at q;exact⟨_,rfl,aX (fun hh=>Y7 hh (by simp[bB])) fun _=>q⟩
  |some v=>
   rw[eB]at q;exact⟨_,rfl,aX (fun _=>⟨_,rfl,_,_,rfl,rfl,q⟩) fun hh=>Y7 (by simp[bB]) hh⟩
theorem kx:aL ["self","crossing","pair"] ["self","crossing","pair"] (av d_):=⟨rfl,rfl,rfl,by decide+kernel,rfl,by decide+kernel,by decide+kernel⟩
include T Rc in
theorem ky{f:Addr}{fd:FuncData}(F:iG K "is_brought_by" "Trails.is_brought_by" d_ f fd):a8 P w K mg base (cV P w) true 1 f fd ["self","crossing","pair"] (AO aB):=by
 refine F.gk kx Y_ (fun bR A outer s H vs Q E hr h hX=>?_)
 ·obtain⟨x,dx,e,b,es,bs,f,o,p,n,m,cr,pr,i,j,k,l,rfl,_⟩:=h;rfl
 ·obtain⟨x,dx,e,b,es,bs,f1,o,p,n,m,cr,pr,i,j,k,l,rfl,TR,JA,Cm,hi,hj,hk,hl,q⟩:=h;refine⟨_,(ZO (Z9 (@d6 _ _ _ _ _ _ _ _ jg (ZC (ZC (ZG K) (ZT (bj K) (pv 2) af)) (ZT (bj K) (pv 2) af)) (ZC (ZC (ZG K) (ZT (bj K) (pv 1) af)) (ZT (bj K) (pv 1) af)) (aT _)))),?_⟩;obtain⟨ra,h1,h2,h3⟩:=TR.tb.at (show i<n+1 by lia);obtain⟨rb,g1,g2,g3⟩:=TR.te.at hk;refine⟨_,rfl,x,aB,dx,_,_,rfl,TR.ob,Rc.cl,Rc.kQ,iz o p e b,_,rfl,pr,_,_,_,rfl,rfl, .of Cm,Y' (j:=0),e,_,_,_,rfl,rfl, .of TR.he,ar g2,_,rfl,pr,_,_,_,rfl,rfl, .of Cm,Y' (j:=1),rb,_,_,_,rfl,rfl, .of g3,ar (dz hl),?_⟩;refine⟨_,rfl,x,aB,dx,_,_,rfl,TR.ob,Rc.cl,Rc.jF,gY o p e b,_,rfl,cr,_,_,_,rfl,rfl, .of JA,Y' (j:=0),b,_,_,_,rfl,rfl, .of TR.hb,ar h2,_,rfl,cr,_,_,_,rfl,rfl, .of JA,Y' (j:=1),ra,_,_,_,rfl,rfl, .of h3,ar (dz (show j<m+1 by lia)),?_⟩;have JB:∀a c:Option Int,decide (bB a=bB c)=decide (a=c):=fun a c=>by cases a<;>cases c<;>simp[bB]
  refine⟨by cases dH f1 o p k l<;>cases Bq f1 o p i j<;>rfl,?_⟩;rw[JB];exact q
theorem br:aL ["self","crossing","i","j","brought","found"] ["self","crossing"] (av cX):=⟨rfl,rfl,rfl,by decide+kernel,rfl,by decide+kernel,by decide+kernel⟩
include T lb Rc in
theorem jt{f:Addr}{fd:FuncData}(F:iG K "crossings_before" "Trails.crossings_before" cX f fd):a8 P w K mg base (cV P w) true 2 f fd ["self","crossing"] (tR aB):=by
 refine F.gk br Y_ (fun bR A outer s H vs Q E hr h hX=>?_)
 ·obtain⟨x,dx,e,b,es,bs,f,o,p,n,m,cr,i,j,rfl,_⟩:=h;rfl
 ·obtain⟨x,dx,e,b,es,bs,f1,o,p,n,m,cr,i,j,rfl,TR,JA,hi,hj,q⟩:=h;refine⟨_,(ZR (Zx (2) br.nd (ZT (bj K) (pv 1) af)) (ZR (Zx (3) br.nd (ZT (bj K) (pv 1) af)) (ZR (Zx (4) br.nd (ZC (ZC (ZG K) (pv 2)) (pv 3))) (ZR (Zx (5) br.nd (Η ai)) (ZR (Δ (ZQ jg (Zz lb aQ (ZE (ZC (ZC (ZG K) (ZH cx Y9 af)) (pv 3)) (ZA (ZG K)))) (pv 4)) (ZO (Ε (ZJ K PySem.F.slot_list_append PySem.F.type_list_append bL (pv 5) (ZA (@e8 _ _ _ _ _ (Z_ (ZH cx Y9 af))))))) aP) (ZR (Δ (ZQ jg (Zz lb aQ (ZE (ZC (ZC (ZG K) (pv 2)) (ZH cx (pv 3) af)) (ZA (ZG K)))) (pv 4)) (ZO (Ε (ZJ K PySem.F.slot_list_append PySem.F.type_list_append bL (pv 5) (ZA (@e8 _ _ _ _ _ (ZE Y9 (ZA (ZH cx (pv 3) af)))))))) aP) (ZO (Z9 (pv 5))))))))),?_⟩;have JB:∀a c:Option Int,decide (bB a=bB c)=decide (a=c):=fun a c=>by cases a<;>cases c<;>simp[bB]
  obtain⟨ra,h1,h2,h3⟩:=TR.tb.at (show i<n+1 by lia);obtain⟨rb,g1,g2,g3⟩:=TR.tb.at (show i+1<n+1 by lia);refine⟨fun σ H1=>σ=[sR x,sR cr,sI (((i+1:Nat):Int)),none,none,none]∧H1=H,⟨_,rfl,cr,_,_,_,rfl,rfl, .of JA,Y' (j:=0),rfl,rfl⟩,?_⟩;rintro σ H ⟨rfl,rfl⟩;refine⟨fun σ H1=>σ=[sR x,sR cr,sI (((i+1:Nat):Int)),sI (((j+1:Nat):Int)),none,none]∧H1=H,⟨_,rfl,cr,_,_,_,rfl,rfl, .of JA,Y' (j:=1),rfl,rfl⟩,?_⟩;rintro σ H ⟨rfl,rfl⟩;refine⟨fun σ H1=>σ=[sR x,sR cr,sI (((i+1:Nat):Int)),sI (((j+1:Nat):Int)),some (bB (Bq f1 o p (i+1) (j+1))),none]∧H1=H,⟨_,rfl,x,aB,dx,_,_,rfl,TR.ob,Rc.cl,Rc.jF,gY o p e b,_,rfl,b,_,_,_,rfl,rfl, .of TR.hb,ar g2,_,rfl,rb,_,_,_,rfl,rfl, .of g3,ar (dz (show j+1<m+1 by lia)),rfl,rfl⟩,?_⟩;rintro σ H ⟨rfl,rfl⟩;refine⟨fun σ H1=>∃r,σ=[sR x,sR cr,sI (((i+1:Nat):Int)),sI (((j+1:Nat):Int)),some (bB (Bq f1 o p (i+1) (j+1))),sR r]∧au H H1∧H r=none∧H1 r=some (.lst []),⟨aE Xs,fun r hr=>⟨r,rfl,YV hr,hr,ae⟩⟩,?_⟩;rintro σ H1 ⟨r,rfl,s1,rL,Gv⟩;refine⟨fun σ H2=>∃us,σ=[sR x,sR cr,sI (((i+1:Nat):Int)),sI (((j+1:Nat):Int)),some (bB (Bq f1 o p (i+1) (j+1))),sR r]∧au H H2∧H2 r=some (.lst us)∧eF H2 us (if bF (Bq f1 o p i (j+1)) o=Bq f1 o p (i+1) (j+1)then[((i:Int),((j+1:Nat):Int))]else[]),?_,?_⟩
  ·have T1:=TR.keep s1;have ea:rV (bs.map V.ref) (((i+1:Nat):Int)-1)=some (.ref ra):=by
    rw[show((i+1:Nat):Int)-1=(i:Int) by lia];exact ar h2
   refine⟨_,rfl,x,aB,dx,_,_,rfl,T1.ob,Rc.cl,Rc.jF,gY o p e b,_,rfl,_,_,rfl,rfl,b,_,_,_,rfl,rfl, .of T1.hb,ea,_,rfl,ra,_,_,_,rfl,rfl, .of (s1 _ _ h3),ar (dz (show j+1<m+1 by lia)),?_⟩;refine⟨_,rfl,x,aB,dx,_,_,rfl,T1.ob,Rc.cl,Rc.out,Jh o p e b,Bq f1 o p i (j+1),o,rfl,?_⟩;refine⟨_,rfl,by cases bF (Bq f1 o p i (j+1)) o<;>cases Bq f1 o p (i+1) (j+1)<;>rfl,_,rfl,?_⟩;rw[JB];refine aX (fun hh=>?_) (fun hh=>?_)
   ·have hh:bF (Bq f1 o p i (j+1)) o=Bq f1 o p (i+1) (j+1):=of_decide_eq_true hh;rw[Z1 hh];refine⟨_,rfl, .inl ⟨rfl,_, .of Gv⟩,_,rfl,_,_,rfl,rfl,_,rfl,aE Xs,fun t ht=>?_⟩;refine⟨r,_,_,rfl,rfl,au.upd ht _ _ Gv,ba Xs,_,rfl,(s1.trans (YV ht)).eL rL,ae,rfl,fun k f hf=>?_⟩;have hk:k=0:=by
     have:=(ZF hf).1;simp at this
     lia
    subst hk;have hf:((i:Int),((j+1:Nat):Int))=f:=by simpa using hf
    subst hf;refine⟨t,rfl,?_⟩;rw[ao (fun z=>by subst z;rw[Gv]at ht;cases ht),ae];rw[show((i+1:Nat):Int)-1=(i:Int) by lia];rfl
   ·have hh:¬bF (Bq f1 o p i (j+1)) o=Bq f1 o p (i+1) (j+1):=by simpa using hh
    rw[ZY hh];exact⟨[],rfl,s1,Gv, .nil⟩
  rintro σ H2 ⟨us,rfl,s2,zQ,P2⟩;have T2:=TR.keep s2;have aaQ:us.length≤1:=by
   rw[P2.1];split<;>simp
  have eb:rV (du (m+1) (Bq f1 o p (i+1))) (((j+1:Nat):Int)-1)=some (bB (Bq f1 o p (i+1) j)):=by
   rw[show((j+1:Nat):Int)-1=(j:Int) by lia];exact ar (dz (show j<m+1 by lia))
  refine⟨fun σ H3=>∃us,σ=[sR x,sR cr,sI (((i+1:Nat):Int)),sI (((j+1:Nat):Int)),some (bB (Bq f1 o p (i+1) (j+1))),sR r]∧au H H3∧H3 r=some (.lst us)∧eF H3 us (bC f1 o p i j),?_,?_⟩
  ·refine⟨_,rfl,x,aB,dx,_,_,rfl,T2.ob,Rc.cl,Rc.jF,gY o p e b,_,rfl,b,_,_,_,rfl,rfl, .of T2.hb,ar g2,_,rfl,_,_,rfl,rfl,rb,_,_,_,rfl,rfl, .of (s2 _ _ g3),eb,?_⟩;refine⟨_,rfl,x,aB,dx,_,_,rfl,T2.ob,Rc.cl,Rc.into,E2 o p e b,Bq f1 o p (i+1) j,p,rfl,?_⟩;refine⟨_,rfl,by cases bF (Bq f1 o p (i+1) j) p<;>cases Bq f1 o p (i+1) (j+1)<;>rfl,_,rfl,?_⟩;rw[JB];refine aX (fun hh=>?_) (fun hh=>?_)
   ·have hh:bF (Bq f1 o p (i+1) j) p=Bq f1 o p (i+1) (j+1):=of_decide_eq_true hh;refine⟨_,rfl, .inl ⟨rfl,_, .of zQ⟩,_,rfl,_,rfl,_,_,rfl,rfl,aE Xs,fun t ht=>?_⟩;have s3:=au.upd (o:= .tup [.int ((i+1:Nat):Int), .int (((j+1:Nat):Int)-1)]) ht;have Vl:t≠r:=fun z=>by subst z;rw[zQ]at ht;cases ht
    refine⟨r,_,_,rfl,rfl,s3 _ _ zQ,ba IL,_,rfl,(s2.trans s3).eL rL,ae,?_⟩;unfold bC;rw[Z1 hh];refine((P2.same s3).append ⟨rfl,fun k f hf=>?_⟩).cF fun a ys ha=>?_
    ·have hk:k=0:=by
      have:=(ZF hf).1;simp at this
      lia
     subst hk;have hf:(((i+1:Nat):Int),(j:Int))=f:=by simpa using hf
     subst hf;refine⟨t,rfl,?_⟩;rw[ae,show((j+1:Nat):Int)-1=(j:Int) by lia];rfl
    ·have eJ:a≠r:=fun z=>by subst z;rw[s3 _ _ zQ]at ha;cases ha
     rw[ao eJ];exact ha
   ·have hh:¬bF (Bq f1 o p (i+1) j) p=Bq f1 o p (i+1) (j+1):=by simpa using hh
    refine⟨us,rfl,s2,zQ,?_⟩;unfold bC;rw[ZY hh,List.append_nil];exact P2
  rintro σ H3 ⟨us,rfl,s3,xy,P3⟩;exact⟨_,rfl,q H3 r us s3 rL xy P3⟩
variable(bg:eM P w K mg base true 1 aB "is_brought_by" ["self","crossing","pair"] (AO aB))
variable(aY:eM P w K mg base true 2 aB "crossings_before" ["self","crossing"] (tR aB))
theorem bW:aL ["self","pair","crossing","ahead"] ["self","pair"] (av fh):=⟨rfl,rfl,rfl,by decide+kernel,rfl,by decide+kernel,by decide+kernel⟩
include T Rc bg aY in
theorem lG{f:Addr}{fd:FuncData}(F:iG K "pair_before" "Trails.pair_before" fh f fd):a8 P w K mg base (cV P w) true 3 f fd ["self","pair"] (xm aB):=by
 refine F.gk bW Y_ (fun bR A outer s H vs Q E hr h hX=>?_)
 ·obtain⟨x,dx,e,b,es,bs,f,o,p,n,m,pr,i,j,rfl,_⟩:=h;rfl
 ·obtain⟨x,dx,e,b,es,bs,f1,o,p,n,m,pr,i,j,rfl,TR,Cm,hi,hj,hB,q⟩:=h;refine⟨_,(ZP (Zx (2) bW.nd Y4) (ZP (Zx (3) bW.nd (@e8 _ _ _ _ _ (ZE (ZH cx (ZT (bj K) (pv 2) af) af) (ZA (ZH cx (ZT (bj K) (pv 2) af) af))))) (ZP (@sX _ _ _ _ _ _ hX.own (@cU _ _ _ _ (Z' (ZM Y0 bg aQ (Z_ Y9)))) (ZP (Zx (2) bW.nd (ZC (ZM Y0 aY aQ (ZA Y9)) af)) (ZO (Zx (3) bW.nd (@e8 _ _ _ _ _ (ZE (ZH cx (ZT (bj K) (pv 2) af) af) (ZA (ZH cx (ZT (bj K) (pv 2) af) af)))))))) (ZO (Z9 (pv 3)))))),?_⟩;obtain⟨i,rfl⟩:∃i',i=i'+1:=by
   cases i with
   |zero=>exact Y7 (iR f1 o p j) hB
   |succ i=>exact⟨i,rfl⟩
  obtain⟨j,rfl⟩:∃j',j=j'+1:=by
   cases j with
   |zero=>exact Y7 (by unfold Bq;rfl) hB
   |succ j=>exact⟨j,rfl⟩
  refine⟨_,rfl,_,rfl,pr,_,_,_,rfl,rfl, .of Cm,Y' (j:=0),_,_,rfl,rfl,_,rfl,pr,_,_,_,rfl,rfl, .of Cm,Y' (j:=1),_,_,rfl,rfl,aE Xs,fun t ht=>?_⟩;refine⟨fun mm σ H1=>∃(cr ah:Addr)(i2 j2:Nat),mm=i2+j2∧σ=[sR x,sR pr,sR cr,sR ah]∧au H H1∧H1 cr=some (.tup [.int ((i2+1:Nat):Int), .int ((j2+1:Nat):Int)])∧H1 ah=some (.tup [.int i2, .int j2])∧i2<n∧j2<m∧Bq f1 o p (i2+1) (j2+1)≠none∧cP f1 o p (i2+1) (j2+1)=cP f1 o p (i+1) (j+1),⟨i+j,pr,t,i,j,rfl,rfl,YV ht,au.upd ht _ _ Cm,?_,by lia,by lia,hB,rfl⟩,?_⟩
  ·rw[ae,show((i+1:Nat):Int)-1=(i:Int) by lia,show((j+1:Nat):Int)-1=(j:Int) by lia]
  rintro mm σ H1 ⟨cr,ah,i2,j2,rfl,rfl,s1,JA,Vm,DP,SW,Mz,Vn⟩;have T1:=TR.keep s1;refine⟨_,rfl,x,dx,_,rfl,T1.ob,Jr o p e b,_,rfl,_,rfl,x,dx,e,b,es,bs,f1,o,p,n,m,cr,ah,i2+1,j2+1,i2,j2,rfl,T1,JA,Vm,by lia,by lia,DP,SW,?_⟩;refine⟨_,rfl,?_⟩;by_cases hE:dH f1 o p i2 j2=Bq f1 o p (i2+1) (j2+1)
  ·rw[decide_eq_true hE];refine fQ ?_;refine⟨_,rfl,q H1 ah s1 ?_⟩;have:cP f1 o p (i2+1) (j2+1)=(i2,j2):=by unfold cP;rw[Z1 hE]
   rw[←Vn,this];exact Vm
  ·rw[decide_eq_false hE];refine jY ?_;refine⟨_,fun bx H' z=>z,?_⟩;obtain⟨i3,j3,c0,c1,c2,c3,c4,c5⟩:=za Mz hE;refine⟨_,rfl,x,dx,_,rfl,T1.ob,B9 o p e b,_,rfl,x,dx,e,b,es,bs,f1,o,p,n,m,cr,i2,j2,rfl,T1,JA,DP,SW,fun H2 r us s2 rL zQ P2=>?_⟩;obtain⟨t2,k1,k2⟩:=P2.2 0 _ c0;refine⟨r,_,_,_,rfl,rfl, .of zQ,ar (j:=0) k1,?_⟩;refine⟨_,rfl,t2,_,_,_,rfl,rfl, .of k2,Y' (j:=0),_,_,rfl,rfl,_,rfl,t2,_,_,_,rfl,rfl, .of k2,Y' (j:=1),_,_,rfl,rfl,aE Xs,fun t3 Vo=>?_⟩;refine⟨i3+j3,by lia,t2,t3,i3,j3,rfl,rfl,s1.trans (s2.trans (YV Vo)),au.upd Vo _ _ k2,?_,by lia,by lia,c4,by rw[c5,Vn]⟩;rw[ae];show some (HO.tup [.int (((i3+1:Nat):Int)-1), .int (((j3+1:Nat):Int)-1)])=_;rw[show((i3+1:Nat):Int)-1=(i3:Int) by lia,show((j3+1:Nat):Int)-1=(j3:Int) by lia]
variable(b_:eM P w K mg base true 1 aB "goes_on" ["self","pair"] (xl aB))
variable(dC:eM P w K mg base true 3 aB "pair_before" ["self","pair"] (xm aB))
theorem kz:aL ["self","pair","way"] ["self","pair"] (av iI):=⟨rfl,rfl,rfl,by decide+kernel,rfl,by decide+kernel,by decide+kernel⟩
include T Rc b_ dC in
theorem qS{f:Addr}{fd:FuncData}(F:iG K "way_to" "Trails.way_to" iI f fd):a8 P w K mg base (cV P w) true 4 f fd ["self","pair"] (AQ aB):=by
 refine F.gk kz Y_ (fun bR A outer s H vs Q E hr h hX=>?_)
 ·obtain⟨x,dx,e,b,es,bs,f,o,p,n,m,pr,i,j,rfl,_⟩:=h;rfl
 ·obtain⟨x,dx,e,b,es,bs,f1,o,p,n,m,pr,i,j,rfl,TR,Cm,hi,hj,hn,q⟩:=h;refine⟨_,(ZP (Zx (2) kz.nd (Η (ZA Y4))) (ZP (@sX _ _ _ _ _ _ hX.own (Z' (ZM Y0 b_ aQ (ZA (ZC Y9 (@lu _ _ _ _ _ _ iF af))))) (ZO (Ε (ZJ K PySem.F.slot_list_append PySem.F.type_list_append bL Y9 (ZA (ZM Y0 dC aQ (ZA (ZC Y9 (@lu _ _ _ _ _ _ iF af))))))))) (ZP (Ε (@Hn _ K _ _ _ _ _ _ _ _ PySem.F.plainAttrs_list PySem.F.slot_list_reverse PySem.F.type_list_reverse Aj Y9 (YW) (YW) (YW))) (ZO (Z9 Y9))))),?_⟩;refine⟨_,rfl,aE Xs,fun w hw=>?_⟩;refine⟨fun mm σ H1=>∃(us:List V)(A:List (Nat×Nat))(i2 j2:Nat),mm=i2∧σ=[sR x,sR pr,sR w]∧au H H1∧H1 w=some (.lst us)∧eF H1 us ((A++[(i2,j2)]).map aR)∧i2<n∧j2<m∧A.length+i2≤i∧eP f1 o p i i j=eP f1 o p i2 i2 j2++A.reverse,⟨i,_,[],i,j,rfl,rfl,YV hw,ae,⟨rfl,fun k g hg=>?_⟩,hi,hj,XU,XU⟩,?_⟩
  ·have hk:k=0:=by
    have:=(ZF hg).1;simp at this
    lia
   subst hk;have hg:aR (i,j)=g:=by simpa using hg
   subst hg;exact⟨pr,rfl,au.upd hw _ _ Cm⟩
  rintro i2 σ H1 ⟨us,A,_,j2,rfl,rfl,s1,sg,P1,DP,SW,hA,Ii⟩;have T1:=TR.keep s1;obtain⟨t,wc,r_⟩:=P1.last Xs;rw[List.map_append,List.map_singleton,nK]at r_;have hlen:us.length≤1001:=by have:=P1.1;simp at this;lia
  refine⟨_,rfl,x,dx,_,rfl,T1.ob,FG o p e b,_,rfl,_,rfl,w,_,_,_,rfl,rfl, .of sg,wc,x,dx,e,b,es,bs,f1,o,p,n,m,t,i2,j2,rfl,T1,r_,by lia,by lia,?_⟩;refine⟨_,rfl,?_⟩;refine aX (fun hh=>?_) (fun hh=>?_)
  ·obtain⟨c1,c2,c3⟩:=kj hh;have hl:=(kT f1 o p i2 j2 c1 c2).resolve_right c3;refine⟨_,fun bx H' z=>z,?_⟩;refine⟨_,rfl, .inl ⟨rfl,_, .of sg⟩,_,rfl,x,dx,_,rfl,T1.ob,LA o p e b,_,rfl,_,rfl,w,_,_,_,rfl,rfl, .of sg,wc,x,dx,e,b,es,bs,f1,o,p,n,m,t,i2,j2,rfl,T1,r_,by lia,by lia,c3,fun H2 r s2 hr=>?_⟩;have Ze:r≠w:=fun z=>by subst z;rw[s2 _ _ sg]at hr;cases hr
   refine⟨w,_,_,rfl,rfl,s2 _ _ sg,ba IL,(cP f1 o p i2 j2).1,hl.1,us++[.ref r],A++[(i2,j2)],_,(cP f1 o p i2 j2).2,rfl,rfl,(s1.trans s2).eL hw,ae,?_,by lia,by lia,by simp;lia,?_⟩
   ·rw[List.map_append];refine((P1.same s2).append ⟨rfl,fun k g hg=>?_⟩).cF fun a ys ha=>?_
    ·have hk:k=0:=by
      have:=(ZF hg).1;simp at this
      lia
     subst hk;have hg:aR ((cP f1 o p i2 j2).1,(cP f1 o p i2 j2).2)=g:=by simpa using hg
     subst hg;exact⟨r,rfl,hr⟩
    ·have eJ:a≠w:=fun z=>by subst z;rw[s2 _ _ sg]at ha;cases ha
     rw[ao eJ];exact ha
   ·rw[Ii,v8 hh];simp
  ·have hh:¬gS (Bq f1 o p i2 j2)=true:=hh;refine⟨_,rfl, .inl ⟨rfl,_, .of sg⟩,w,us,rfl,rfl,sg,?_⟩;refine⟨_,rfl,q _ w us.reverse (s1.eL hw) hw ae ?_⟩;have e:eP f1 o p i i j=(A++[(i2,j2)]).reverse:=by
    rw[Ii,gZ hh];simp
   rw[e,List.map_reverse];refine⟨by rw[List.length_reverse,List.length_reverse,P1.1],fun k g hg=>?_⟩;have hk:=(ZF hg).1;rw[List.length_reverse]at hk;have hl:=P1.1;rw[List.getElem?_reverse hk]at hg;obtain⟨t3,k1,k2⟩:=P1.2 _ _ hg;refine⟨t3,by rw[List.getElem?_reverse IL,hl];exact k1,?_⟩;have eJ:t3≠w:=fun z=>by subst z;rw[sg]at k2;cases k2
   rw[ao eJ];exact k2
variable(Fc:Js K ay)
theorem mV:aL ["self","worth","way","row","pairs"] ["self","worth","way","row","pairs"] (av fV):=⟨rfl,rfl,rfl,by decide+kernel,rfl,by decide+kernel,by decide+kernel⟩
include T Fc in
theorem mW{f:Addr}{fd:FuncData}(F:iG K "__init__" "Finding.__init__" fV f fd):a8 P w K mg base (cV P w) true 1 f fd ["self","worth","way","row","pairs"] (tS ay):=by
 refine F.gk mV Y_ (fun bR A outer s H vs Q E hr h hX=>?_)
 ·obtain⟨x,dx,a,r,p,w,rfl,_⟩:=h;rfl
 ·obtain⟨x,dx,a,r,p,w,rfl,hx,q⟩:=h;refine⟨_,(ZP (Z7 K Y0 (pv 1)) (ZP (Z7 K Y0 (pv 2)) (ZP (Z7 K Y0 (pv 3)) (ZO (Z7 K Y0 (pv 4)))))),?_⟩;have a1:=aW "worth" (.int w) [];have a2:=aW "way" (.ref a) (bu "worth" (.int w) []);have a3:=aW "row" (.ref r) (bu "way" (.ref a) (bu "worth" (.int w) []));simp only[List.length_nil]at a1;refine⟨_,rfl,_,rfl,x,ay,dx,_,rfl,hx,Fc.cl,Fc.worth,WD,?_⟩;refine⟨_,rfl,_,rfl,x,ay,dx,_,rfl,ae,Fc.cl,Fc.way,by lia,?_⟩;refine⟨_,rfl,_,rfl,x,ay,dx,_,rfl,ae,Fc.cl,Fc.row,by lia,?_⟩;refine⟨_,rfl,_,rfl,x,ay,dx,_,rfl,ae,Fc.cl,Fc.pairs,by lia,?_⟩;rw[gc,gc,gc,LB];exact q
theorem zi:aL ["finding"] ["finding"] (av nS):=⟨rfl,rfl,rfl,by decide+kernel,rfl,by decide+kernel,by decide+kernel⟩
include T Fc in
theorem zj{f:Addr}{fd:FuncData}(F:jy K "order_of" "order_of" nS f fd):a8 P w K mg base (cV P w) true 1 f fd ["finding"] (tT ay):=by
 refine F.gk zi Y_ (fun bR A outer s H vs Q E hr h hX=>?_)
 ·obtain⟨x,dx,a,r,p,w,us,ps,rfl,_⟩:=h;rfl
 ·obtain⟨x,dx,a,r,p,w,us,ps,rfl,hx,hp,PS,eJ,q⟩:=h;refine⟨_,(ZO (Z9 (@e8 _ _ _ _ _ (ZE (@lu _ _ _ _ _ _ iF (ZG K)) (ZA (ZC (ZG K) af)))))),?_⟩;obtain⟨t,h1,h2⟩:=PS.first eJ;refine⟨_,rfl,x,ay,dx,_,_,rfl,hx,Fc.cl,Fc.worth,jn w a r p,_,rfl,_,rfl,x,ay,dx,_,_,rfl,hx,Fc.cl,Fc.pairs,kn w a r p,p,_,_,_,rfl,rfl, .of hp,h1,aE Xs,fun k hk=>?_⟩;exact q _ k t (YV hk) ae (au.upd hk _ _ h2)
variable(fN:eM P w K mg base true 4 aB "way_to" ["self","pair"] (AQ aB))
variable(lg:m6 P w K mg base true 1 "Finding" ay ["self","worth","way","row","pairs"] [] (tS ay))
theorem fO:aL ["trails","worth","pairs","ends","way","row"] ["trails","worth","pairs"] (av fj):=⟨rfl,rfl,rfl,by decide+kernel,rfl,by decide+kernel,by decide+kernel⟩
include T Rc fN lg in
theorem si{f:Addr}{fd:FuncData}(F:jy K "make_finding" "make_finding" fj f fd):a8 P w K mg base (cV P w) true 6 f fd ["trails","worth","pairs"] (AS aB ay):=by
 refine F.gk fO Y_ (fun bR A outer s H vs Q E hr h hX=>?_)
 ·obtain⟨x,dx,e,b,es,bs,f,o,p,n,m,w,pr,us,ps,q0,rfl,_⟩:=h;rfl
 ·obtain⟨x,dx,e,b,es,bs,f1,o,p,n,m,w,pr,us,ps,q0,rfl,TR,Cm,PS,oA,h0,hn,AL,q⟩:=h;refine⟨_,(ZR (@kL _ _ _ _ _ _ _ _ _ _ _ _ _ _ _ (3) _ _ (by exact rfl) fO.nd Ζ (by exact rfl) (show bq ["trails","worth","pairs","ends","way","row"] (av fj) _ ["pair"] [0,1] ["trails","worth"]from⟨rfl,by decide+kernel,by decide+kernel,by decide+kernel,rfl,rfl,by decide+kernel,by decide+kernel,by decide+kernel⟩) (Θ K Y9) (fun _ _ _ _ _=>(Zy (0) (show(["pair","trails","worth"]:List Str).Nodup by decide+kernel))) (fun _ _ _ _ _=>(@sJ _ _ _ (ZQ jg (ZC (ZC (Z0 K Y4) (ZT (bj K) (pv 0) af)) (ZT (bj K) (pv 0) af)) (pv 2)))) (fun _ _ _ _ _=>(pv 0)) (YW) (by intro _;rfl)) (ZR (Zx (4) fO.nd (ZM Y0 fN aQ (ZA (ZC (pv 3) af)))) (ZR (@kL _ _ _ _ _ _ _ _ _ _ _ _ _ _ _ (5) _ _ (by exact rfl) fO.nd Ζ (by exact rfl) (show bq ["trails","worth","pairs","ends","way","row"] (av fj) _ ["i","j"] [0] ["trails"]from⟨rfl,by decide+kernel,by decide+kernel,by decide+kernel,rfl,rfl,by decide+kernel,by decide+kernel,by decide+kernel⟩) (Θ K (pv 4)) (fun _ _ _ _ _=>(θ K (2) (by exact rfl) (Ν (Zy (0) (show(["i","j","trails"]:List Str).Nodup by decide+kernel)) (Ν (Zy (1) (show(["i","j","trails"]:List Str).Nodup by decide+kernel)) gf)))) (fun _ _ _ _ _=>iQ) (fun _ _ _ _ _=>(ZC (ZC (Z0 K Y9) (pv 0)) (pv 1))) (YW) (by intro _;rfl)) (ZO (Z9 (@sL _ _ _ _ _ _ _ _ _ _ _ _ _ _ lg (hr.mono (WD)) hX.pass (ZE Y4 (ZE (pv 4) (ι (pv 5)))) (YW) (WD) (YW) (YW))))))),?_⟩;have DB:us.length=ps.length:=by have:=PS.1;simpa using this
  refine⟨fun σ H1=>∃D vs,σ=[sR x,sI w,sR pr,sR D,none,none]∧au H H1∧H1 D=some (.lst vs)∧eF H1 vs ((ps.filter fun q=>decide (dH f1 o p q.1 q.2=some w)).map aR),?_,?_⟩
  ·refine⟨_,rfl,pr,rfl,⟨_, .of Cm⟩,fun D hD=>?_⟩;refine fZ (xs:=us) (fun k ys bx H'=>(∃u,bx=[u,sR x,sI w])∧eF H ys (((ps.take k).filter fun q=>decide (dH f1 o p q.1 q.2=some w)).map aR)∧H' D=some (.lst ys)∧au H H'∧ys.length≤k) ⟨⟨_,rfl⟩, .nil,ae,YV hD,XU⟩ ?_ ?_ ?_
   ·rintro k ys bx H' _ ⟨_,_,_,s1,_⟩;exact .of (s1 _ _ Cm)
   ·rintro k v ys bx H' hv ⟨⟨u,rfl⟩,P1,sf,s1,lC⟩;have hk:k<ps.length:=by rw[←DB];exact(ZF hv).1
    have ek:ps[k]?=some ps[k]:=by simp[hk]
    have hm:=oA ps[k] (List.getElem_mem hk);generalize ps[k]=g at ek hm;obtain⟨t,k1,k2⟩:=PS.2 k (aR g) (by rw[List.getElem?_map,ek];rfl);rw[hv]at k1;cases k1;have T1:=TR.keep s1;have kt:=s1 _ _ k2;obtain⟨rb,g1,g2,g3⟩:=T1.te.at hm.1;have et:ps.take (k+1)=ps.take k++[g]:=by rw[List.take_succ,ek];rfl
    refine⟨_,rfl,x,aB,dx,_,_,rfl,T1.ob,Rc.cl,Rc.kQ,iz o p e b,_,rfl,t,_,_,_,rfl,rfl, .of kt,Y' (j:=0),e,_,_,_,rfl,rfl, .of T1.he,ar g2,_,rfl,t,_,_,_,rfl,rfl, .of kt,Y' (j:=1),rb,_,_,_,rfl,rfl, .of g3,ar (dz hm.2),?_⟩;have JB:decide (bB (dH f1 o p g.1 g.2)=V.int w)=decide (dH f1 o p g.1 g.2=some w):=by cases dH f1 o p g.1 g.2<;>simp[bB]
    refine⟨_,rfl,by cases dH f1 o p g.1 g.2<;>rfl,_,rfl,?_⟩;rw[JB];refine aX (fun hh=>?_) (fun hh=>?_)
    ·refine⟨_,rfl,sf,ba IL,⟨_,rfl⟩,?_,ae,s1.eL hD,by simp;lia⟩;rw[et,List.filter_append,List.map_append];refine P1.append ?_;rw[show[g].filter (fun q=>decide (dH f1 o p q.1 q.2=some w))=[g] by rw[List.filter_cons,Z1 hh];rfl];exact⟨rfl,fun k3 g3 QA=>by
      have XW:k3=0:=by
       have:=(ZF QA).1;simp at this
       lia
      subst XW;have QA:aR g=g3:=by simpa using QA
      subst QA;exact⟨t,rfl,k2⟩⟩
    ·have hh:decide (dH f1 o p g.1 g.2=some w)=false:=by simpa using hh
     refine⟨⟨_,rfl⟩,?_,sf,s1,by lia⟩;rw[et,List.filter_append,show[g].filter (fun q=>decide (dH f1 o p q.1 q.2=some w))=[] by rw[List.filter_cons,hh];rfl,List.append_nil];exact P1
   ·rintro ys bx H' ⟨_,P1,sf,s1,_⟩;rw[DB,List.take_length]at P1;exact⟨D,ys,rfl,s1,sf,P1.same s1⟩
  rintro σ H1 ⟨D,vs,rfl,s1,sf,P1⟩;obtain⟨t0,k1,k2⟩:=P1.2 0 (aR q0) (by rw[List.getElem?_map,h0];rfl);have Ij:q0.1<n∧q0.2<m:=oA q0 (List.mem_filter.mp (ZS h0)).1;refine⟨fun σ H2=>∃wy gT,σ=[sR x,sI w,sR pr,sR D,sR wy,none]∧au H1 H2∧H1 wy=none∧H2 wy=some (.lst gT)∧eF H2 gT ((eP f1 o p q0.1 q0.1 q0.2).map aR),?_,?_⟩
  ·have T1:=TR.keep s1;exact⟨_,rfl,x,dx,_,rfl,T1.ob,Oy o p e b,_,rfl,D,_,_,_,rfl,rfl, .of sf,ar (j:=0) k1,x,dx,e,b,es,bs,f1,o,p,n,m,t0,q0.1,q0.2,rfl,T1,k2,Ij.1,Ij.2,hn,fun H2 wy gT s2 h2 h3 P2=>⟨wy,gT,rfl,s2,h2,h3,P2⟩⟩
  rintro σ H2 ⟨wy,gT,rfl,s2,SX,DY,P2⟩;have A8:=P2.1;rw[List.length_map]at A8;have Mg:(eP f1 o p q0.1 q0.1 q0.2).length≤1001:=by
   have:=zb (f:=f1) (o:=o) (p:=p) q0.1 q0.1 q0.2
   lia
  have OW:=B_ (f:=f1) (o:=o) (p:=p) q0.1 q0.1 q0.2 Ij.1 Ij.2;generalize eP f1 o p q0.1 q0.1 q0.2=W at P2 A8 Mg OW q;refine⟨fun σ H3=>∃r,σ=[sR x,sI w,sR pr,sR D,sR wy,sR r]∧au H2 H3∧H2 r=none∧H3 r=some (.lst (W.map fun q=>bB (dH f1 o p q.1 q.2))),?_,?_⟩
  ·refine⟨_,rfl,wy,rfl,⟨_, .of DY⟩,fun D2 ku=>?_⟩;refine fZ (xs:=gT) (fun k ys bx H'=>(∃u v,bx=[u,v,sR x])∧ys=(W.take k).map (fun q=>bB (dH f1 o p q.1 q.2))∧H' D2=some (.lst ys)∧au H2 H') ⟨⟨_,_,rfl⟩,rfl,ae,YV ku⟩ ?_ ?_ ?_
   ·rintro k ys bx H' _ ⟨_,_,_,s3⟩;exact .of (s3 _ _ DY)
   ·rintro k v ys bx H' hv ⟨⟨u,v2,rfl⟩,rfl,Dz,s3⟩;have hk:k<W.length:=by rw[←A8];exact(ZF hv).1
    have ek:W[k]?=some W[k]:=by simp[hk]
    have hm:=OW W[k] (List.getElem_mem hk);generalize W[k]=g at ek hm;obtain⟨t,k1,k2⟩:=P2.2 k (aR g) (by rw[List.getElem?_map,ek];rfl);rw[hv]at k1;cases k1;have T3:=TR.keep (s1.trans (s2.trans s3));have kt:=s3 _ _ k2;obtain⟨rb,g1,g2,g3⟩:=T3.te.at hm.1;refine⟨t,_,rfl, .of kt,rfl,_,_,rfl,_,_,rfl,rfl,?_⟩;refine wQ ?_;refine⟨_,rfl,x,aB,dx,_,_,rfl,T3.ob,Rc.cl,Rc.kQ,iz o p e b,_,rfl,e,_,_,_,rfl,rfl, .of T3.he,ar g2,_,rfl,rb,_,_,_,rfl,rfl, .of g3,ar (dz hm.2),?_⟩;refine⟨Dz,ba (by rw[List.length_map,List.length_take];lia),⟨_,_,rfl⟩,?_,ae,s3.eL ku⟩;rw[List.take_succ,ek];simp
   ·rintro ys bx H' ⟨_,rfl,Dz,s3⟩;rw[A8,List.take_length]at Dz;exact⟨D2,rfl,s3,ku,Dz⟩
  rintro σ H3 ⟨r,rfl,s3,rL,xy⟩;refine⟨_,rfl,_,rfl,_,rfl,_,rfl,fun y dy hy LQ eJ=>?_⟩;have s4:au H3 (upd (upd H3 dy (.own y)) y (.ins ay dy [])):=(YV LQ).eL hy;refine⟨y,dy,wy,r,pr,w,rfl,ae,?_⟩;refine⟨rfl,?_⟩;rw[gc];have s5:au H3 (upd (upd H3 dy (.own y)) y (.ins ay dy (m_ w wy r pr))):=(YV LQ).eL hy;have sH:=s1.trans (s2.trans s3);exact q _ y dy wy r gT (sH.trans s5) (sH.free hy) (sH.free LQ) (s1.free SX) ((s1.trans s2).free rL) ae (by rw[ao eJ];exact ae) (s5 _ _ (s3 _ _ DY)) (P2.same (s3.trans s5)) (s5 _ _ xy)
variable(Gc:Oz K aI)
theorem nZ:aL ["self"] ["self"] (av gw):=⟨rfl,rfl,rfl,by decide+kernel,rfl,by decide+kernel,by decide+kernel⟩
include T Gc in
theorem n5{f:Addr}{fd:FuncData}(F:iG K "__init__" "Groups.__init__" gw f fd):a8 P w K mg base (cV P w) true 1 f fd ["self"] (tU aI):=by
 refine F.gk nZ Y_ (fun bR A outer s H vs Q E hr h hX=>?_)
 ·obtain⟨x,dx,rfl,_⟩:=h;rfl
 ·obtain⟨x,dx,rfl,hx,q⟩:=h;refine⟨_,(ZP (Z7 K Y0 kc) (ZO (Z7 K Y0 kc))),?_⟩;have a1:=aW "leads" (.ref 0) [];simp only[List.length_nil]at a1;refine fun dl OX=>?_
  have n1:x≠dl:=aF hx OX;refine⟨_,rfl,x,aI,dx,_,rfl,by rw[ao n1];exact hx,Gc.cl,Gc.oZ,WD,?_⟩;refine fun dm JC=>?_
  have n2:x≠dm:=fun z=>by rw[z,ae]at JC;cases JC
  have Ik:upd H dl (.dT []) dm=none:=by rw[ao (Zd n2)]at JC;exact JC
  have n3:dm≠dl:=fun z=>by rw[z,ae]at Ik;cases Ik
  have OY:H dm=none:=by rw[ao n3]at Ik;exact Ik
  refine⟨_,rfl,x,aI,dx,_,rfl,by rw[ao n2,ae],Gc.cl,Gc.members,by have:=aW "leads" (.ref dl) [];simp at this;lia,?_⟩;rw[OA];refine q _ (fun a=>a=dl∨a=dm) ?_ ?_ ?_
  ·exact fun b u hb e=>by
    rw[ao hb,ao (aF e OY),ao hb,ao (aF e OX)];exact e
  ·rintro a (rfl|rfl)
   ·exact OX
   ·exact OY
  ·refine⟨dx,dl,dm,[],[],fun _=>none,fun _=>none,ae,fun z=>z.elim n1 n2,⟨?_,?_, .inl rfl, .inr rfl,Zd n3,fun p=>rfl,fun p=>rfl,fun p q a e=>(by cases e),fun kv h=>(by cases h), .nil,fun l ms e=>(by cases e),fun p l e=>(by cases e),fun l ms e=>(by cases e)⟩,fun a b=>⟨False.elim,fun⟨l,e,_⟩=>(by cases e)⟩,Nat.le_refl _,Nat.le_refl _⟩
   ·rw[ao (Zd n1),ao (Zd n3),ao (Zd n1),ae]
   ·rw[ao (Zd n2),ae]
theorem uV:aL ["self","pair"] ["self","pair"] (av iT):=⟨rfl,rfl,rfl,by decide+kernel,rfl,by decide+kernel,by decide+kernel⟩
include T Gc in
theorem uW{f:Addr}{fd:FuncData}(F:iG K "has" "Groups.has" iT f fd):a8 P w K mg base (cV P w) true 1 f fd ["self","pair"] (AU aI):=by
 refine F.gk uV Y_ (fun bR A outer s H vs Q E hr h hX=>?_)
 ·obtain⟨x,t,p,S,E1,B,rfl,_⟩:=h;rfl
 ·obtain⟨x,t,p,S,E1,B,rfl,G,ht,q⟩:=h;have hu:=hr.units;have hu:(A.deeper (Ψ "Groups.has" (av iT) f bR)).units+1<cLine:=by lia
  refine⟨_,(ZO (Z9 (@zW _ _ _ _ _ _ (@qp _ _ _ _ _ hu Y4 (ZG K)) (by first|exact bp _ (WD) (WD)|rfl)))),?_⟩;obtain⟨dg,dl,dm,kl,km,ld,mm,hg,F',D,hE,QB,Mz⟩:=G;refine⟨_,rfl,_,rfl,x,aI,dg,_,_,rfl,hg,Gc.cl,Gc.oZ,jG dl dm,dl,_,rfl, .t (k:=bb p) D.hl ht,q _ ?_⟩;rw[hE];have:=D.lv p;cases e:ld p with
  |none=>
   rw[e]at this;have this:bE kl (bb p)=none:=this;rw[this];simp
  |some l=>
   rw[e]at this;obtain⟨t2,h1,_⟩:=this;rw[h1];simp
theorem pj:aL ["self","pair"] ["self","pair"] (av fC):=⟨rfl,rfl,rfl,by decide+kernel,rfl,by decide+kernel,by decide+kernel⟩
include T Gc in
theorem px{f:Addr}{fd:FuncData}(F:iG K "take_in" "Groups.take_in" fC f fd):a8 P w K mg base (cV P w) true 1 f fd ["self","pair"] (xn aI):=by
 refine F.gk pj Y_ (fun bR A outer s H vs Q E hr h hX=>?_)
 ·obtain⟨x,t,p,S,E1,B,rfl,_⟩:=h;rfl
 ·obtain⟨x,t,p,S,E1,B,rfl,G,ht,hB,q⟩:=h;have hu:=hr.units;have hu:(A.deeper (Ψ "Groups.take_in" (av fC) f bR)).units+1<cLine:=by lia
  refine⟨_,(ZO (Δ (ZN (@vN _ _ _ _ _ hu Y4 (ZG K))) (ZP (@kJ _ _ _ _ _ _ _ _ _ hu (ZG K) (pv 1) (pv 1) (by exact rfl)) (ZO (@kJ _ _ _ _ _ _ _ _ _ hu (ZG K) (pv 1) (Η (ZA Y4)) (by exact rfl)))) aP)),?_⟩;obtain⟨dg,dl,dm,kl,km,ld,mm,hg,F',D,hE,QB,Mz⟩:=id G;refine⟨_,rfl,_,rfl,x,aI,dg,_,_,rfl,hg,Gc.cl,Gc.oZ,jG dl dm,dl,_,rfl, .t (k:=bb p) D.hl ht,_,rfl,?_⟩;have lv:=D.lv p;cases e:ld p with
  |some l=>
   rw[e]at lv;obtain⟨t2,h1,_⟩:=lv;rw[h1];refine fQ ?_;refine q H S (.same (.refl H)) (G.iff (fun a b=>?_) (by lia));unfold Jt;refine⟨fun z=>z.elim id ?_, .inl⟩;rintro⟨rfl,rfl⟩;rw[hE];exact⟨l,e,e⟩
  |none=>
   rw[e]at lv;have lv:bE kl (bb p)=none:=lv;rw[lv];refine jY ?_;have nx:x≠dl:=fun z=>F' (z▸D.sl)
   have QC:x≠dm:=fun z=>F' (z▸D.sm)
   have SY:t≠dl:=fun z=>by rw[z,D.hl]at ht;cases ht
   have Zf:t≠dm:=fun z=>by rw[z,D.hm]at ht;cases ht
   refine⟨_,rfl,_,rfl,x,aI,dg,_,_,rfl,hg,Gc.cl,Gc.oZ,jG dl dm,_,rfl,dl,_,rfl, .t (k:=bb p) D.hl ht (ba IL),?_⟩;refine⟨_,rfl,aE Xs,fun a ha=>?_⟩;have na:a≠dl:=fun z=>by rw[z,ae]at ha;cases ha
   have DX:H a=none:=by rw[ao na]at ha;exact ha
   have OP:x≠a:=aF hg DX;have Vp:dm≠a:=aF D.hm DX;have XX:t≠a:=aF ht DX;refine⟨_,rfl,x,aI,dg,_,_,rfl,by rw[ao OP,ao nx];exact hg,Gc.cl,Gc.members,jd dl dm,_,rfl,dm,_,rfl, .t (k:=bb p) (by rw[ao Vp,ao (Zd D.ne)];exact D.hm) (by rw[ao XX,ao SY];exact ht) (ba IL),?_⟩;refine q _ (fun y=>S y∨y=a) ⟨fun y hy=>hy.imp id (fun z=>by rw[z];exact DX),fun b o hb eb=>?_⟩ ?_
   ·rw[ao (fun z:b=dm=>hb (by rw[z];exact D.sm)),ao (aF eb DX),ao (fun z:b=dl=>hb (by rw[z];exact D.sl))];exact eb
   refine⟨dg,dl,dm,_,_,_,_,by rw[ao QC,ao OP,ao nx];exact hg,fun z=>z.elim F' OP,D.take (t:=t) (a:=a) e ht DX ?_ ae ?_ ?_,fun a1 b1=>?_,?_,?_⟩
   ·rw[ao D.ne,ao (Zd na),ae]
   ·rw[ao (Zd Vp),ae]
   ·intro b o h1 h2 eb;rw[ao h2,ao (aF eb DX),ao h1];exact eb
   ·unfold Jt;rw[hE];constructor
    ·rintro(⟨l,h1,h2⟩|⟨z1,z2⟩)
     ·exact⟨l,by rw[ZY (fun z=>by rw[z,e]at h1;cases h1)];exact h1,by rw[ZY (fun z=>by rw[z,e]at h2;cases h2)];exact h2⟩
     ·exact⟨p,by rw[Z1 z1],by rw[Z1 z2]⟩
    ·rintro⟨l,h1,h2⟩;by_cases z1:a1=p
     ·by_cases z2:b1=p
      ·exact .inr ⟨z1,z2⟩
      ·rw[Z1 z1]at h1;rw[ZY z2]at h2;cases h1;obtain⟨ms,DT⟩:=D.ml _ _ h2;have:=D.self _ _ DT;rw[e]at this;cases this
     ·rw[ZY z1]at h1;by_cases z2:b1=p
      ·rw[Z1 z2]at h2;cases h2;obtain⟨ms,DT⟩:=D.ml _ _ h1;have:=D.self _ _ DT;rw[e]at this;cases this
      ·rw[ZY z2]at h2;exact .inl ⟨l,h1,h2⟩
   ·exact Nat.le_trans (e_ _ _ _) (by lia)
   ·exact Nat.le_trans (e_ _ _ _) (by lia)
theorem cG:aL ["self","pair","other","lead","gone","moved","member"] ["self","pair","other"] (av fm):=⟨rfl,rfl,rfl,by decide+kernel,rfl,by decide+kernel,by decide+kernel⟩
include T Gc in
theorem sj{f:Addr}{fd:FuncData}(F:iG K "unite" "Groups.unite" fm f fd):a8 P w K mg base (cV P w) true 1 f fd ["self","pair","other"] (tV aI):=by
 refine F.gk cG Y_ (fun bR A outer s H vs Q E hr h hX=>?_)
 ·obtain⟨x,t,u,p,q,S,E1,B,rfl,_⟩:=h;rfl
 ·obtain⟨x,t,u,p,q,S,E1,B,rfl,G,ht,Qs,hp,hq,hB,qq⟩:=h;have hu:=hr.units;have Il:(A.deeper (Ψ "Groups.unite" (av fm) f bR)).units<cLine:=by lia
  have hu:(A.deeper (Ψ "Groups.unite" (av fm) f bR)).units+1<cLine:=by lia
  refine⟨_,(ZR (Zx (3) cG.nd (μ hu Y4 (fun _ _=>rfl))) (ZR (Zx (4) cG.nd (μ hu Y9 (fun _ _=>rfl))) (ZO (Δ (ZQ (Dp K Il) (pv 3) (pv 4)) (ZR (Δ (ZQ jD (ZD (aK K) T.cK (ZA (μ hu (pv 3) (fun _ _=>rfl)))) (ZD (aK K) T.cK (ZA (μ hu (pv 4) (fun _ _=>rfl))))) (ZR (Zx (3) cG.nd (μ hu Y9 (fun _ _=>rfl))) (ZO (Zx (4) cG.nd (μ hu Y4 (fun _ _=>rfl))))) aP) (ZR (Zx (5) cG.nd (@E6 _ _ _ _ _ _ _ hu (ZG K) (pv 4) ⟨rfl,rfl,rfl,rfl⟩)) (ZR (ZI (Θ K (pv 5)) (Zy (6) cG.nd) (ZO (@kJ _ _ _ _ _ _ _ _ _ hu (ZG K) (pv 6) (pv 3) (by exact rfl)))) (ZO (Ε (ZJ K PySem.F.slot_list_extend PySem.F.type_list_extend vO (μ hu (pv 3) (fun _ _=>rfl)) (ZA (pv 5)))))))) aP)))),?_⟩;obtain⟨dg,dl,dm,kl,km,ld,mm,hg,F',D,hE,QB,Mz⟩:=id G;obtain⟨l,JD,_⟩:=(hE p p).mp hp;obtain⟨g,JE,_⟩:=(hE q q).mp hq;obtain⟨tl,vl,zd⟩:∃tl,bE kl (bb p)=some (.ref tl)∧H tl=some (.tup (j_ l)):=by have:=D.lv p;rw[JD]at this;exact this
  obtain⟨tg,vg,MA⟩:∃tg,bE kl (bb q)=some (.ref tg)∧H tg=some (.tup (j_ g)):=by have:=D.lv q;rw[JE]at this;exact this
  refine⟨fun σ H1=>H1=H∧σ=[sR x,sR t,sR u,sR tl,none,none,none],⟨_,rfl,x,aI,dg,_,_,rfl,hg,Gc.cl,Gc.oZ,jG dl dm,_,rfl,dl,_,rfl,by have:=kb.t (k:=bb p) D.hl ht;rw[vl]at this;exact this,rfl,rfl⟩,?_⟩;rintro σ H1 ⟨rfl,rfl⟩;refine⟨fun σ H2=>H2=H1∧σ=[sR x,sR t,sR u,sR tl,sR tg,none,none],⟨_,rfl,x,aI,dg,_,_,rfl,hg,Gc.cl,Gc.oZ,jG dl dm,_,rfl,dl,_,rfl,by have:=kb.t (k:=bb q) D.hl Qs;rw[vg]at this;exact this,rfl,rfl⟩,?_⟩;rintro σ H2 ⟨rfl,rfl⟩;refine⟨_,rfl,_,rfl,tl,tg,_,_,rfl,rfl, .of zd, .of MA,rfl,rfl,_,rfl,?_⟩;rw[BS];by_cases Cd:l=g
  ·rw[decide_eq_true Cd];refine fQ ?_;refine qq _ (.same (.refl _)) (G.iff (fun a b=>?_) (Nat.le_refl _));subst Cd;unfold qJ;rw[hE,hE,hE,hE,hE,JD,JE];constructor
   ·rintro(z|⟨z1,z2⟩)
    ·exact z
    ·have y1:ld a=some l:=by rcases z1 with⟨y,h1,h2⟩|⟨y,h1,h2⟩<;>(cases h2;exact h1)
     have y2:ld b=some l:=by rcases z2 with⟨y,h1,h2⟩|⟨y,h1,h2⟩<;>(cases h2;exact h1)
     exact⟨l,y1,y2⟩
   ·exact .inl
  rw[decide_eq_false Cd];refine jY ?_;obtain⟨m1,Cn⟩:=D.ml p l JD;obtain⟨m2,Gy⟩:=D.ml q g JE;obtain⟨al,fT,OZ,Ce,P1,_⟩:∃a us,bE km (bb l)=some (.ref a)∧H2 a=some (.lst us)∧eF H2 us m1∧S a:=by have:=D.mv l;rw[Cn]at this;exact this
  obtain⟨ag,gT,QD,Im,P2,_⟩:∃a us,bE km (bb g)=some (.ref a)∧H2 a=some (.lst us)∧eF H2 us m2∧S a:=by have:=D.mv g;rw[Gy]at this;exact this
  have gl:∀{tt:Addr}{r:Pr},H2 tt=some (.tup (j_ r))→kb H2 dm (.ref tt) (bE km (bb r)):=fun h=>kb.t (k:=bb _) D.hm h
  have Vq:∀{tt:Addr}{r:Pr},H2 tt=some (.tup (j_ r))→kb H2 dl (.ref tt) (bE kl (bb r)):=fun h=>kb.t (k:=bb _) D.hl h
  refine⟨fun σ H3=>H3=H2∧∃l g tl tg p' q',σ=[sR x,sR t,sR u,sR tl,sR tg,none,none]∧l≠g∧H2 tl=some (.tup (j_ l))∧H2 tg=some (.tup (j_ g))∧ld p'=some l∧ld q'=some g∧∀a b,qJ E1 p q a b↔qJ E1 p' q' a b,?_,?_⟩
  ·refine⟨_,rfl,x,aI,dg,_,_,rfl,hg,Gc.cl,Gc.members,jd dl dm,_,rfl,dm,_,rfl,by have:=gl zd;rw[OZ]at this;exact this,al,_,rfl, .inl (.of Ce),?_⟩;refine⟨_,rfl,x,aI,dg,_,_,rfl,hg,Gc.cl,Gc.members,jd dl dm,_,rfl,dm,_,rfl,by have:=gl MA;rw[QD]at this;exact this,ag,_,rfl, .inl (.of Im),?_⟩;refine⟨_,_,rfl,rfl,_,rfl,?_⟩;refine aX (fun _=>?_) (fun _=>?_)
   ·refine⟨fun σ H3=>H3=H2∧σ=[sR x,sR t,sR u,sR tg,sR tg,none,none],⟨_,rfl,x,aI,dg,_,_,rfl,hg,Gc.cl,Gc.oZ,jG dl dm,_,rfl,dl,_,rfl,by have:=Vq Qs;rw[vg]at this;exact this,rfl,rfl⟩,?_⟩;rintro σ H3 ⟨rfl,rfl⟩;refine⟨_,rfl,x,aI,dg,_,_,rfl,hg,Gc.cl,Gc.oZ,jG dl dm,_,rfl,dl,_,rfl,by have:=Vq ht;rw[vl]at this;exact this,rfl,g,l,tg,tl,q,p,rfl,Zd Cd,MA,zd,JE,JD,fun a b=>Dq⟩
   ·exact⟨rfl,l,g,tl,tg,p,q,rfl,Cd,zd,MA,JD,JE,fun a b=>Iff.rfl⟩
  rintro σ H3 ⟨rfl,l,g,tl,tg,p',q',rfl,Cd,zd,MA,JD,JE,XY⟩;obtain⟨m1,Cn⟩:=D.ml p' l JD;obtain⟨m2,Gy⟩:=D.ml q' g JE;obtain⟨al,fT,OZ,Ce,P1,Vr⟩:∃a us,bE km (bb l)=some (.ref a)∧H3 a=some (.lst us)∧eF H3 us m1∧S a:=by have:=D.mv l;rw[Cn]at this;exact this
  obtain⟨ag,gT,QD,Im,P2,Zg⟩:∃a us,bE km (bb g)=some (.ref a)∧H3 a=some (.lst us)∧eF H3 us m2∧S a:=by have:=D.mv g;rw[Gy]at this;exact this
  have Zh:al≠ag:=fun z=>Cd (D.inj l g al OZ (by rw[QD,z]))
  have l1:=D.zJ (D.ms l m1 Cn).1 (fun r hr=>⟨l,((D.ms l m1 Cn).2 r).mp hr⟩);have l2:=D.zJ (D.ms g m2 Gy).1 (fun r hr=>⟨g,((D.ms g m2 Gy).2 r).mp hr⟩);have nx:x≠dl:=fun z=>F' (by rw[z];exact D.sl)
  have QC:x≠dm:=fun z=>F' (by rw[z];exact D.sm)
  have O0:al≠dl:=fun z=>by rw[z,D.hl]at Ce;cases Ce
  have O1:al≠dm:=fun z=>by rw[z,D.hm]at Ce;cases Ce
  have O2:ag≠dl:=fun z=>by rw[z,D.hl]at Im;cases Im
  have LR:ag≠dm:=fun z=>by rw[z,D.hm]at Im;cases Im
  have A8:=P2.1;refine⟨fun σ H4=>H4=upd H3 dm (.dT (jh km (bb g)))∧σ=[sR x,sR t,sR u,sR tl,sR tg,sR ag,none],?_,?_⟩
  ·exact⟨_,rfl,x,aI,dg,_,_,rfl,hg,Gc.cl,Gc.members,jd dl dm,dm,rfl, .inr ⟨km, .of D.hm⟩,_,rfl,dm,tg,km,bb g,_,rfl,rfl,D.hm,MA,QD,rfl,rfl⟩
  rintro σ H4 ⟨rfl,rfl⟩;refine⟨fun σ H5=>(∃w,σ=[sR x,sR t,sR u,sR tl,sR tg,sR ag,w])∧∃uQ,H5 dl=some (.dT uQ)∧uQ.length≤B∧(∀r,bE uQ (bb r)=if r∈m2 then some (.ref tl)else bE kl (bb r))∧SameBut dl (upd H3 dm (.dT (jh km (bb g)))) H5,?_,?_⟩
  ·refine⟨_,rfl,ag,rfl,⟨_, .of (by rw[ao LR];exact Im)⟩,?_⟩;refine bG (xs:=gT) (fun i σ H5=>(∃w,σ=[sR x,sR t,sR u,sR tl,sR tg,sR ag,w])∧∃uQ,H5 dl=some (.dT uQ)∧uQ.length≤B∧(∀r,bE uQ (bb r)=if r∈m2.take i then some (.ref tl)else bE kl (bb r))∧SameBut dl (upd H3 dm (.dT (jh km (bb g)))) H5) ?_ ?_ ?_ ?_
   ·exact⟨⟨_,rfl⟩,kl,by rw[ao D.ne];exact D.hl,QB,fun r=>XU, .refl⟩
   ·rintro i σ H5 _ ⟨_,uQ,_,_,_,s5⟩;exact .of (s5 _ _ O2 (by rw[ao LR];exact Im))
   ·rintro i v σ H5 hv ⟨⟨w,rfl⟩,uQ,h5,MB,LS,s5⟩;have hi:i<m2.length:=by rw[←A8];exact(ZF hv).1
    have ei:m2[i]?=some m2[i]:=by simp[hi]
    have jm:m2[i]∈m2:=List.getElem_mem hi;generalize m2[i]=r0 at ei jm;obtain⟨tr,k1,k2⟩:=P2.2 i r0 ei;rw[hv]at k1;cases k1;have Vl:tr≠dl:=fun z=>by rw[z,D.hl]at k2;cases k2
    have S8:tr≠dm:=fun z=>by rw[z,D.hm]at k2;cases k2
    have k5:=s5 tr _ Vl (by rw[ao S8];exact k2);have g5:=s5 x _ nx (by rw[ao QC];exact hg);refine⟨_,rfl,_,rfl,x,aI,dg,_,_,rfl,g5,Gc.cl,Gc.oZ,jG dl dm,_,rfl,dl,_,rfl, .t (k:=bb r0) h5 k5 (ba IL),⟨_,rfl⟩,_,ae,?_,fun r=>?_,s5.upd⟩
    ·have oA:bE uQ (bb r0)≠none:=by
      rw[LS];split
      ·simp
      ·have:=D.lv r0;rw[((D.ms g m2 Gy).2 r0).mp jm]at this;obtain⟨t0,z,_⟩:=this;rw[z];simp
     have:(putK uQ (bb r0) (.ref tl)).length=uQ.length:=by
      unfold putK;rw[iu,Z1 (by cases z:bE uQ (bb r0)<;>simp_all),List.length_map]
     lia
    ·rw[ji,LS];have et:m2.take (i+1)=m2.take i++[r0]:=by rw[List.take_succ,ei];rfl
     rw[et];by_cases e:r=r0
     ·rw[Z1 (by rw[e]),Z1 (by simp[e])]
     ·rw[ZY (fun z=>e (dB z))];by_cases e2:r∈m2.take i
      ·rw[Z1 e2,Z1 (by simp[e2])]
      ·rw[ZY e2,ZY (by simp[e,e2])]
   ·rintro σ H5 ⟨⟨w,rfl⟩,uQ,h5,MB,LS,s5⟩;rw[A8,List.take_length]at LS;exact⟨⟨_,rfl⟩,uQ,h5,MB,LS,s5⟩
  rintro σ H5 ⟨⟨w,rfl⟩,uQ,h5,MB,LS,s5⟩;have SY:tl≠dl:=fun z=>by rw[z,D.hl]at zd;cases zd
  have S9:tl≠dm:=fun z=>by rw[z,D.hm]at zd;cases zd
  have g5:=s5 x _ nx (by rw[ao QC];exact hg);have m5:=s5 dm _ (Zd D.ne) ae;have Vs:=s5 al _ O0 (by rw[ao O1];exact Ce);have XZ:=s5 ag _ O2 (by rw[ao LR];exact Im);have X0:=s5 tl _ SY (by rw[ao S9];exact zd);have vd:bE (jh km (bb g)) (bb l)=some (.ref al):=by rw[mG,ZY (fun z=>Cd (dB z))];exact OZ
  refine⟨_,rfl,x,aI,dg,_,_,rfl,g5,Gc.cl,Gc.members,jd dl dm,_,rfl,dm, .ref al,rfl,by have:=kb.t (k:=bb l) m5 X0;rw[vd]at this;exact this, .inl ⟨rfl,_, .of Vs⟩,_,rfl,al,ag,fT,gT,rfl,rfl,Vs,XZ,?_,?_⟩
  ·have:=P1.1;exact aE IL
  have X1:x≠al:=fun z=>F' (by rw[z];exact Vr)
  have JF:∀b o,¬S b→H3 b=some o→upd H5 al (.lst (fT++gT)) b=some o:=fun b o hb eb=>by
   rw[ao (fun z=>hb (by rw[z];exact Vr))];exact s5 b o (fun z=>hb (by rw[z];exact D.sl)) (by rw[ao (fun z=>hb (by rw[z];exact D.sm))];exact eb)
  refine qq _ ⟨fun _ h=> .inl h,JF⟩ ?_;refine⟨dg,dl,dm,uQ,jh km (bb g),_,_,JF x _ F' hg,F',D.OD (tl:=tl) Cd Cn Gy OZ P1 P2 Ce zd LS (by rw[ao (Zd O0)];exact h5) (by rw[ao (Zd O1)];exact m5) ae ?_,fun a b=>(XY a b).trans (LF Cd JD JE (D.ms g m2 Gy).2 hE a b),MB,Nat.le_trans (yE _ _) Mz⟩;intro b o h1 h2 h3 eb;rw[ao h3];exact s5 b o h1 (by rw[ao h2];exact eb)
variable(ju:mg "sorted"=none)
theorem uf:aL ["self"] ["self"] (av hZ):=⟨rfl,rfl,rfl,by decide+kernel,rfl,by decide+kernel,by decide+kernel⟩
include T Gc ju in
theorem ug{f:Addr}{fd:FuncData}(F:iG K "told" "Groups.told" hZ f fd):a8 P w K mg base (cV P w) true 1 f fd ["self"] (xo aI):=by
 refine F.gk uf Y_ (fun bR A outer s H vs Q E hr h hX=>?_)
 ·obtain⟨x,S,E1,B,rfl,_⟩:=h;rfl
 ·obtain⟨x,S,E1,B,rfl,G,hB,q⟩:=h;refine⟨_,(ZO (Z9 (@mD _ _ _ _ _ _ _ _ _ _ _ _ _ _ (by exact rfl) (show bq ["self"] (av hZ) _ ["members"] [] []from⟨rfl,by decide+kernel,by decide+kernel,by decide+kernel,rfl,rfl,by decide+kernel,by decide+kernel,by decide+kernel⟩) (@Hx _ H _ _ _ _ _ (ZG K) (YW) (YW) (YW)) (fun _ _ _ _ _=>(Zy (0) (show(["members"]:List Str).Nodup by decide+kernel))) (fun _ _ _ _ _=>iQ) (fun _ _ _ _ _=>(Z6 (AK K) (by exact rfl) ju PyProof.Rows.Boot.«sorted» (ZA Y0))) (by intro _;rfl)))),?_⟩;obtain⟨dg,dl,dm,kl,km,ld,mm,hg,F',D,hE,QB,Mz⟩:=G;refine⟨_,rfl,x,aI,dg,_,_,rfl,hg,Gc.cl,Gc.members,jd dl dm,dm,km,rfl,D.hm,fun o nf R hR=>?_⟩;have nR:R≠dm:=fun z=>by rw[z,ae]at hR;cases hR
  have S_:H R=none:=by rw[ao nR]at hR;exact hR
  refine Dm (fun k ys bx H'=>(∃u,bx=[u])∧(∃gs,fF H' ys gs∧gs.length=k∧∀(i:Nat) ps,gs[i]?=some ps→∃l ms v,km[i]?=some (bb l,v)∧mm l=some ms∧ps.Perm ms∧ps.Pairwise fun p q=>ki p q=true)∧H' R=some (.lst ys)∧(∀b o,b≠dm→H b=some o→H' b=some o)∧H' dm=some (.sF o (.dT km))∧∀(i:Nat) a,ys[i]?=some (.ref a)→H a=none∧a≠R) ⟨⟨_,rfl⟩,⟨[], .nil,rfl,fun i ps e=>by simp at e⟩,ae,fun b o hb e=>by rw[ao (aF e S_),ao hb];exact e,by rw[ao (Zd nR),ae],fun i a e=>by simp at e⟩ ?_ ?_ ?_
  ·rintro k ys bx H' _ ⟨_,_,_,_,h4,_⟩;exact h4
  ·rintro k ⟨key,v⟩ ys bx H' hk ⟨⟨u,rfl⟩,⟨gs,W1,hl,MD⟩,O3,ME,JC,CM⟩;obtain⟨l,el⟩:=D.key _ (ZS hk);have el:key=bb l:=el;subst el;have vv:=Cc D.Cb hk;have mv:=D.mv l;cases e:mm l with
   |none=>
    rw[e]at mv;have mv:bE km (bb l)=none:=mv;rw[mv]at vv;cases vv
   |some ms=>
    rw[e]at mv;obtain⟨a,us,z1,z2,z3,z4⟩:=mv;rw[vv]at z1;cases z1;obtain⟨nd,DT⟩:=D.ms l ms e;have Td:a≠dm:=fun z=>by rw[z,D.hm]at z2;cases z2
    have T:dW H H':=fun b v hb=>ME b _ (fun z=>by rw[z,D.hm]at hb;cases hb) hb
    refine qu ?_;refine⟨_,rfl,a,us,ms,rfl, .of (ME _ _ Td z2),z3.cF T,nd,by have:=D.zJ nd (fun p hp=>⟨l,(DT p).mp hp⟩);lia,fun D2 Vt qs ku P2 perm pw=>?_⟩;have QE:D2≠R:=fun z=>by rw[z,O3]at ku;cases ku
    have Vu:D2≠dm:=fun z=>by rw[z,JC]at ku;cases ku
    have O4:H D2=none:=by
     cases z:H D2 with
     |none=>rfl
     |some o2=>rw[ME D2 o2 Vu z]at ku;cases ku
    have Vv:=W1.1;have SG:k<km.length:=(ZF hk).1;refine⟨by rw[ao (Zd QE)];exact O3,ba IL,⟨_,rfl⟩,⟨gs++[qs],?_,by simp;lia,fun i ps hi=>?_⟩,ae,fun b o hb eb=>?_,?_,fun i a ha=>?_⟩
    ·have W2:fF (upd H' D2 (.lst Vt)) ys gs:=W1.same (YV ku);have W3:fF (upd H' D2 (.lst Vt)) (ys++[.ref D2]) (gs++[qs]):=W2.append (.one ae (P2.same (YV ku)));refine W3.put (fun i e=>?_) (by rw[ao (Zd QE)];exact O3);by_cases hi:i<ys.length
     ·rw[Ι hi]at e;exact(CM i R e).2 rfl
     ·have:=(ZF e).1;have:i=ys.length:=by simp at this;lia
      subst this;simp at e;exact QE e
    ·by_cases DP:i<gs.length
     ·rw[Ι DP]at hi;exact MD i ps hi
     ·have:=(ZF hi).1;have:i=gs.length:=by simp at this;lia
      subst this;simp at hi;subst hi;exact⟨l,ms,_,by rw[hl];exact hk,e,perm,pw⟩
    ·rw[ao (aF eb S_),ao (aF eb O4)];exact ME b o hb eb
    ·rw[ao (Zd nR),ao (Zd Vu)];exact JC
    ·by_cases hi:i<ys.length
     ·rw[Ι hi]at ha;exact CM i a ha
     ·have:=(ZF ha).1;have:i=ys.length:=by simp at this;lia
      subst this;simp at ha;subst ha;exact⟨O4,QE⟩
  ·rintro ys bx H' ⟨_,⟨gs,W1,hl,MD⟩,O3,ME,JC,CM⟩;refine q _ R ys gs ⟨fun a h=> .inl h,fun b o hb eb=>ME b o (fun z=>hb (by rw[z];exact D.sm)) eb⟩ S_ O3 W1 (fun k a h=>(CM k a h).1) ?_;have at_:∀ps∈gs,∃l ms,mm l=some ms∧ps.Perm ms∧ps.Pairwise (fun p q=>ki p q=true):=fun ps AL=>by
    obtain⟨i,hi⟩:=List.getElem?_of_mem AL;obtain⟨l,ms,v,_,h2,h3,h4⟩:=MD i ps hi;exact⟨l,ms,h2,h3,h4⟩
   refine⟨fun ps AL=>?_,fun ps AL=>?_,fun ps AL a ha b=>?_,fun a ha=>?_,?_⟩
   ·obtain⟨_,_,_,_,h4⟩:=at_ ps AL
    exact h4
   ·obtain⟨l,ms,h2,h3,_⟩:=at_ ps AL
    intro z;subst z;have:l∈ms:=((D.ms l ms h2).2 l).mpr (D.self l ms h2);have:=h3.mem_iff.mpr this;cases this
   ·obtain⟨l,ms,h2,h3,_⟩:=at_ ps AL
    have ha:=((D.ms l ms h2).2 a).mp (h3.mem_iff.mp ha);rw[h3.mem_iff,(D.ms l ms h2).2,hE,ha];exact⟨fun z=>⟨l,rfl,z⟩,fun⟨y,h,z⟩=>by cases h;exact z⟩
   ·obtain⟨l,h1,_⟩:=(hE a a).mp ha;obtain⟨ms,DT⟩:=D.ml a l h1;have mv:=D.mv l;rw[DT]at mv;obtain⟨aa,us,z1,_⟩:=mv;obtain⟨i,hi⟩:=zc z1;have hG:i<gs.length:=by rw[hl];exact(ZF hi).1
    obtain⟨l2,X2,v,h5,h6,h7,_⟩:=MD i gs[i] (by simp[hG]);rw[hi]at h5;have:l=l2:=dB (Prod.mk.inj (Zu h5)).1;subst this;refine⟨gs[i],List.getElem_mem hG,h7.mem_iff.mpr ?_⟩;exact((D.ms l X2 h6).2 a).mpr h1
   ·rw[List.pairwise_iff_getElem];intro i j hi hj uI a ha hb;obtain⟨l1,m1,v1,a1,a2,a3,_⟩:=MD i gs[i] (by simp[hi]);obtain⟨l2,m2,v2,b1,b2,b3,_⟩:=MD j gs[j] (by simp[hj]);have ha:=((D.ms l1 m1 a2).2 a).mp (a3.mem_iff.mp ha);have hb:=((D.ms l2 m2 b2).2 a).mp (b3.mem_iff.mp hb);rw[ha]at hb;cases hb;have nd:=D.Cb;have h1:(km.map (·.1))[i]?=some (bb l1):=by rw[List.getElem?_map,a1];rfl
    have h2:(km.map (·.1))[j]?=some (bb l1):=by rw[List.getElem?_map,b1];rfl
    have:=(List.getElem?_inj (ZF h1).1 nd).mp (h1.trans h2.symm)
    lia
variable(mO:m6 P w K mg base true 1 "Groups" aI ["self"] [] (tU aI))
variable(Hc:Jw K az)
theorem lH:aL ["self","trails","worth"] ["self","trails","worth"] (av fo):=⟨rfl,rfl,rfl,by decide+kernel,rfl,by decide+kernel,by decide+kernel⟩
include T mO Hc in
theorem lI{f:Addr}{fd:FuncData}(F:iG K "__init__" "Gathering.__init__" fo f fd):a8 P w K mg base (cV P w) true 3 f fd ["self","trails","worth"] (qK az aI):=by
 refine F.gk lH Y_ (fun bR A outer s H vs Q E hr h hX=>?_)
 ·obtain⟨x,dx,tr,W,rfl,_⟩:=h;rfl
 ·obtain⟨x,dx,tr,W,rfl,hx,q⟩:=h;refine⟨_,(ZP (Z7 K Y0 (pv 1)) (ZP (Z7 K Y0 (pv 2)) (ZP (Z7 K Y0 (@FC _ _ _ _ _ _ _ _ _ _ _ mO (hr.mono (WD)) hX.pass (YW) (WD))) (ZO (Z7 K Y0 kc))))),?_⟩;refine⟨_,rfl,_,rfl,x,az,dx,_,rfl,hx,Hc.cl,Hc.tX,WD,?_⟩;refine⟨_,rfl,_,rfl,x,az,dx,_,rfl,ae,Hc.cl,Hc.worth,by have:=aW "trails" (.ref tr) [];simp at this;lia,?_⟩;rw[gc];refine fun g dg hg QG eJ=>?_
  have O5:x≠g:=fun z=>by rw[←z,ae]at hg;cases hg
  have Tf:x≠dg:=fun z=>by rw[←z,ae]at QG;cases QG
  have O6:H g=none:=by rw[ao (Zd O5)]at hg;exact hg
  have O7:H dg=none:=by rw[ao (Zd Tf)]at QG;exact QG
  refine⟨g,dg,rfl,ae,fun H1 S1 yo Tg G1=>⟨rfl,?_⟩⟩;have keep:∀b o,b≠x→H b=some o→H1 b=some o:=fun b o hb e=>yo b o (aF e O6) (by rw[ao (aF e O6),ao (aF e O7),ao hb];exact e)
  have kR:H1 x=some (.ins az dx (bu "worth" (.int W) (bu "trails" (.ref tr) []))):=yo x _ O5 (by rw[ao O5,ao Tf];exact ae);have l2:(bu "worth" (.int W) (bu "trails" (.ref tr) [])).length≤2:=by
   have:=aW "trails" (.ref tr) [];have:=aW "worth" (.int W) (bu "trails" (.ref tr) []);simp at*;lia
  refine⟨_,rfl,x,az,dx,_,rfl,kR,Hc.cl,Hc.groups,by lia,?_⟩;refine fun dk QH=>?_
  have MF:x≠dk:=fun z=>by rw[←z,ae]at QH;cases QH
  have Ga:H1 dk=none:=by rw[ao (Zd MF)]at QH;exact QH
  have Th:H dk=none:=by
   cases e:H dk with
   |none=>rfl
   |some o=>rw[keep dk o (Zd MF) e]at Ga;cases Ga
  refine⟨_,rfl,x,az,dx,_,rfl,by rw[ao MF];exact ae,Hc.cl,Hc.marks,by have:=aW "groups" (.ref g) (bu "worth" (.int W) (bu "trails" (.ref tr) []));lia,?_⟩;rw[LJ];have QI:¬S1 x:=fun z=>by
   have:=Tg x z;rw[ao O5,ao Tf,ae]at this;cases this
  have X3:¬S1 g:=fun z=>by
   have:=Tg g z;rw[ae]at this;cases this
  have G2:=G1.nt;have fin:∀b o,b≠x→H1 b=some o→upd (upd (upd H1 x (.ins az dx (bu "groups" (.ref g) (bu "worth" (.int W) (bu "trails" (.ref tr) []))))) dk (.dT [])) x (.ins az dx (j5 tr W g dk)) b=some o:=fun b o hb e=>by
   rw[ao hb,ao (aF e Ga),ao hb];exact e
  have Ti:¬(S1 dk∧NT H1 dk):=fun z=>by
   obtain⟨o,e,_⟩:=z.2;rw[Ga]at e;cases e
  refine q _ (fun a=>(S1 a∧NT H1 a)∨a=dk) (fun b o hb e=>fin b o hb (keep b o hb e)) (fun a ha=>?_) ⟨dx,g,dk,[],fun a=>S1 a∧NT H1 a,ae,G2.keep (fun a o hs e=>fin a o (fun z=>QI (by rw[←z];exact hs.1)) e) (fun b v hb=>fin b _ (fun z=>by rw[z,kR]at hb;cases hb) hb) (fun o e=>fin g o (Zd O5) e),by rw[ao (Zd MF),ae],fun c=>rfl,Nat.le_refl _,fun a=>Iff.rfl,Ti,fun z=>z.elim (fun y=>QI y.1) MF,fun z=>z.elim (fun y=>X3 y.1) (fun y=>?_),fun a ha=>?_⟩
  ·rcases ha with ha|ha
   ·have:=Tg a ha.1;cases e:H a with
    |none=>rfl
    |some o=>rw[ao (aF e O6),ao (aF e O7),ao (fun z=>QI (by rw[←z];exact ha.1)),e]at this;cases this
   ·rw[ha];exact Th
  ·obtain⟨aaG,dl,dm,kl,HQ,ld,mm,og,_⟩:=G1;rw[y,Ga]at og;cases og
  ·rcases ha with⟨h1,o,h2,h3⟩|ha
   ·exact⟨o,fin a o (fun z=>QI (by rw[←z];exact h1)) h2,h3⟩
   ·exact⟨_,by rw[ha,ao (Zd MF),ae],fun v=>(XU)⟩
variable(cR:eM P w K mg base true 1 aI "unite" ["self","pair","other"] (tV aI))
theorem pz:aL ["self","crossing","pair"] ["self","crossing","pair"] (av fD):=⟨rfl,rfl,rfl,by decide+kernel,rfl,by decide+kernel,by decide+kernel⟩
include T Hc cR in
theorem pA{f:Addr}{fd:FuncData}(F:iG K "mark" "Gathering.mark" fD f fd):a8 P w K mg base (cV P w) true 2 f fd ["self","crossing","pair"] (tY az aI):=by
 refine F.gk pz Y_ (fun bR A outer s H vs Q E hr h hX=>?_)
 ·obtain⟨x,tc,tp,tr,W,c,r,S,s1,B,M,rfl,_⟩:=h;rfl
 ·obtain⟨x,tc,tp,tr,W,c,r,S,s1,B,M,rfl,G,hc,hp,LG,h0,hB,hM,q⟩:=h;have hu:=hr.units;have hu:(A.deeper (Ψ "Gathering.mark" (av fD) f bR)).units+1<cLine:=by lia
  refine⟨_,(ZO (Δ (ZN (@qp _ _ _ _ _ hu Y4 (ZG K))) (ZO (Ε (ZM (ZG K) cR aQ (ι (μ hu Y4 (fun _ _=>rfl)))))) (ZO (@kJ _ _ _ _ _ _ _ _ _ hu (ZG K) (pv 1) (pv 2) (by exact rfl))))),?_⟩;obtain⟨dx,g,dk,km,S1,D⟩:=id G;refine⟨_,rfl,_,rfl,x,az,dx,_,_,rfl,D.ob,Hc.cl,Hc.marks,lR tr W g dk,dk,_,rfl, .t (k:=bb c) D.hk hc,_,rfl,?_⟩;have mv:=D.mv c;cases e:s1.2 c with
  |none=>
   rw[e]at mv;have mv:bE km (bb c)=none:=mv;rw[mv];refine fQ ?_;have hl:=D.len;refine⟨_,rfl,_,rfl,x,az,dx,_,_,rfl,D.ob,Hc.cl,Hc.marks,lR tr W g dk,_,rfl,dk,_,rfl, .t (k:=bb c) D.hk hc (ba IL),?_⟩;obtain⟨u,D'⟩:=D.put (c:=c) hp;refine q _ S u ⟨dx,g,dk,putK km (bb c) (.ref tp),S1,?_⟩;unfold ze;rw[e];exact D'
  |some r0=>
   rw[e]at mv;obtain⟨t0,v0,X4⟩:=mv;rw[v0];refine jY ?_;obtain⟨dg,dl,dm,kl,HQ,ld,mm,og,_⟩:=id D.gr;refine⟨_,rfl,x,az,dx,_,_,rfl,D.ob,Hc.cl,Hc.groups,je tr W g dk,g,dg,_,rfl,og,Ca dl dm,_,rfl,x,az,dx,_,_,rfl,D.ob,Hc.cl,Hc.marks,lR tr W g dk,_,rfl,dk,_,rfl,by have:=kb.t (k:=bb c) D.hk hc;rw[v0]at this;exact this,_,rfl,g,t0,tp,r0,r,S1,s1.1,B,rfl,D.gr,X4,hp,h0 r0 e,LG,hB,fun H' u G'=>?_⟩;obtain⟨S',S2,u2,D2⟩:=D.Qt u G';refine q _ S' u2 ⟨dx,g,dk,km,S2,?_⟩;unfold ze;rw[e];exact⟨D2.ob,D2.gr,D2.hk,D2.mv,by have:=D2.len;lia,D2.sS,D2.Cb,D2.nx,D2.ng,D2.nt⟩
variable(cb:eM P w K mg base true 1 aI "take_in" ["self","pair"] (xn aI))
variable(cc:eM P w K mg base true 2 az "mark" ["self","crossing","pair"] (tY az aI))
theorem fu:aL ["self","crossing","pair","later","before"] ["self","crossing","pair"] (av dM):=⟨rfl,rfl,rfl,by decide+kernel,rfl,by decide+kernel,by decide+kernel⟩
include T bg aY Hc cR cb cc in
theorem l5{f:Addr}{fd:FuncData}(F:iG K "go_over" "Gathering.go_over" dM f fd):a8 P w K mg base (cV P w) true 3 f fd ["self","crossing","pair"] (tZ az aI aB):=by
 refine F.gk fu Y_ (fun bR A outer s H vs Q E hr h hX=>?_)
 ·obtain⟨x,tc,tp,tr,dt,e,b,es,bs,f,o,p,n,m,W,i,j,r,S,s1,B,M,H0,rfl,_⟩:=h;rfl
 ·obtain⟨x,tc,tp,tr,dt,e,b,es,bs,f1,o,p,n,m,W,i,j,r,S,s1,B,M,H0,rfl,G,TR,BA,hc,hp,hi,hj,TP,OK,hs,hB,hM,q⟩:=h;have hu:=hr.units;have hu:(A.deeper (Ψ "Gathering.go_over" (av dM) f bR)).units+1<cLine:=by lia
  refine⟨_,(ZR (Zx (3) fu.nd (μ hu Y4 (fun _ _=>rfl))) (ZR (Δ (Z' (ZM (ZG K) bg aQ (ι Y4))) (ZR (Ε (ZM (ZG K) cb aQ (ZA Y9))) (ZO (Ε (ZM (ZG K) cR aQ (Z_ Y9))))) aP) (ZO (ZI (Θ K (ZM (ZG K) aY aQ (ZA Y4))) (Zy (4) fu.nd) (ZO (Ε (ZM Y0 cc aQ (Z_ (pv 4))))))))),?_⟩;obtain⟨dx,g,dk,km,S1,D⟩:=id G;obtain⟨tl,vl,zd⟩:∃tl,bE km (bb (aR (i+1,j+1)))=some (.ref tl)∧H tl=some (.tup (j_ r)):=by have:=D.mv (aR (i+1,j+1));rw[hs]at this;exact this
  obtain⟨Mu,i2,j2,e2,OV⟩:=OK.mr _ _ hs;obtain⟨rfl,rfl⟩:=iS e2;refine⟨fun σ H1=>H1=H∧σ=[sR x,sR tc,sR tp,sR tl,none],⟨_,rfl,x,az,dx,_,_,rfl,D.ob,Hc.cl,Hc.marks,lR tr W g dk,_,rfl,dk,_,rfl,by have:=kb.t (k:=bb (aR (i+1,j+1))) D.hk hc;rw[vl]at this;exact this,rfl,rfl⟩,?_⟩;rintro σ H1 ⟨rfl,rfl⟩;have T1:=TR.keep BA.same;refine⟨fun σ H2=>σ=[sR x,sR tc,sR tp,sR tl,none]∧∃S',oY S H1 S' H2∧iB H2 az aI x tr W S' (Ju f1 o p i j s1 r) (B+1) M,?_,?_⟩
  ·refine⟨_,rfl,x,az,dx,_,_,rfl,D.ob,Hc.cl,Hc.tX,mJ tr W g dk,tr,dt,_,rfl,T1.ob,Jr o p e b,_,rfl,_,rfl,tr,dt,e,b,es,bs,f1,o,p,n,m,tc,tp,i+1,j+1,i,j,rfl,T1,hc,hp,by lia,by lia,hi,hj,_,rfl,?_⟩;unfold Ju;refine aX (fun hh=>?_) (fun hh=>?_)
   ·have hh:=of_decide_eq_true hh;rw[Z1 hh];refine⟨fun σ H2=>σ=[sR x,sR tc,sR tp,sR tl,none]∧∃S',oY S H1 S' H2∧iB H2 az aI x tr W S' (Jt s1.1 (aR (i,j)),s1.2) (B+1) M,?_,?_⟩
    ·obtain⟨dg,dl,dm,kl,HQ,ld,mm,og,_⟩:=id D.gr;refine⟨_,rfl,x,az,dx,_,_,rfl,D.ob,Hc.cl,Hc.groups,je tr W g dk,g,dg,_,rfl,og,FH dl dm,_,rfl,g,tp,aR (i,j),S1,s1.1,B,rfl,D.gr,hp,by lia,fun H' LL u G'=>?_⟩;obtain⟨S',S2,u2,D2⟩:=D.Qt u G';exact⟨rfl,S',u2,dx,g,dk,km,S2,D2⟩
    rintro σ H2 ⟨rfl,S',u2,G2⟩;obtain⟨QJ,g2,QK,HQ,S2,D2⟩:=id G2;have T:=u2.cF G.nt;obtain⟨dg,dl,dm,kl,Zj,ld,mm,og,_⟩:=id D2.gr;refine⟨_,rfl,x,az,QJ,_,_,rfl,D2.ob,Hc.cl,Hc.groups,je tr W g2 QK,g2,dg,_,rfl,og,Ca dl dm,_,rfl,_,rfl,g2,tp,tl,aR (i,j),r,S2,_,B+1,rfl,D2.gr,T _ _ hp,T _ _ zd, .inr ⟨rfl,rfl⟩, .inl Mu,by lia,fun H' u G'=>?_⟩;obtain⟨Qp,S3,u3,D3⟩:=D2.Qt u G';exact⟨rfl,Qp,u2.trans u3,QJ,g2,QK,HQ,S3,D3⟩
   ·have hh:¬dH f1 o p i j=Bq f1 o p (i+1) (j+1):=fun z=>hh (decide_eq_true z)
    rw[ZY hh];exact⟨rfl,S, .same (.refl _),G.cast rfl (by lia) (Nat.le_refl _)⟩
  rintro σ H2 ⟨rfl,S2,u2,G2⟩;obtain⟨X5,Vw,_⟩:=FP TP OK Mu OV;have Co:=BA.ups u2;have T2:=TR.keep Co.same;have TT:=u2.cF G.nt;obtain⟨QJ,g2,QK,HQ,S3,D2⟩:=id G2;refine⟨_,rfl,x,az,QJ,_,_,rfl,D2.ob,Hc.cl,Hc.tX,mJ tr W g2 QK,tr,dt,_,rfl,T2.ob,B9 o p e b,_,rfl,tr,dt,e,b,es,bs,f1,o,p,n,m,tc,i,j,rfl,T2,TT _ _ hc,hi,hj,fun H3 rr us s3 rL xy P3=>?_⟩;refine⟨rr,rfl,⟨_, .of xy⟩,?_⟩;have hlen:(bC f1 o p i j).length≤2:=by
   unfold bC;rw[List.length_append];split<;>split<;>simp
  have X6:=rK TP OV;refine bG (xs:=us) (fun k σ H4=>(∃w,σ=[sR x,sR tc,sR tp,sR tl,w])∧∃S4,oY S H1 S4 H4∧iB H4 az aI x tr W S4 (((bC f1 o p i j).take k).foldl (fun s c=>ze s c r) (Ju f1 o p i j s1 r)) (B+1) (M+k)∧H4 rr=some (.lst us)∧eF H4 us (bC f1 o p i j)∧¬S4 rr∧H4 tl=some (.tup (j_ r))) ?_ ?_ ?_ ?_
  ·have G3:=G2.same s3;refine⟨⟨_,rfl⟩,S2,u2.trans (.same s3),G3.cast Xs (Nat.le_refl _) (Nat.le_refl _),xy,P3,G2.out rL,s3 _ _ (TT _ _ zd)⟩
  ·rintro k σ H4 _ ⟨_,S4,_,_,h4,_⟩;exact .of h4
  ·rintro k v σ H4 hv ⟨⟨w,rfl⟩,S4,u4,G4,h4,P4,n4,t4⟩;have hk:k<(bC f1 o p i j).length:=by rw[←P4.1];exact(ZF hv).1
   have ek:(bC f1 o p i j)[k]?=some (bC f1 o p i j)[k]:=by simp[hk]
   have jm:(bC f1 o p i j)[k]∈bC f1 o p i j:=List.getElem_mem hk;generalize (bC f1 o p i j)[k]=c at ek jm;obtain⟨t,k1,k2⟩:=P4.2 k c ek;rw[hv]at k1;cases k1;obtain⟨X7,X8,_⟩:=tW TP ((bC f1 o p i j).take k) _ X5 (Vw.e _ _ Mu) (fun c hc=>X6 c (List.mem_of_mem_take hc));obtain⟨X9,g4,X_,aaR,S5,D4⟩:=id G4;refine⟨_,rfl,x,X9,_,rfl,D4.ob,Cf tr W g4 X_,_,rfl,_,rfl,x,t,tl,tr,W,c,r,S4,_,B+1,M+k,rfl,G4,k2,t4,X8.e _ _ (Vw.e _ _ Mu),fun r0 h=>(X7.mr _ _ h).1,by lia,by lia,fun H5 S6 u5 G5=>?_⟩;have T5:=u5.cF G4.nt;refine⟨⟨_,rfl⟩,S6,u4.trans u5,G5.cast ?_ Β (by lia),u5.keep rr _ n4 h4,P4.cF T5,u5.out n4 h4,T5 _ _ t4⟩;rw[List.take_succ,ek];simp
  ·rintro σ H4 ⟨⟨w,rfl⟩,S4,u4,G4,h4,P4,n4,t4⟩;refine q _ S4 u4 (G4.cast ?_ Β (by have:=P4.1;lia));rw[P4.1,List.take_length];rfl
variable(iX:eM P w K mg base true 1 aI "has" ["self","pair"] (AU aI))
variable(dN:eM P w K mg base true 3 az "go_over" ["self","crossing","pair"] (tZ az aI aB))
theorem fW:aL ["self","i","j","pair","behind"] ["self","i","j"] (av eV):=⟨rfl,rfl,rfl,by decide+kernel,rfl,by decide+kernel,by decide+kernel⟩
include T Rc b_ Hc cb cc iX dN in
theorem n6{f:Addr}{fd:FuncData}(F:iG K "visit" "Gathering.visit" eV f fd):a8 P w K mg base (cV P w) true 4 f fd ["self","i","j"] (qL az aI aB):=by
 refine F.gk fW Y_ (fun bR A outer s H vs Q E hr h hX=>?_)
 ·obtain⟨x,tr,dt,e,b,es,bs,f,o,p,n,m,W,i,j,S,s1,B,M,H0,rfl,_⟩:=h;rfl
 ·obtain⟨x,tr,dt,e,b,es,bs,f1,o,p,n,m,W,i,j,S,s1,B,M,H0,rfl,G,TR,BA,hi,hj,hn,hm,TP,OK,hB,hM,q⟩:=h;have hu:=hr.units;have hu:(A.deeper (Ψ "Gathering.visit" (av eV) f bR)).units+1<cLine:=by lia
  refine⟨_,(ZR (Zx (3) fW.nd (@e8 _ _ _ _ _ (ι Y4))) (ZR (Zx (4) fW.nd (@e8 _ _ _ _ _ (ZE (ZH bA Y4 af) (ZA (ZH bA Y9 af))))) (ZR (Δ (ZQ jg (ZC (ZC (Z0 K (ZG K)) (pv 1)) (pv 2)) (ZG K)) (ZO (Ε (ZM (ZG K) cb aQ (ZA (pv 3))))) aP) (ZR (Δ (ZN (@qp _ _ _ _ _ hu (pv 4) (ZG K))) (ZO (Ε (ZM Y0 dN aQ (Z_ (pv 4))))) aP) (ZO (Δ (@PW.pt _ _ _ (@pw_and _ _ _ _ _ _ _ (Z' (ZM (ZG K) iX aQ (ZA (pv 3)))) (@pw_and1 _ _ _ _ (Z' (ZM (ZG K) b_ aQ (ZA (pv 3))))))) (ZO (Ε (ZM Y0 cc aQ (Z_ (pv 3))))) aP)))))),?_⟩;refine⟨fun σ H1=>∃t,σ=[sR x,sI i,sI j,sR t,none]∧au H H1∧H1 t=some (.tup (j_ (aR (i,j)))),⟨_,rfl,_,rfl,aE Xs,fun t ht=>⟨t,rfl,YV ht,ae⟩⟩,?_⟩;rintro σ H1 ⟨t,rfl,s2,ht⟩;refine⟨fun σ H2=>∃u,σ=[sR x,sI i,sI j,sR t,sR u]∧au H1 H2∧H2 u=some (.tup (j_ (aR (i+1,j+1)))),⟨_,rfl,_,_,rfl,rfl,_,rfl,_,_,rfl,rfl,aE Xs,fun u hu=>⟨u,rfl,YV hu,ae⟩⟩,?_⟩;rintro σ H2 ⟨u,rfl,s3,Qo⟩;have r_:=s3 _ _ ht;have zk:=s2.trans s3;have G2:=G.same zk;have Co:=BA.more zk;have T2:=TR.keep Co.same;obtain⟨rb,g1,g2,g3⟩:=T2.te.at hi;refine⟨fun σ H3=>σ=[sR x,sI i,sI j,sR t,sR u]∧∃S',oY S H2 S' H3∧iB H3 az aI x tr W S' (HN f1 o p W i j s1) (B+1) M,?_,?_⟩
  ·obtain⟨dx,g,dk,km,S1,D⟩:=id G2;refine⟨_,rfl,x,az,dx,_,_,rfl,D.ob,Hc.cl,Hc.tX,mJ tr W g dk,tr,aB,dt,_,_,rfl,T2.ob,Rc.cl,Rc.kQ,iz o p e b,_,rfl,e,_,_,_,rfl,rfl, .of T2.he,ar g2,_,rfl,rb,_,_,_,rfl,rfl, .of g3,ar (dz hj),_,rfl,x,az,dx,_,_,rfl,D.ob,Hc.cl,Hc.worth,FV tr W g dk,?_⟩;have JB:decide (bB (dH f1 o p i j)=V.int W)=decide (dH f1 o p i j=some W):=by cases dH f1 o p i j<;>simp[bB]
   refine⟨by cases dH f1 o p i j<;>rfl,_,rfl,?_⟩;rw[JB];unfold HN;refine aX (fun hh=>?_) (fun hh=>?_)
   ·have hh:=of_decide_eq_true hh;rw[Z1 hh];obtain⟨dg,dl,dm,kl,HQ,ld,mm,og,_⟩:=id D.gr;refine⟨_,rfl,x,az,dx,_,_,rfl,D.ob,Hc.cl,Hc.groups,je tr W g dk,g,dg,_,rfl,og,FH dl dm,_,rfl,g,t,aR (i,j),S1,s1.1,B,rfl,D.gr,r_,by lia,fun H' LL u G'=>?_⟩;obtain⟨S',S2,u2,D2⟩:=D.Qt u G';exact⟨rfl,S',u2,dx,g,dk,km,S2,D2⟩
   ·have hh:¬dH f1 o p i j=some W:=fun z=>hh (decide_eq_true z)
    rw[ZY hh];exact⟨rfl,S, .same (.refl _),G2.cast rfl (by lia) (Nat.le_refl _)⟩
  rintro σ H3 ⟨rfl,S3,u3,G3⟩;have QL:=u3.cF G2.nt;have Io:=Co.ups u3;obtain⟨X',GW1,_⟩:=FQ OK i j;refine⟨fun σ H4=>σ=[sR x,sI i,sI j,sR t,sR u]∧∃S',oY S3 H3 S' H4∧iB H4 az aI x tr W S' (DU f1 o p W i j s1) (B+2) (M+2),?_,?_⟩
  ·obtain⟨dx,g,dk,km,S1,D⟩:=id G3;refine⟨_,rfl,_,rfl,x,az,dx,_,_,rfl,D.ob,Hc.cl,Hc.marks,lR tr W g dk,dk,_,rfl, .t (k:=bb (aR (i+1,j+1))) D.hk (QL _ _ Qo),_,rfl,?_⟩;have mv:=D.mv (aR (i+1,j+1));have ee:(HN f1 o p W i j s1).2=s1.2:=rfl;rw[ee]at mv;unfold DU;cases e9:s1.2 (aR (i+1,j+1))with
   |none=>
    rw[e9]at mv;have mv:bE km (bb (aR (i+1,j+1)))=none:=mv;rw[mv];refine fQ ?_;exact⟨rfl,S3, .same (.refl _),G3.cast rfl (by lia) (by lia)⟩
   |some r=>
    rw[e9]at mv;obtain⟨tl,vl,zd⟩:=mv;rw[vl];refine jY ?_;exact⟨_,rfl,x,dx,_,rfl,D.ob,HP tr W g dk,_,rfl,_,rfl,x,u,t,tr,dt,e,b,es,bs,f1,o,p,n,m,W,i,j,r,S3,_,B+1,M,H0,rfl,G3,TR,Io,QL _ _ Qo,QL _ _ r_,hi,hj,TP,X',e9,by lia,by lia,fun H' S' u G'=>⟨rfl,S',u,G'⟩⟩
  rintro σ H4 ⟨rfl,S4,u4,G4⟩;have Yb:=u4.cF G3.nt;have Yc:=Io.ups u4;have T4:=TR.keep Yc.same;have QM:=Yb _ _ (QL _ _ r_);obtain⟨Yd,GW2,_⟩:=FR TP OK i j;have uu:oY S H S4 H4:=(oY.same zk).trans (u3.trans u4);obtain⟨dx,g,dk,km,S1,D⟩:=id G4;obtain⟨dg,dl,dm,kl,HQ,ld,mm,og,_⟩:=id D.gr;refine⟨_,rfl,x,az,dx,_,_,rfl,D.ob,Hc.cl,Hc.groups,je tr W g dk,g,dg,_,rfl,og,OB dl dm,_,rfl,g,t,aR (i,j),S1,_,B+2,rfl,D.gr,QM,fun b1 gU=>?_⟩;refine⟨_,rfl,?_⟩;refine aX (fun hh=>?_) (fun hh=>?_)
  ·refine⟨_,rfl,x,az,dx,_,_,rfl,D.ob,Hc.cl,Hc.tX,mJ tr W g dk,tr,dt,_,rfl,T4.ob,FG o p e b,_,rfl,tr,dt,e,b,es,bs,f1,o,p,n,m,t,i,j,rfl,T4,QM,by lia,by lia,_,rfl,?_⟩;refine aX (fun h2=>?_) (fun h2=>?_)
   ·have oA:=gU.mp hh;refine⟨_,rfl,x,dx,_,rfl,D.ob,Cf tr W g dk,_,rfl,_,rfl,x,t,t,tr,W,aR (i,j),aR (i,j),S4,_,B+2,M+2,rfl,G4,QM,QM,oA,fun r0 h=>(Yd.mr _ _ h).1,by lia,by lia,fun H5 S5 u5 G5=>?_⟩;refine q _ S5 (uu.trans u5) ?_;unfold zP;rw[Z1 ⟨oA,h2⟩];exact G5
   ·refine q _ S4 uu (G4.cast ?_ IL (by lia));unfold zP;rw[ZY (fun z=>h2 z.2)]
  ·refine fQ ?_;refine q _ S4 uu (G4.cast ?_ IL (by lia));unfold zP;rw[ZY (fun z=>hh (gU.mpr z.1))]
variable(iY:m6 P w K mg base true 3 "Gathering" az ["self","trails","worth"] [] (qK az aI))
variable(eY:eM P w K mg base true 4 az "visit" ["self","i","j"] (qL az aI aB))
variable(ig:eM P w K mg base true 1 aI "told" ["self"] (xo aI))
theorem gC:aL ["trails","worth","gathering","i","j"] ["trails","worth"] (av j6):=⟨rfl,rfl,rfl,by decide+kernel,rfl,by decide+kernel,by decide+kernel⟩
include T Rc Hc iY eY ig in
theorem uh{f:Addr}{fd:FuncData}(F:jy K "best_groups" "best_groups" j6 f fd):a8 P w K mg base (cV P w) true 5 f fd ["trails","worth"] (AX aB):=by
 refine F.gk gC Y_ (fun bR A outer s H vs Q E hr h hX=>?_)
 ·obtain⟨tr,dt,e,b,es,bs,f,o,p,n,m,W,rfl,_⟩:=h;rfl
 ·obtain⟨tr,dt,e,b,es,bs,f1,o,p,n,m,W,rfl,TR,IT,Vx,hn,hm,TP,q⟩:=h;refine⟨_,(ZR (Zx (2) gC.nd (@sL _ _ _ _ _ _ _ _ _ _ _ _ _ _ iY (hr.mono (WD)) hX.pass (ZE Y0 (ZA Y4)) (YW) (WD) (YW) (YW))) (ZR (ZI (@v7 _ _ _ _ _ _ _ _ (by exact rfl) T.dh (ZE (ZH cx (ZD (aK K) T.cK (ZA (ZG K))) af) (ZE (@lu _ _ _ _ _ _ iF af) (ZA (@lu _ _ _ _ _ _ iF af)))) (YW) (YW)) (Zy (3) gC.nd) (ZO (ZI (@v7 _ _ _ _ _ _ _ _ (by exact rfl) T.dh (ZE (ZH cx (ZD (aK K) T.cK (ZA (ZC (ZG K) (pv 3)))) af) (ZE (@lu _ _ _ _ _ _ iF af) (ZA (@lu _ _ _ _ _ _ iF af)))) (YW) (YW)) (Zy (4) gC.nd) (ZO (Ε (ZM Y9 eY aQ (ZE (pv 3) (ZA (pv 4))))))))) (ZO (Z9 (@CU _ _ _ _ _ _ _ _ _ _ _ _ _ (Z0 K Y9) ig (hr.mono (WD)) aQ (YW)))))),?_⟩;refine⟨fun σ H1=>∃gx S,σ=[sR tr,sI W,sR gx,none,none]∧Base H H1 S∧iB H1 az aI gx tr W S (fun _ _=>False,fun _=>none) 0 0,?_,?_⟩
  ·refine⟨_,rfl,_,rfl,fun y dy hy LQ eJ=>⟨y,dy,tr,W,rfl,ae,fun H' S sb fr G=>⟨rfl,y,S,rfl,⟨SameBut.Ax hy LQ sb,fun a ha=>?_⟩,G⟩⟩⟩;have:=fr a ha;cases e9:H a with
   |none=>rfl
   |some o9=>rw[ao (aF e9 hy),ao (aF e9 LQ),e9]at this;cases this
  rintro σ H1 ⟨gx,S,rfl,BA,G⟩;have Ih:es.length=n:=TR.te.1;have V0:=Vd.start f1 o p W n m;refine⟨fun σ H2=>(∃u v,σ=[sR tr,sI W,sR gx,u,v])∧∃S s B M,Base H H2 S∧iB H2 az aI gx tr W S s B M∧Vd f1 o p W (Vb n m 0 0) s∧B≤6000,?_,?_⟩
  ·have T1:=TR.keep BA.same;refine⟨_,rfl,tr,aB,dt,_,_,rfl,T1.ob,Rc.cl,Rc.kQ,iz o p e b,e,_,rfl, .inl (.of T1.he),_,_,rfl,rfl,_,rfl,_,rfl,_,_,rfl,⟨by rw[List.length_map,Ih];lia,by rw[List.length_map,Ih];lia,WD,WD⟩,?_⟩;have en:((((es.map V.ref).length:Nat):Int)-1- -1).toNat=n:=by rw[List.length_map,Ih];lia
   rw[en];refine y_ (fun k σ H2=>(∃u v,σ=[sR tr,sI W,sR gx,u,v])∧∃S s B M,Base H H2 S∧iB H2 az aI gx tr W S s B M∧Vd f1 o p W (Vb n m (n-k) 0) s∧B≤2*(k*m)∧M≤3*(k*m)) ⟨⟨_,_,rfl⟩,S,_,0,0,BA,G,V0,by lia,by lia⟩ ?_ ?_
   ·rintro k σ H2 hk ⟨⟨u,v,rfl⟩,S2,s2,B,M,Co,G2,V2,hB,hM⟩;have ei:(((es.map V.ref).length:Nat):Int)-1-(k:Int)=((n-1-k:Nat):Int):=by rw[List.length_map,Ih];lia
    rw[ei];have T2:=TR.keep Co.same;obtain⟨rb,g1,g2,g3⟩:=T2.te.at (show n-1-k<n by lia);have V2:Vd f1 o p W (Vb n m (n-1-k) m) s2:=Vd.turn (by rw[show n-1-k+1=n-k by lia];exact V2);have Zl:(k+1)*m≤n*m:=Nat.mul_le_mul_right m IL;have Zm:(k+1)*m=k*m+m:=Nat.succ_mul k m;have lm:∀g:Nat→Option Int,(du m g).length=m:=fun g=>by simp[du]
    refine⟨_,rfl,tr,aB,dt,_,_,rfl,T2.ob,Rc.cl,Rc.kQ,iz o p e b,_,rfl,e,_,_,_,rfl,rfl, .of T2.he,ar g2,rb,_,rfl, .inl (.of g3),_,_,rfl,rfl,_,rfl,_,rfl,_,_,rfl,⟨by rw[lm];lia,by rw[lm];lia,WD,WD⟩,?_⟩;have Ye:((((du m (dH f1 o p (n-1-k))).length:Nat):Int)-1- -1).toNat=m:=by rw[lm];lia
    rw[Ye];refine y_ (fun l σ H3=>(∃v,σ=[sR tr,sI W,sR gx,sI (((n-1-k:Nat):Int)),v])∧∃S s B M,Base H H3 S∧iB H3 az aI gx tr W S s B M∧Vd f1 o p W (Vb n m (n-1-k) (m-l)) s∧B≤2*(k*m+l)∧M≤3*(k*m+l)) ⟨⟨_,rfl⟩,S2,s2,B,M,Co,G2,V2,hB,hM⟩ ?_ ?_
    ·rintro l σ H3 hl ⟨⟨v3,rfl⟩,S3,s3,B3,M3,Io,G3,V3,Yg,Yh⟩;have ej:(((du m (dH f1 o p (n-1-k))).length:Nat):Int)-1-(l:Int)=((m-1-l:Nat):Int):=by rw[lm];lia
     rw[ej];obtain⟨dx,g,dk,km,S1,D⟩:=id G3;have V3:Vd f1 o p W (Vb n m (n-1-k) (m-1-l+1)) s3:=by rw[show m-1-l+1=m-l by lia];exact V3
     refine⟨_,rfl,gx,dx,_,rfl,D.ob,FW tr W g dk,_,rfl,_,rfl,gx,tr,dt,e,b,es,bs,f1,o,p,n,m,W,n-1-k,m-1-l,S3,s3,B3,M3,H,rfl,G3,TR,Io,by lia,by lia,hn,hm,TP,V3.ok,by lia,by lia,fun H4 S4 u4 G4=>?_⟩;refine⟨⟨_,rfl⟩,S4,_,_,_,Io.ups u4,G4,?_,by lia,by lia⟩;have:=V3.next TP (show n-1-k<n by lia) (show m-1-l<m by lia);rw[show m-(l+1)=m-1-l by lia];exact this
    ·rintro σ H3 ⟨⟨v3,rfl⟩,S3,s3,B3,M3,Io,G3,V3,Yg,Yh⟩;refine⟨⟨_,_,rfl⟩,S3,s3,B3,M3,Io,G3,?_,by lia,by lia⟩;rw[show n-(k+1)=n-1-k by lia,show(0:Nat)=m-m by lia];exact V3
   ·rintro σ H2 ⟨⟨u,v,rfl⟩,S2,s2,B,M,Co,G2,V2,hB,hM⟩;rw[Nat.sub_self]at V2;exact⟨⟨_,_,rfl⟩,S2,s2,B,M,Co,G2,V2,by lia⟩
  rintro σ H2 ⟨⟨u,v,rfl⟩,S2,s2,B,M,Co,G2,V2,hB⟩;obtain⟨dx,g,dk,km,S1,D⟩:=id G2;obtain⟨dg,dl,dm,kl,HQ,ld,mm,og,_⟩:=id D.gr;have HG:=fun a b=>V2.SH TP IT a b
  refine⟨_,rfl,gx,az,dx,_,_,rfl,D.ob,Hc.cl,Hc.groups,je tr W g dk,g,dg,_,rfl,og,LC dl dm,g,S1,_,B,rfl,D.gr,by lia,fun H3 r us gs u3 rL xy W3 Md TD=>?_⟩;have Io:Base H H2 S1:=⟨Co.same,fun a h=>Co.free a ((D.sS a).mpr (.inl h))⟩
  exact q _ r us gs (Io.ups u3).same (Co.same.free rL) xy W3 (fun k a h=>Co.same.free (Md k a h)) (TD.iff HG)
theorem n8:aL ["taken","shut","pair"] ["taken"] (av mM):=⟨rfl,rfl,rfl,by decide+kernel,rfl,by decide+kernel,by decide+kernel⟩
include T in
theorem A9{f:Addr}{fd:FuncData}(F:jy K "shut_by" "shut_by" mM f fd):a8 P w K mg base (cV P w) true 1 f fd ["taken"] xc:=by
 refine F.gk n8 Y_ (fun bR A outer s H vs Q E hr h hX=>?_)
 ·obtain⟨v,shut,rfl,_⟩:=h;rfl
 ·obtain⟨v,shut,rfl,TV,hlen,q⟩:=h;have hu:=hr.units;have hu:(A.deeper (Ψ "shut_by" (av mM) f bR)).units+1<cLine:=by lia
  refine⟨_,(ZP (Zx (1) n8.nd kc) (ZR (Δ (ZN (@my _ _ _ _ _ (pv 0))) (ZO (ZI (Θ K Y0) (Zy (2) n8.nd) (ZO (@kJ _ _ _ _ _ _ _ _ _ hu Y4 (pv 2) de Ζ)))) aP) (ZO (Z9 Y4)))),?_⟩;refine fun d hd=>?_
  refine⟨fun σ H1=>(∃u,σ=[some v,sR d,u])∧au H H1∧∃kvs,H1 d=some (.dT kvs)∧m9 kvs shut,?_,?_⟩
  ·refine⟨_,rfl,_,rfl,?_⟩;rcases TV with⟨rfl,rfl⟩|⟨l,us,rfl,hl,P1⟩
   ·refine aX (fun hh=>absurd hh Xs) (fun _=>?_);exact⟨⟨_,rfl⟩,YV hd,[],ae,fun p=>by simp[sZ]⟩
   ·refine aX (fun _=>?_) (fun hh=>absurd Xs hh);have DB:=P1.1;refine⟨_,rfl,l,rfl,⟨_, .of (au.upd hd _ _ hl)⟩,?_⟩;refine bG (xs:=us) (fun i σ H'=>(∃u,σ=[sR l,sR d,u])∧au H H'∧∃kvs,H' d=some (.dT kvs)∧kvs.length≤i∧m9 kvs (shut.take i)) ?_ ?_ ?_ ?_
    ·exact⟨⟨_,rfl⟩,YV hd,[],ae,Nat.le_refl _,fun p=>by simp[sZ]⟩
    ·rintro i σ H' _ ⟨_,s1,_⟩;exact .of (s1 _ _ hl)
    ·rintro i x σ H' hx ⟨⟨u,rfl⟩,s1,kvs,hD,hk,hS⟩;have hi:i<shut.length:=by rw[←DB];exact(ZF hx).1
     obtain⟨t,wc,r_⟩:=P1.Jg hi;rw[hx]at wc;cases wc;refine⟨_,rfl,_,rfl,d,_,rfl, .t (k:=bb (pr shut i)) hD (s1 _ _ r_) (ba IL),⟨_,rfl⟩,s1.eL hd,_,ae,Nat.le_trans (e_ _ _ _) (by lia),fun p=>?_⟩;have e1:shut.take (i+1)=shut.take i++[pr shut i]:=by rw[List.take_succ,Jf hi];rfl
     rw[ji,e1];by_cases hp:p=pr shut i
     ·rw[Z1 (by rw[hp])];simp[hp]
     ·rw[ZY (fun z=>hp ?_),hS p]
      ·simp[hp]
      ·simp only[bb,List.cons.injEq,Sum.inl.injEq,and_true]at z;exact Prod.ext z.1 z.2
    ·rintro σ H' ⟨⟨u,rfl⟩,s1,kvs,hD,_,hS⟩;rw[DB,List.take_length]at hS;exact⟨⟨_,rfl⟩,s1,kvs,hD,hS⟩
  rintro σ H1 ⟨⟨u,rfl⟩,s1,kvs,hD,hS⟩;exact⟨_,rfl,q H1 d kvs s1 hD hS⟩
variable(mP:bJ P w K mg base true 1 "shut_by" ["taken"] xc)
variable(eC:eM P w K mg base true 1 aV "pair_worth" ["self","x","y"] (wZ aV))
theorem dR:aL ["first","second","terms","taken","shut","worths","i","x","row"] ["first","second","terms","taken"] (av fJ):=⟨rfl,rfl,rfl,by decide+kernel,rfl,by decide+kernel,by decide+kernel⟩
include T Tc mP eC in
theorem ui{f:Addr}{fd:FuncData}(F:jy K "open_worths" "open_worths" fJ f fd):a8 P w K mg base (cV P w) true 2 f fd ["first","second","terms","taken"] (t6 aV):=by
 refine F.gk dR Y_ (fun bR A outer s H vs Q E hr h hX=>?_)
 ·obtain⟨f,g,t,v,c,shut,rfl,_⟩:=h;rfl
 ·obtain⟨f1,g,t,v,c,shut,rfl,hf,hg,TF,TV,PV,Sy,Vv,q⟩:=h;have hu:=hr.units;have hu:(A.deeper (Ψ "open_worths" (av fJ) f bR)).units+1<cLine:=by lia
  have lx:(c.xs.map V.str).length=c.xs.length:=List.length_map ..;have ly:(c.ys.map V.str).length=c.ys.length:=List.length_map ..;refine⟨_,(ZR (@aG _ _ (4) _ _ _ _ dR.nd Ζ (Or.inr rfl) (Zz mP aQ (ZA (pv 3))) (YW) (by exact .inl rfl)) (ZR (Zx (5) dR.nd (Η ai)) (ZR (ZI (@oR _ K _ _ _ _ _ _ _ (by exact rfl) T.jE (ZA Y0) (YW) (YW)) (θ K (2) (by exact rfl) (Ν (@aJ _ _ (6) _ dR.nd Ζ (Or.inr rfl) (by first|exact .inl rfl|exact .inr rfl|assumption)) (Ν (@aJ _ _ (7) _ dR.nd Ζ (Or.inr rfl) (by first|exact .inl rfl|exact .inr rfl|assumption)) gf))) (ZR (@kL _ _ _ _ _ _ _ _ _ _ _ _ _ _ _ (8) _ _ (by exact rfl) dR.nd Ζ (by exact rfl) (show bq ["first","second","terms","taken","shut","worths","i","x","row"] (av fJ) _ ["j","y"] [6,4,2,7] ["i","shut","terms","x"]from⟨rfl,by decide+kernel,by decide+kernel,by decide+kernel,rfl,rfl,by decide+kernel,by decide+kernel,by decide+kernel⟩) (@oR _ K _ _ _ _ _ _ _ (by exact rfl) T.jE (ZA Y4) (YW) (YW)) (fun _ _ _ _ _=>(θ K (2) (by exact rfl) (Ν (Zy (0) (show(["j","y","i","shut","terms","x"]:List Str).Nodup by decide+kernel)) (Ν (Zy (1) (show(["j","y","i","shut","terms","x"]:List Str).Nodup by decide+kernel)) gf)))) (fun _ _ _ _ _=>iQ) (fun _ _ _ _ _=>(@oF _ _ _ _ _ _ _ _ (ZN (@qp _ _ _ _ _ hu (@e8 _ _ _ _ _ (ZE Y9 (ZA Y0))) (pv 3))) jW (ZM (pv 4) eC aQ (ZE (pv 5) (ZA Y4))))) (YW) (by intro _;rfl)) (ZO (Ε (ZJ K PySem.F.slot_list_append PySem.F.type_list_append bL (pv 5) (ZA (pv 8))))))) (ZO (Z9 (pv 5)))))),?_⟩;refine⟨fun σ H1=>∃d kvs,σ=[sR f1,sR g,sR t,some v,sR d,none,none,none,none]∧au H H1∧H1 d=some (.dT kvs)∧m9 kvs shut,?_,?_⟩
  ·exact⟨_,rfl,v,shut,rfl,TV,PV,fun H1 d kvs s1 hd hS=>⟨d,kvs,rfl,s1,hd,hS⟩⟩
  rintro σ H1 ⟨d,kvs,rfl,s1,Yi,hS⟩;refine⟨fun σ H2=>∃e,σ=[sR f1,sR g,sR t,some v,sR d,sR e,none,none,none]∧au H1 H2∧H1 e=none∧H2 e=some (.lst []),?_,?_⟩
  ·exact⟨aE Xs,fun e he=>⟨e,rfl,YV he,he,ae⟩⟩
  rintro σ H2 ⟨e,rfl,s2,Jy,Mw⟩;refine⟨fun σ H3=>(∃u1 u2 u3,σ=[sR f1,sR g,sR t,some v,sR d,sR e,u1,u2,u3])∧au H1 H3∧∃as:List Addr,H3 e=some (.lst (as.map V.ref))∧jl H3 as (jc c shut) c.xs.length c.ys.length∧(∀a∈as,H1 a=none∧a≠e)∧as.Nodup,?_,?_⟩
  ·refine⟨_,rfl,f1,rfl,⟨_, .of (s2 _ _ (s1 _ _ hf))⟩,?_⟩;refine yM (xs:=c.xs.map V.str) (fun i σ H'=>(∃u1 u2 u3,σ=[sR f1,sR g,sR t,some v,sR d,sR e,u1,u2,u3])∧au H1 H'∧∃as:List Addr,H' e=some (.lst (as.map V.ref))∧jl H' as (jc c shut) i c.ys.length∧(∀a∈as,H1 a=none∧a≠e)∧as.Nodup) ?_ ?_ ?_ ?_
   ·exact⟨⟨_,_,_,rfl⟩,s2,[],Mw,⟨rfl,fun i a h=>by simp at h⟩,(fun a h=>by cases h), .nil⟩
   ·rintro i σ H' _ ⟨_,s3,_⟩;exact .of (s3 _ _ (s1 _ _ hf))
   ·rintro i x T' σ H' hx ⟨⟨u1,u2,u3,rfl⟩,s3,as,Gx,TA,hn,Gu⟩ hT;obtain⟨wx,QN,rfl⟩:=mF hx;have hi:i<c.xs.length:=(ZF QN).1;have s4:au H1 (upd H' T' (.tup [.int i, .str wx])):=s3.trans (YV hT);have QO:=au.upd (o:= .tup [.int i, .str wx]) hT _ _ Gx;have QP:=TA.same (au.upd (o:= .tup [.int i, .str wx]) hT);refine⟨T',_,rfl, .of ae,rfl,_,_,rfl,_,_,rfl,rfl,?_⟩;generalize upd H' T' (.tup [.int i, .str wx])=H4 at s4 QO QP;clear TA Gx s3 hT;refine⟨fun σ H5=>∃r,σ=[sR f1,sR g,sR t,some v,sR d,sR e,sI i,sS wx,sR r]∧au H4 H5∧H4 r=none∧H5 r=some (.lst (du c.ys.length (jc c shut i))),?_,?_⟩
    ·have Vy:=s4 _ _ (s1 _ _ hg);refine⟨_,rfl,g,rfl,⟨_, .of Vy⟩,fun D hD=>?_⟩;refine vW (xs:=c.ys.map V.str) (fun j ys bx H5=>(∃w1 w2,bx=[w1,w2,sI i,sR d,sR t,sS wx])∧ys=du j (jc c shut i)∧H5 D=some (.lst ys)∧au H4 H5) ⟨⟨_,_,rfl⟩,rfl,ae,YV hD⟩ ?_ ?_ ?_
     ·rintro j ys bx H5 _ ⟨_,_,_,s5⟩;exact .of (s5 _ _ Vy)
     ·rintro j y T2 ys bx H5 hy ⟨⟨w1,w2,rfl⟩,rfl,uK,s5⟩ OT;obtain⟨wy,DY,rfl⟩:=mF hy;have hj:j<c.ys.length:=(ZF DY).1;have s6:au H4 (upd H5 T2 (.tup [.int j, .str wy])):=s5.trans (YV OT);have O8:=au.upd (o:= .tup [.int j, .str wy]) OT _ _ uK;refine⟨T2,_,rfl, .of ae,rfl,_,_,rfl,_,_,rfl,rfl,?_⟩;generalize upd H5 T2 (.tup [.int j, .str wy])=H6 at s6 O8;refine wQ ?_;refine⟨_,rfl,_,rfl,aE Xs,fun p hp=>?_⟩;have s7:=s6.trans (au.upd (o:= .tup [.int (i:Int), .int (j:Int)]) hp);have sA:=s4.trans s7;have MI:=au.upd (o:= .tup [.int (i:Int), .int (j:Int)]) hp _ _ O8;have len:(du j (jc c shut i)).length<sizeLine:=ba (by rw[dw];lia);have sn:∀u,u=jc c shut i j→du j (jc c shut i)++[bB u]=du (j+1) (jc c shut i):=fun u e=>by rw[qB,e]
      have Tj:c.pw ((i:Int),(j:Int))=dj c.same c.fs wx wy:=Case.pw_of (by rw[tK];exact QN) (by rw[tK];exact DY);refine⟨_,rfl,d,_,rfl, .t (k:=bb ((i:Int),(j:Int))) (sA _ _ Yi) ae,_,rfl,?_⟩;rw[hS];refine aX (fun h1=>?_) (fun h1=>?_)
      ·have h1:((i:Int),(j:Int))∈shut:=by simpa using h1
       refine⟨MI,len,⟨_,_,rfl⟩,?_,ae,s7.eL hD⟩;exact sn none (by simp[jc,oB,h1])
      ·have h1:((i:Int),(j:Int))∉shut:=by simpa using h1
       obtain⟨n,dx,l,dd,vs,T1,e1,e2,e3,e4⟩:=(TF.keep s1).keep sA;refine⟨_,rfl,t,dx,_,rfl,T1.ob,wX n l dd,_,rfl,_,rfl,t,wx,wy,n,c.fs,dx,l,dd,vs,rfl,T1,fun H8 s8=>?_⟩;refine⟨s8 _ _ MI,len,⟨_,_,rfl⟩,?_,ae,(s7.trans s8).eL hD⟩;exact sn _ (by simp[jc,oB,h1,Tj,e1])
     ·rintro ys bx H5 ⟨_,rfl,uK,s5⟩;rw[ly]at uK;exact⟨D,rfl,s5,hD,uK⟩
    rintro σ H5 ⟨r,rfl,s5,rL,Tn⟩;have Vz:r≠e:=Zd (aF QO rL);have hlen:=QP.len;refine⟨_,rfl, .inl ⟨rfl,_, .of (s5 _ _ QO)⟩,_,rfl,e,_,_,rfl,rfl,s5 _ _ QO,ba (by rw[List.length_map];lia),⟨_,_,_,rfl⟩,(s4.trans s5).eL Jy,as++[r],by rw[ae];simp,⟨by simp[hlen],fun k a hk=>?_⟩,fun a ha=>?_,List.nodup_append.mpr ⟨Gu,XU,fun x hx y hy e9=>?_⟩⟩
    ·by_cases h:k<i
     ·rw[Ι IL]at hk;rw[ao (hn a (ZS hk)).2];exact s5 _ _ (QP.row k a hk)
     ·rw[Ο IL]at hk;have zM:k-as.length=0:=by
       have:=(ZF hk).1;simp at this
       lia
      rw[zM]at hk;have:r=a:=by simpa using hk
      subst this;rw[ao Vz];have:k=i:=by lia
      rw[this];exact Tn
    ·rcases List.mem_append.mp ha with ha|ha
     ·exact hn a ha
     ·have:a=r:=by simpa using ha
      rw[this];exact⟨s4.free rL,Vz⟩
    ·have hy:y=r:=by simpa using hy
     obtain⟨k,hk,ek⟩:=List.mem_iff_getElem.mp hx;have:=QP.row k x (by rw[Χ hk,ek]);rw[e9,hy,rL]at this;cases this
   ·rintro σ H' ⟨⟨u1,u2,u3,rfl⟩,s3,as,Gx,TA,hn,Gu⟩;rw[lx]at TA;exact⟨⟨_,_,_,rfl⟩,s3,as,Gx,TA,hn,Gu⟩
  rintro σ H3 ⟨⟨u1,u2,u3,rfl⟩,s3,as,Gx,TA,hn,Gu⟩;exact⟨_,rfl,q H3 e as (s1.trans s3) Gx (s1.free Jy) TA Gu (fun z=>(hn e z).2 rfl) fun a ha=>s1.free (hn a ha).1⟩
variable(mQ:m6 P w K mg base true 4 "Trails" aB ["self","worths","terms"] [] (qI aB aV))
variable(ij:bJ P w K mg base true 5 "best_groups" ["trails","worth"] (AX aB))
variable(gD:bJ P w K mg base true 6 "make_finding" ["trails","worth","pairs"] (AS aB ay))
theorem j8:aL ["worths","terms","trails","worth"] ["worths","terms"] (av gy):=⟨rfl,rfl,rfl,by decide+kernel,rfl,by decide+kernel,by decide+kernel⟩
include T Tc ft Rc mQ ij gD in
theorem uX{f:Addr}{fd:FuncData}(F:jy K "make_round" "make_round" gy f fd):a8 P w K mg base (cV P w) true 7 f fd ["worths","terms"] (o_ aV ay):=by
 refine F.gk j8 Y_ (fun bR A outer s H vs Q E hr h hX=>?_)
 ·obtain⟨w,t,as,c,f,n,m,rfl,_⟩:=h;rfl
 ·obtain⟨w,t,as,c,f1,n,m,rfl,hw,TA,TF,IT,Vx,hn,hm,q0,q1⟩:=h;refine⟨_,(ZR (@aG _ _ (2) _ _ _ _ j8.nd Ζ (Or.inr rfl) (@sL _ _ _ _ _ _ _ _ _ _ _ _ _ _ mQ (hr.mono (WD)) hX.pass (ZE Y0 (ZA Y4)) (YW) (WD) (YW) (YW)) (YW) (by exact .inl rfl)) (ZR (@aG _ _ (3) _ _ _ _ j8.nd Ζ (Or.inr rfl) (Zz ft aQ (ZA (@mD _ _ _ _ _ _ _ _ _ _ _ _ _ _ (by exact rfl) (show bq ["worths","terms","trails","worth"] (av gy) _ ["row"] [] []from⟨rfl,by decide+kernel,by decide+kernel,by decide+kernel,rfl,rfl,by decide+kernel,by decide+kernel,by decide+kernel⟩) (Θ K (Z0 K Y9)) (fun _ _ _ _ _=>(Zy (0) (show(["row"]:List Str).Nodup by decide+kernel))) (fun _ _ _ _ _=>iQ) (fun _ _ _ _ _=>(Zz ft aQ (ZA Y0))) (by intro _;rfl)))) (YW) (by exact .inl rfl)) (ZR (Δ (@PW.pt _ _ _ (Ω (ZN (@lK _ _ _ _ _ (pv 3))) (@pw_or1 _ _ _ _ (ZQ jD (pv 3) (Z0 K Y4))))) (ZO (Z9 (Η ai))) aP) (ZO (Z9 (@mD _ _ _ _ _ _ _ _ _ _ _ _ _ _ (by exact rfl) (show bq ["worths","terms","trails","worth"] (av gy) _ ["pairs"] [2,3] ["trails","worth"]from⟨rfl,by decide+kernel,by decide+kernel,by decide+kernel,rfl,rfl,by decide+kernel,by decide+kernel,by decide+kernel⟩) (Θ K (Zz ij aQ (Z_ Y9))) (fun _ _ _ _ _=>(Zy (0) (show(["pairs","trails","worth"]:List Str).Nodup by decide+kernel))) (fun _ _ _ _ _=>iQ) (fun _ _ _ _ _=>(Zz gD aQ (ZE Y4 (ZE Y9 (ZA Y0))))) (by intro _;rfl))))))),?_⟩;refine⟨fun σ H1=>∃x dx e b es,σ=[sR w,sR t,sR x,none]∧au H H1∧H1 x=some (.ins aB dx (gR c.out c.into e b))∧H1 e=some (.lst (es.map V.ref))∧jl H1 es (dH f1 c.out c.into) n m∧(0<n→∃bs,qH H1 aB x dx e b es bs f1 c.out c.into n m),?_,?_⟩
  ·refine⟨_,rfl,_,rfl,fun x dx hx EW eJ=>?_⟩;have s5:au H (upd (upd H dx (.own x)) x (.ins aB dx [])):=(YV EW).eL hx;refine⟨x,dx,w,t,c,as,f1,n,m,rfl,ae,by rw[ao eJ];exact ae,s5 _ _ hw,TA.same s5,TF.keep s5,hn,hm,fun H6 e b sb VA Te Tb=>?_⟩;obtain⟨es,he,_,TE,_⟩:=Te;refine⟨rfl,x,dx,e,b,es,rfl,SameBut.Ax hx EW sb,VA,he,TE,fun h=>?_⟩;obtain⟨bs,hb,_,Yj,_⟩:=Tb h;exact⟨bs,VA,he,TE,hb,Yj⟩
  rintro σ H1 ⟨x,dx,e,b,es,rfl,s1,kR,A7,TE,Yk⟩;have Ih:es.length=n:=TE.len;refine⟨fun σ H2=>σ=[sR w,sR t,sR x,some (bB (HU f1 c.out c.into n m))]∧au H1 H2,?_,?_⟩
  ·refine⟨_,rfl,x,aB,dx,_,_,rfl,kR,Rc.cl,Rc.kQ,iz c.out c.into e b,e,rfl,⟨_, .of A7⟩,fun D hD=>?_⟩;refine fZ (xs:=es.map V.ref) (fun k ys bx H'=>(∃u,bx=[u])∧ys=((Zv k).map fun i=>bB (oS ((Zv m).map (dH f1 c.out c.into i))))∧H' D=some (.lst ys)∧au H1 H') ⟨⟨_,rfl⟩,rfl,ae,YV hD⟩ ?_ ?_ ?_
   ·rintro k ys bx H' _ ⟨_,_,_,s2⟩;exact .of (s2 _ _ A7)
   ·rintro k v ys bx H' hv ⟨⟨u,rfl⟩,rfl,sf,s2⟩;have hk:k<n:=by rw[←Ih];have:=(ZF hv).1;simpa using this
    obtain⟨rb,g1,g2,g3⟩:=TE.at hk;rw[hv]at g2;cases g2;refine qu ?_;refine⟨_,rfl,rb,(Zv m).map (dH f1 c.out c.into k),rfl,?_,by simpa using hm,fun Qq s3=>?_⟩
    ·rw[s2 _ _ g3,List.map_map];rfl
    ·refine⟨s3 _ _ sf,ba Ξ,⟨_,rfl⟩,?_,ae,(s2.trans s3).eL hD⟩;rw[List.range_succ,List.map_append];rfl
   ·rintro ys bx H' ⟨_,rfl,sf,s2⟩;rw[List.length_map,Ih]at sf;refine⟨D,(Zv n).map fun i=>oS ((Zv m).map (dH f1 c.out c.into i)),rfl,by rw[sf,List.map_map];rfl,by simpa using hn,fun Qq s3=>⟨rfl,s2.trans s3⟩⟩
  rintro σ H2 ⟨rfl,s2⟩;have JG:=s1.trans s2;obtain⟨nu,dt,l,d,vs,TM,z1,z2,z3,z4⟩:=TF.keep JG;have MX:=FZ IT c.out c.into;refine⟨fun σ H3=>∃W,HU f1 c.out c.into n m=some W∧c.least≤W∧σ=[sR w,sR t,sR x,sI W]∧H3=H2,?_,?_⟩
  ·refine⟨_,rfl,_,rfl,?_⟩;cases eT:HU f1 c.out c.into n m with
   |none=>
    rw[eT]at MX;refine jY ?_;refine jY ?_;exact⟨aE Xs,fun r rL=>q0 (fun ps hp=>Y7 ⟨ps,hp,rfl⟩ (MX _)) _ r (JG.trans (YV rL)) (JG.free rL) ae⟩
   |some W=>
    rw[eT]at MX;refine aX (fun hh=>Y7 hh (by simp[bB])) (fun _=>?_);refine⟨_,rfl,_,rfl,t,aV,dt,_,_,rfl,TM.ob,Tc.cl,Tc.least,Hf nu l d,_,_,rfl,rfl,_,rfl,?_⟩;refine aX (fun hh=>?_) (fun hh=>?_)
    ·have hh:W<nu.least:=by simpa using hh
     rw[z4]at hh;exact⟨aE Xs,fun r rL=>q0 (fun ps hp=>by have:=MX.2 _ ⟨ps,hp,rfl⟩;lia) _ r (JG.trans (YV rL)) (JG.free rL) ae⟩
    ·have hh:¬W<nu.least:=by simpa using hh
     rw[z4]at hh;exact⟨W,rfl,by lia,rfl,rfl⟩
  rintro σ H2 ⟨W,eT,hle,rfl,rfl⟩;rw[eT]at MX;obtain⟨VB,w0,VC⟩:=MX.1;have TP:fg f1 c.out c.into W:=fun ps hp=>MX.2 _ ⟨ps,hp,rfl⟩
  have SV:0<n:=by
   obtain⟨i,j,_,hi,_⟩:=j4 IT w0 (dA w0.ne)
   lia
  obtain⟨bs,TR⟩:=Yk SV;have VD:=TR.keep s2;refine⟨_,rfl,_,rfl,x,dx,e,b,es,bs,f1,c.out,c.into,n,m,W,rfl,VD,IT,Vx,hn,hm,TP,fun H3 r us gs s3 rL xy W3 Md TD=>?_⟩;have Iq:∀g∈gs,∀a∈g,∃i j:Nat,a=aR (i,j)∧i<n∧j<m:=fun g hg a ha=>by
   obtain⟨ps,wp,hm⟩:=(TD.mem hg ha).on;exact j4 IT wp.1 hm
  have rB:∀g∈gs,g.length≤n*m:=fun g hg=>by
   have:=len_sub g (uS n m) ((TD.tQ g hg).imp fun{a b} h e=>by
    rw[e]at h;unfold ki at h;simp at h) fun a ha=>by
    obtain⟨i,j,rfl,hi,hj⟩:=Iq g hg a ha;exact o7 hi hj
   rw[o6]at this;exact this
  have CL:=TD.zJ Iq;have To:gs≠[]:=fun z=>by
   obtain⟨i,j,h1,_⟩:=j4 IT w0 (dA w0.ne);obtain⟨g,hg,_⟩:=TD.all _ (gQ.way VB ⟨w0,VC.symm⟩ (dA w0.ne) (dA w0.ne));rw[z]at hg;cases hg
  have hW:=W3.1;refine⟨r,rfl,⟨_, .of xy⟩,fun D hD=>?_⟩;refine fZ (xs:=us) (fun k ys bx H'=>(∃u,bx=[u,sR x,sI W])∧H' D=some (.lst ys)∧au H3 H'∧∃ds,bU (fun b=>H2 b=none∧b≠D) H' ay ys ds∧ds.map Fd.pairs=gs.take k∧∀d∈ds,OH f1 c.out c.into W d) ⟨⟨_,rfl⟩,ae,YV hD,[], .nil,rfl,fun d h=>(by cases h)⟩ ?_ ?_ ?_
  ·rintro k ys bx H' _ ⟨_,_,s4,_⟩;exact .of (s4 _ _ xy)
  ·rintro k v ys bx H' hv ⟨⟨u,rfl⟩,JH,s4,ds,F4,O9,bX⟩;have hk:k<gs.length:=by rw[←hW];exact(ZF hv).1
   have ek:gs[k]?=some gs[k]:=by simp[hk]
   have jm:gs[k]∈gs:=List.getElem_mem hk;generalize gs[k]=g at ek jm;obtain⟨pa,VE,k1,k2,k3⟩:=W3.2 k g ek;rw[hv]at k1;cases k1;have Tp:=Md k pa hv;have O_:pa≠D:=fun z=>by rw[z,hD]at k2;cases k2
   obtain⟨gn,Pa⟩:∃gn:List (Nat×Nat),g=gn.map aR:=by
    refine⟨g.map fun a=>(a.1.toNat,a.2.toNat),?_⟩;rw[List.map_map]
    conv=>lhs;rw[←List.map_id g]
    apply List.map_congr_left;intro a ha;obtain⟨i,j,rfl,_⟩:=Iq g jm a ha;simp[aR]
   obtain⟨i0,j0,z5,z6,z7,z8⟩:∃i j:Nat,dH f1 c.out c.into i j=some W∧i<n∧j<m∧aR (i,j)∈g:=by
    obtain⟨a,ha⟩:=List.exists_mem_of_ne_nil _ (TD.ne g jm);obtain⟨i,j,h1,h2,h3,h4⟩:=Ds TP IT (TD.mem jm ha);exact⟨i,j,h1,h2,h3,(TD.cls g jm a ha _).mpr h4⟩
   have Tq:gn.filter (fun q=>decide (dH f1 c.out c.into q.1 q.2=some W))≠[]:=fun z=>by
    rw[Pa]at z8;obtain⟨q9,Yl,e9⟩:=List.mem_map.mp z8;obtain⟨Ym,Yn⟩:=iS (a:=q9.1) (b:=q9.2) e9;have:q9∈gn.filter (fun q=>decide (dH f1 c.out c.into q.1 q.2=some W)):=List.mem_filter.mpr ⟨Yl,by rw[Ym,Yn];simpa using z5⟩;rw[z]at this;cases this
   obtain⟨uj,Ij⟩:∃q0,(gn.filter fun q=>decide (dH f1 c.out c.into q.1 q.2=some W))[0]?=some q0:=by
    cases e9:gn.filter (fun q=>decide (dH f1 c.out c.into q.1 q.2=some W))with
    |nil=>exact Y7 e9 Tq
    |cons a r=>exact⟨a,rfl⟩
   have Pb:=List.mem_filter.mp (ZS Ij);have Tr:dH f1 c.out c.into uj.1 uj.2=some W:=by simpa using Pb.2
   have Yo:=VD.keep (s3.trans s4);refine qu ?_;refine⟨_,rfl,_,rfl,_,rfl,x,dx,e,b,es,bs,f1,c.out,c.into,n,m,W,pa,VE,gn,uj,rfl,Yo,s4 _ _ k2,by rw[←Pa];exact k3.same s4,fun q hq=>?_,Ij,hn,?_,fun H5 y dy wy rw gT s5 hy LQ DY Ts Yp Yq Tt P5 Tn=>?_⟩
   ·have:aR q∈g:=by rw[Pa];exact List.mem_map.mpr ⟨q,hq,rfl⟩
    obtain⟨i,j,h1,h2,h3⟩:=Iq g jm _ this;obtain⟨h4,h5⟩:=iS (a:=q.1) (b:=q.2) h1
    lia
   ·have:=rB g jm;rw[Pa,List.length_map]at this
    lia
   ·obtain⟨v1,v2,v3,v4⟩:=HS f1 c.out c.into uj.1 uj.1 uj.2 W Β Tr;have Zn:=F4.1;have Yr:ds.length=k:=by
     have:=congrArg List.length O9;rw[List.length_map,List.length_take]at this
     lia
    have nD:∀{z},H' z=none→z≠D:=fun h z=>by rw[z,JH]at h;cases h
    have Tu:au H2 H':=s3.trans s4;refine⟨s5 _ _ JH,ba IL,⟨_,rfl⟩,ae,(s4.trans s5).eL hD,ds++[⟨W,(eP f1 c.out c.into uj.1 uj.1 uj.2).map aR,zR (lf f1) c.out c.into ((eP f1 c.out c.into uj.1 uj.1 uj.2).map aR),g⟩],?_,?_,fun d hd=>?_⟩
    ·refine bU.append (F4.keep (fun b o hb e=>by rw[ao hb.2];exact s5 _ _ e) (fun a v e=>by rw[ao (fun z=>by rw[z,JH]at e;cases e)];exact s5 _ _ e) fun _ h=>h) ⟨rfl,fun k9 d9 e9=>?_⟩;have Ys:k9=0:=by
      have:=(ZF e9).1;simp at this
      lia
     subst Ys;have e9:=(Zu e9).symm;subst e9;have T5:dW H5 (upd H5 D (.lst (ys++[.ref y]))):=dW.lst (s5 _ _ JH);refine⟨y,dy,wy,rw,pa,gT,VE,rfl,⟨by rw[ao (nD hy)];exact Yp,by rw[ao (nD DY)];exact Tt,P5.cF T5,?_,by rw[ao O_];exact s5 _ _ (s4 _ _ k2),((k3.same s4).same s5).cF T5,⟨Tu.free hy,nD hy⟩,⟨Tu.free DY,nD DY⟩,⟨Tu.free Ts,nD Ts⟩,⟨Tp,O_⟩⟩⟩;rw[ao (nD Ts),Tn]
     congr 2
     have:=congrArg (List.map bB) v4;rw[List.map_map,List.map_map]at this;exact this
    ·rw[List.map_append,O9,List.take_succ,ek];rfl
    ·rcases List.mem_append.mp hd with hd|hd
     ·exact bX d hd
     ·have:d=⟨W,(eP f1 c.out c.into uj.1 uj.1 uj.2).map aR,zR (lf f1) c.out c.into ((eP f1 c.out c.into uj.1 uj.1 uj.2).map aR),g⟩:=by simpa using hd
      subst this;refine⟨rfl,⟨v1,v3⟩,rfl,fun q hq=>?_⟩;have O6:aR uj∈g:=by rw[Pa];exact List.mem_map.mpr ⟨_,Pb.1,rfl⟩
      have v2:lstP ((eP f1 c.out c.into uj.1 uj.1 uj.2).map aR)=aR uj:=v2;exact(TD.cls g jm _ O6 q).mpr (.way _ ⟨v1,v3⟩ (by rw[←v2];exact dA v1.ne) hq)
  ·rintro ys bx H' ⟨_,JH,s4,ds,F4,O9,bX⟩;rw[hW,List.take_length]at O9;have sA:=JG.trans (s3.trans s4);exact q1 W gs ds ⟨TP,⟨VB,w0,VC.symm⟩,hle,TD,O9,bX⟩ To _ D ys sA ((JG.trans s3).free hD) JH (F4.keep (fun _ _ _ h=>h) (fun _ _ h=>h) fun b hb=>JG.free hb.1)
theorem ik:aL ["worths","findings","finding","i","j"] ["worths","findings"] (av kX):=⟨rfl,rfl,rfl,by decide+kernel,rfl,by decide+kernel,by decide+kernel⟩
include T Fc in
theorem uY{f:Addr}{fd:FuncData}(F:jy K "shut_pairs" "shut_pairs" kX f fd):a8 P w K mg base (cV P w) true 1 f fd ["worths","findings"] (t8 ay):=by
 refine F.gk ik Y_ (fun bR A outer s H vs Q E hr h hX=>?_)
 ·obtain⟨w,md,as,us,ds,f,n,m,rfl,_⟩:=h;rfl
 ·obtain⟨w,md,as,us,ds,f1,n,m,rfl,hw,Ou,nw,TA,VF,Yt,FL,oA,q⟩:=h;refine⟨_,(ZO (ZI (Θ K Y4) (Zy (2) ik.nd) (ZO (ZI (Θ K (Z0 K Y9)) (θ K (2) (by exact rfl) (Ν (Zy (3) ik.nd) (Ν (Zy (4) ik.nd) gf))) (ZO (@zX _ _ _ _ _ _ jW (@J7 _ _ _ _ _ _ _ (ZC Y0 (pv 3)) (pv 4) set_list (by intro _;rfl)) (YW) (YW) (YW))))))),?_⟩;have rows:∀a∈as,∃xs,H a=some (.lst xs):=fun a ha=>by
   obtain⟨k,hk,ek⟩:=List.mem_iff_getElem.mp ha;exact⟨_,TA.row k a (by rw[Χ hk,ek])⟩
  have cF:∀H',(∀b o,b∉as→H b=some o→H' b=some o)→dW H H':=fun H' k t v e=>k t _ (fun z=>by
   obtain⟨xs,h⟩:=rows t z;rw[e]at h;cases h) e
  have hlen:=FL.1;refine⟨_,rfl,md,rfl,⟨_, .of VF⟩,?_⟩;refine bG (xs:=us) (fun k σ H1=>(∃u1 u2 u3,σ=[sR w,sR md,u1,u2,u3])∧(∀b o,b∉as→H b=some o→H1 b=some o)∧jl H1 as (lB f1 ((ds.take k).map Fd.pairs).flatten) n m) ⟨⟨_,_,_,rfl⟩,fun _ _ _ h=>h,TA⟩ ?_ ?_ ?_
  ·rintro k σ H1 _ ⟨_,k1,_⟩;exact .of (k1 _ _ Yt VF)
  ·rintro k v σ H1 hv ⟨⟨u1,u2,u3,rfl⟩,k1,T1⟩;have hk:k<ds.length:=by rw[←hlen];exact(ZF hv).1
   have ek:ds[k]?=some ds[k]:=by simp[hk]
   have jm:ds[k]∈ds:=List.getElem_mem hk;generalize ds[k]=d at ek jm;obtain⟨a,dy,wy,f9,pr,fT,gT,e1,F⟩:=FL.2 k d ek;rw[hv]at e1;cases e1;have uO:=F.pp.1;have et:((ds.take (k+1)).map Fd.pairs).flatten=((ds.take k).map Fd.pairs).flatten++d.pairs:=by
    rw[List.take_succ,ek,List.map_append,List.flatten_append];simp
   refine⟨_,rfl,a,ay,dy,_,_,rfl,k1 _ _ F.fa F.ob,Fc.cl,Fc.pairs,kn d.worth wy f9 pr,pr,rfl,⟨_, .of (k1 _ _ F.fp F.hp)⟩,?_⟩;refine bG (xs:=gT) (fun l σ H2=>(∃u2 u3,σ=[sR w,sR md,sR a,u2,u3])∧(∀b o,b∉as→H b=some o→H2 b=some o)∧jl H2 as (lB f1 (((ds.take k).map Fd.pairs).flatten++d.pairs.take l)) n m) ⟨⟨_,_,rfl⟩,k1,by simpa using T1⟩ ?_ ?_ ?_
   ·rintro l σ H2 _ ⟨_,k2,_⟩;exact .of (k2 _ _ F.fp F.hp)
   ·rintro l v σ H2 LU ⟨⟨v2,v3,rfl⟩,k2,T2⟩;have hl:l<d.pairs.length:=by rw[←uO];exact(ZF LU).1
    have el:d.pairs[l]?=some d.pairs[l]:=by simp[hl]
    have hq:=oA d jm d.pairs[l] (List.getElem_mem hl);generalize d.pairs[l]=g at el hq;obtain⟨i,j,rfl,hi,hj⟩:=hq;obtain⟨t,g1,g2⟩:=F.pp.2 l _ el;rw[LU]at g1;cases g1;have kt:=cF H2 k2 _ _ g2;refine⟨t,_,rfl, .of kt,rfl,_,_,rfl,_,_,rfl,rfl,?_⟩;obtain⟨ra,r1,r2,r3⟩:=T2.at hi;have Qz:ra∈as:=ZS r1;refine⟨_,rfl,_,rfl,w,_,_,_,rfl,rfl, .of (k2 _ _ nw hw),ar r2,_,rfl,ra,_,_,j,rfl,rfl,r3,Hi (by rw[dw];exact hj),⟨_,_,rfl⟩,fun b o hb e=>?_,⟨T2.len,fun x b hb=>?_⟩⟩
    ·rw[ao (fun z=>hb (by rw[z];exact Qz))];exact k2 b o hb e
    ·have VG:d.pairs.take (l+1)=d.pairs.take l++[aR (i,j)]:=by rw[List.take_succ,el];rfl
     by_cases e:b=ra
     ·have ex:x=i:=by
       obtain⟨h1,e1⟩:=ZF hb;obtain⟨h2,e2⟩:=ZF r1;exact(List.getElem_inj Ou).mp (by rw[e1,e2,e])
      subst ex e;rw[ae];show some (HO.lst ((du m _).set j (bB none)))=_;rw[E5]
      congr 2
      unfold du;apply List.map_congr_left;intro y _;unfold lB;rw[VG,←List.append_assoc]
      congr 1
      dsimp only;by_cases ey:y=j
      ·subst ey;rw[if_pos rfl,if_pos Xs]
      ·rw[ZY ey];have:¬aR (x,y)=aR (x,j):=fun z=>ey (iS z).2
       simp[this]
     ·rw[ao e,T2.row x b hb]
      congr 2
      unfold du;apply List.map_congr_left;intro y _;unfold lB;rw[VG,←List.append_assoc];have:¬aR (x,y)=aR (i,j):=fun z=>by
       have hk:=(iS z).1;subst hk;rw[r1]at hb;exact e (Zu hb).symm
      simp[this]
   ·rintro σ H2 ⟨⟨v2,v3,rfl⟩,k2,T2⟩;rw[uO,List.take_length]at T2;exact⟨⟨_,_,_,rfl⟩,k2,by rw[et];exact T2⟩
  ·rintro σ H1 ⟨_,k1,T1⟩;rw[hlen,List.take_length]at T1;exact q H1 k1 (cF H1 k1) T1
variable(eG:Ec mg "FINDINGS_MOST" (.int 20))
variable(il:bJ P w K mg base true 2 "open_worths" ["first","second","terms","taken"] (t6 aV))
variable(gE:bJ P w K mg base true 7 "make_round" ["worths","terms"] (o_ aV ay))
variable(iZ:bJ P w K mg base true 1 "shut_pairs" ["worths","findings"] (t8 ay))
variable(lh:bJ P w K mg base true 1 "order_of" ["finding"] (tT ay))
variable(kC:Er K mg "TooMany" kq)
theorem jv:aL ["first","second","terms","worths","findings","made"] ["first","second","terms"] (av qQ):=⟨rfl,rfl,rfl,by decide+kernel,rfl,by decide+kernel,by decide+kernel⟩
include T ju eG il gE iZ lh kC in
theorem A_{f:Addr}{fd:FuncData}(F:jy K "compare" "compare" qQ f fd):a8 P w K mg base (cV P w) true 8 f fd ["first","second","terms"] (xt aV ay kq):=by
 refine F.gk jv Y_ (fun bR A outer s H vs Q E hr h hX=>?_)
 ·obtain⟨a,b,t,c,rfl,_⟩:=h;rfl
 ·obtain⟨a,b,t,c,rfl,ha,hb,TF,hx,hy,q1,q2⟩:=h;refine⟨_,(ZR (Zx (3) jv.nd (Zz il aQ (ZE Y0 (ZE Y4 (ZE Y9 (ZA jW)))))) (ZR (Zx (4) jv.nd (Η ai)) (ZR (Zx (5) jv.nd (Zz gE aQ (ι (pv 3)))) (ZR (@sX _ _ _ _ _ _ hX.own (ZQ lz (ZD (aK K) T.cK (ZA (pv 5))) af) (ZR (Ε (ZJ K PySem.F.slot_list_extend PySem.F.type_list_extend vO (pv 4) (ZA (pv 5)))) (ZR (Δ (ZQ lz (ZD (aK K) T.cK (ZA (pv 4))) (ξ eG)) (ZO (τ hX Ζ (by exact rfl) kC.m kC.e (ZA (@mC _ _ _ _ _ _ (@fA _ _ _ _ _ dZ (@fA _ _ _ _ _ (@qt _ _ _ _ (ξ eG)) (@fA _ _ _ _ _ dZ wL))))))) aP) (ZR (Ε (Zz iZ aQ (ZE (pv 3) (ZA (pv 5))))) (ZO (Zx (5) jv.nd (Zz gE aQ (ι (pv 3))))))))) (ZO (Z9 (@FA _ K _ _ _ _ _ _ _ _ _ _ _ lh (hr.mono (WD)) (pv 4) (by exact rfl) ju (YW) (WD) (YW) (YW)))))))),?_⟩;have AG:c.xs.length*c.ys.length≤3000:=Nat.le_trans (Nat.mul_le_mul hx hy) (WD);have Tv:=KY c [];refine⟨fun σ H1=>∃w as,σ=[sR a,sR b,sR t,sR w,none,none]∧au H H1∧H1 w=some (.lst (as.map V.ref))∧jl H1 as (jc c []) c.xs.length c.ys.length∧as.Nodup∧w∉as∧∀a∈as,H a=none,?_,?_⟩
  ·exact⟨_,rfl,_,rfl,_,rfl,a,b,t, .cS,c,[],rfl,ha,hb,TF, .inl ⟨rfl,rfl⟩,XU,by lia,by lia,fun H1 w as s1 h1 _ h3 h4 h5 h6=>⟨w,as,rfl,s1,h1,h3,h4,h5,h6⟩⟩
  rintro σ H1 ⟨w,as,rfl,s1,sg,Tw,Ou,nw,has⟩;refine⟨fun σ H2=>∃fl,σ=[sR a,sR b,sR t,sR w,sR fl,none]∧au H1 H2∧H1 fl=none∧H2 fl=some (.lst []),⟨aE Xs,fun fl h=>⟨fl,rfl,YV h,h,ae⟩⟩,?_⟩;rintro σ H2 ⟨fl,rfl,s2,LV,Pc⟩;have alloc:∀x∈as,∃xs,H1 x=some (.lst xs):=fun x hx=>by
   obtain⟨k,hk,ek⟩:=List.mem_iff_getElem.mp hx;exact⟨_,Tw.row k x (by rw[Χ hk,ek])⟩
  have VH:fl∉as:=fun z=>by
   obtain⟨xs,h⟩:=alloc fl z;rw[LV]at h;cases h
  have Ir:w≠fl:=aF sg LV;have rd:∀f H3,(∀x∈as,∃xs,H3 x=some (.lst xs))→H3 w=some (.lst (as.map V.ref))→jl H3 as f c.xs.length c.ys.length→au H H3→∀done,Reach (jc c []) c.out c.into c.least done f→∀(Q':VK)(E':XK),(∀H4 r,au H3 H4→H3 r=none→∀us ds,H4 r=some (.lst us)→bU (fun b=>H3 b=none) H4 ay us ds→((us=[]∧ds=[]∧Stop f c.out c.into c.least)∨(us≠[]∧∃W gs,mK f c.out c.into c.least W gs ds))→Q' (.ref r) H4)→o_ aV ay [.ref w, .ref t] H3 Q' E':=fun f H3 al h3 T3 s3 done RC Q' E' k=>by
   refine⟨w,t,as,c,f,_,_,rfl,h3,T3,TF.keep s3,RC.SI Tv,AG,by lia,by lia,fun st H4 r s4 h4 h5=>k H4 r s4 h4 [] [] h5 .nil (.inl ⟨rfl,rfl,st⟩),fun W gs ds R To H4 r us s4 h4 h5 FL=>k H4 r s4 h4 us ds h5 FL (.inr ⟨fun z=>To ?_,W,gs,R⟩)⟩;have:=FL.1;rw[z]at this;have:ds=[]:=List.length_eq_zero_iff.mp (by simpa using this.symm);rw[←R.HR,this];rfl
  have VI:∀b o,b∉as→b≠fl→H1 b=some o→H2 b=some o:=fun b o _ _ e=>s2 b o e
  have MJ:=s1.trans s2;refine⟨fun σ H3=>∃md us ds,σ=[sR a,sR b,sR t,sR w,sR fl,sR md]∧au H2 H3∧H2 md=none∧H3 md=some (.lst us)∧bU (fun b=>H2 b=none) H3 ay us ds∧((us=[]∧ds=[]∧Stop (jc c []) c.out c.into c.least)∨(us≠[]∧∃W gs,mK (jc c []) c.out c.into c.least W gs ds)),?_,?_⟩
  ·exact⟨_,rfl,_,rfl,rd _ H2 (fun x hx=>let ⟨xs,h⟩:=alloc x hx;⟨xs,s2 _ _ h⟩) (s2 _ _ sg) (Tw.same s2) MJ [] .start _ _ fun H4 r s4 h4 us ds h5 FL z=>⟨r,us,ds,rfl,s4,h4,h5,FL,z⟩⟩
  rintro σ H3 ⟨md,us,ds,rfl,s3,Iu,Tx,Yu,Z3⟩;refine⟨fun σ H5=>∃md ul es f,σ=[sR a,sR b,sR t,sR w,sR fl,sR md]∧au H H5∧H5 fl=some (.lst ul)∧bU (fun b=>H2 b=none) H5 ay ul es∧Reach (jc c []) c.out c.into c.least es f∧Stop f c.out c.into c.least∧es.length≤20,?_,?_⟩
  ·refine⟨fun mm σ H4=>∃md us ds ul es f,mm+es.length=20∧σ=[sR a,sR b,sR t,sR w,sR fl,sR md]∧au H H4∧(∀b o,b∉as→b≠fl→H2 b=some o→H4 b=some o)∧jl H4 as f c.xs.length c.ys.length∧H4 fl=some (.lst ul)∧bU (fun b=>H2 b=none) H4 ay ul es∧Reach (jc c []) c.out c.into c.least es f∧H2 md=none∧H4 md=some (.lst us)∧bU (fun b=>H2 b=none) H4 ay us ds∧((us=[]∧ds=[]∧Stop f c.out c.into c.least)∨(us≠[]∧∃W gs,mK f c.out c.into c.least W gs ds)),⟨20,md,us,ds,[],[],jc c [],rfl,rfl,MJ.trans s3,fun b o _ _ e=>s3 b o e,(Tw.same s2).same s3,s3 _ _ Pc, .nil, .start,Iu,Tx,Yu,Z3⟩,?_⟩;rintro mm σ H4 ⟨md,us,ds,ul,es,f1,Zo,rfl,sH,k4,T4,Iv,FE,RC,Iu,LW,FD,Z4⟩;have Yv:∀x∈as,∃xs,H2 x=some (.lst xs):=fun x hx=>let ⟨xs,h⟩:=alloc x hx;⟨xs,s2 _ _ h⟩
   have P2:∀{b},H2 b=none→b∉as:=fun{b} h z=>by
    obtain⟨xs,h'⟩:=Yv b z;rw[h]at h';cases h'
   have Tz:∀{b},H2 b=none→b≠fl:=fun{b} h z=>by rw[z,Pc]at h;cases h
   have QR:=FE.1;have Zp:=FD.1;refine⟨_,rfl,md,_,rfl, .inl (.of LW),_,_,rfl,rfl,_,rfl,?_⟩;refine aX (fun hh=>?_) (fun hh=>?_)
   ·have hh:0<us.length:=by simpa using hh
    rcases Z4 with⟨z1,_,_⟩|⟨VJ,W,gs,R⟩
    ·rw[z1]at hh;simp at hh
    have OX:ds.length≤c.xs.length*c.ys.length:=by
     have:=R.told.zJ (n:=c.xs.length) (m:=c.ys.length) fun g hg q hq=>by
      obtain⟨ps,wp,hm⟩:=(R.told.mem hg hq).on;exact j4 (RC.SI Tv) wp.1 hm
     rw[←R.HR,List.length_map]at this;exact this
    refine⟨_,fun bx H' z=>z,?_⟩;have Yw:md≠fl:=Tz Iu;refine⟨fun σ H5=>σ=[sR a,sR b,sR t,sR w,sR fl,sR md]∧H5=upd H4 fl (.lst (ul++us)),⟨_,rfl, .inl ⟨rfl,_, .of Iv⟩,_,rfl,fl,md,ul,us,rfl,rfl,Iv,LW,aE IL,rfl,rfl⟩,?_⟩;rintro σ H5 ⟨rfl,rfl⟩;have VL:au H (upd H4 fl (.lst (ul++us))):=sH.eL (s1.free LV);have VM:dW H4 (upd H4 fl (.lst (ul++us))):=dW.lst Iv;have Yx:bU (fun b=>H2 b=none) (upd H4 fl (.lst (ul++us))) ay ul es:=FE.keep (fun b o hb e=>by rw[ao (Tz hb)];exact e) VM fun _ h=>h
    have VN:bU (fun b=>H2 b=none) (upd H4 fl (.lst (ul++us))) ay us ds:=FD.keep (fun b o hb e=>by rw[ao (Tz hb)];exact e) VM fun _ h=>h
    have TC:=RC.round R;refine⟨fun σ H6=>σ=[sR a,sR b,sR t,sR w,sR fl,sR md]∧H6=upd H4 fl (.lst (ul++us))∧(es++ds).length≤20,?_,?_⟩
    ·refine⟨_,rfl,fl,_,rfl, .inl (.of ae),_,_,rfl,rfl,_,rfl,?_⟩;refine aX (fun h9=>?_) (fun h9=>?_)
     ·have h9:20<(ul++us).length:=by
       have:(20:Int)<((ul++us).length:Nat):=by simpa using h9
       lia
      have:=q2 _ _ TC (by rw[List.length_append]at h9⊢;lia) _ VL;have z:(20:Int).natAbs.log2<1920∧(Str.ofString (toString (20:Int))).length≤6:=⟨WD,by decide+kernel⟩
      have w1:(Str.ofString "there are at most ").length=18:=by decide+kernel
      have w2:(Str.ofString " findings between two books").length=27:=by decide+kernel
      have w3:=mE;refine⟨_,rfl,aE ?_, .inr ⟨20,rfl,z.1,_,rfl,aE ?_,_,rfl,aE ?_,aE ?_,iy,this⟩⟩;all_goals (simp only[len_app];lia)
     ·have h9:¬20<(ul++us).length:=by
       have:¬(20:Int)<((ul++us).length:Nat):=by simpa using h9
       lia
      exact⟨rfl,rfl,by rw[List.length_append]at h9⊢;lia⟩
    rintro σ H6 ⟨rfl,rfl,hle⟩;refine⟨fun σ H7=>σ=[sR a,sR b,sR t,sR w,sR fl,sR md]∧(∀b o,b∉as→upd H4 fl (.lst (ul++us)) b=some o→H7 b=some o)∧dW (upd H4 fl (.lst (ul++us))) H7∧jl H7 as (lB f1 gs.flatten) c.xs.length c.ys.length,?_,?_⟩
    ·refine⟨_,rfl,_,rfl,w,md,as,us,ds,f1,_,_,rfl,by rw[ao Ir];exact k4 _ _ nw Ir (s2 _ _ sg),Ou,nw,⟨T4.len,fun i x hx=>by rw[ao (fun z=>VH (by rw[←z];exact ZS hx))];exact T4.row i x hx⟩,by rw[ao Yw];exact LW,P2 Iu,VN.keep (fun _ _ _ h=>h) (fun _ _ h=>h) (fun _ h=>P2 h),fun d hd q hq=>?_,fun H7 k7 t7 T7=>⟨rfl,k7,t7,by rw[←R.HR];exact T7⟩⟩;have hg:d.pairs∈gs:=by rw[←R.HR];exact List.mem_map.mpr ⟨d,hd,rfl⟩
     obtain⟨ps,wp,hm⟩:=(R.told.mem hg hq).on;exact j4 (RC.SI Tv) wp.1 hm
    rintro σ H7 ⟨rfl,k7,t7,T7⟩;have VO:au H H7:=fun b o e=>k7 b o (fun z=>by rw[has b z]at e;cases e) (VL b o e)
    have VP:∀x∈as,∃xs,H7 x=some (.lst xs):=fun x hx=>by
     obtain⟨k,hk,ek⟩:=List.mem_iff_getElem.mp hx;exact⟨_,T7.row k x (by rw[Χ hk,ek])⟩
    have w7:H7 w=some (.lst (as.map V.ref)):=k7 w _ nw (by rw[ao Ir];exact k4 _ _ nw Ir (s2 _ _ sg));have F7:bU (fun b=>H2 b=none) H7 ay (ul++us) (es++ds):=(Yx.append VN).keep (fun b o hb e=>k7 b o (P2 hb) e) t7 fun _ h=>h
    have VQ:H7 fl=some (.lst (ul++us)):=k7 fl _ VH ae;refine⟨_,rfl,_,rfl,rd _ H7 VP w7 T7 VO _ TC _ _ fun H8 r s8 h8 Yy Yz YA YB Z8=>?_⟩;have VR:∀b,H7 b=none→H2 b=none:=fun b h=>by
     cases e:H2 b with
     |none=>rfl
     |some o=>
      by_cases TK:b∈as
      ·obtain⟨xs,h'⟩:=VP b TK;rw[h]at h';cases h'
      ·by_cases TL:b=fl
       ·rw[TL,VQ]at h;cases h
       ·rw[k7 b o TK (by rw[ao TL];exact k4 b o TK TL e)]at h;cases h
    refine⟨20-(es++ds).length,?_,r,Yy,Yz,ul++us,es++ds,_,by lia,rfl,VO.trans s8,fun b o h1 h2 e=>s8 b o (k7 b o h1 (by rw[ao h2];exact k4 b o h1 h2 e)),T7.same s8,s8 _ _ VQ,F7.keep (fun b o _ e=>s8 b o e) (dW.same s8) fun _ h=>h,TC,VR r h8,YA,YB.keep (fun _ _ _ h=>h) (fun _ _ h=>h) fun b h=>VR b h,Z8⟩;rw[List.length_append]at hle⊢
    lia
   ·have hh:us.length=0:=by
     have:¬(0:Int)<(us.length:Nat):=by simpa using hh
     lia
    rcases Z4 with⟨_,_,z3⟩|⟨VJ,_⟩
    ·exact⟨md,ul,es,f1,rfl,sH,Iv,FE,RC,z3,by lia⟩
    ·exact Y7 (List.length_eq_zero_iff.mp hh) VJ
  rintro σ H5 ⟨md,ul,es,f1,rfl,sH,TN,FE,RC,ST,hle⟩;have QR:=FE.1;have AP:=RC.apart;have Pd:∀d∈es,jZ d.pairs∈d.pairs:=fun d hd=>by
   cases e:d.pairs with
   |nil=>exact Y7 e (AP.tQ d hd).2
   |cons a r=>simp[jZ]
  refine⟨_,rfl,fl,ul,es.map (fun d=>(-d.worth,jZ d.pairs)),rfl, .of TN,by rw[List.length_map];lia,?_,by lia,fun i v H6 hv s6=>?_,fun p H6 D hp hs s6 hD O8=>?_⟩
  ·refine List.pairwise_map.mpr (List.Pairwise.imp_of_mem (fun{x y} hx hy AG e=>?_) AP.ap);have:=(Prod.mk.inj e).2;exact AG _ (Pd x hx) (by rw[this];exact Pd y hy)
  ·have hi:i<es.length:=by rw[←QR];exact(ZF hv).1
   have ei:es[i]?=some es[i]:=by simp[hi]
   have jm:es[i]∈es:=List.getElem_mem hi;have eg:(es.map fun d=>(-d.worth,jZ d.pairs)).getD i (0,(0,0))=(-es[i].worth,jZ es[i].pairs):=by simp[hi]
   rw[eg];generalize es[i]=d at ei jm;obtain⟨x,dy,wy,f9,pr,fT,gT,e1,F⟩:=FE.2 i d ei;rw[hv]at e1;cases e1;exact⟨x,dy,wy,f9,pr,d.worth,gT,d.pairs,rfl,s6 _ _ F.ob,s6 _ _ F.hp,F.pp.same s6,(AP.tQ d jm).2,fun H7 k t s7 hk ht=>⟨s7,k,t,rfl,hk,ht⟩⟩
  ·have rB:p.toList.Perm (Zv es.length):=by rw[←QR];exact hp
   have LX:∀i∈p.toList,i<es.length:=fun i hi=>by simpa using rB.mem_iff.mp hi
   have dflt:Fd:=⟨0,[],[],[]⟩
   refine q1 (p.toList.map fun i=>es.getD i dflt) ⟨⟨es,f1,RC,ST,?_⟩,?_,?_⟩ _ D _ ((sH.trans s6).eL (sH.free hD)) (sH.free hD) ae ?_
   ·have e1:(Zv es.length).map (fun i=>es.getD i dflt)=es:=by
     apply List.ext_getElem
     ·simp
     ·intro i h1 h2;simp[h2]
    have:=rB.map fun i=>es.getD i dflt
    rw[e1]at this;exact this
   ·rw[List.length_map,rB.length_eq,List.length_range];exact hle
   ·rw[List.pairwise_map,List.pairwise_iff_getElem];intro i j hi hj uI;have hsz:p.size=es.length:=by have:=rB.length_eq;simpa using this
    have:=hs i j uI (by rw[QR,←hsz];simpa using hj);have g1:gd p i=p.toList[i]:=by rw[E8];simp at hi;simp[hi]
    have g2:gd p j=p.toList[j]:=by rw[E8];simp at hj;simp[hj]
    rw[g1,g2]at this;have l1:=LX _ (List.getElem_mem hi);have l2:=LX _ (List.getElem_mem hj);generalize p.toList[i]=x at this l1;generalize p.toList[j]=y at this l2;unfold kl zO at this;unfold OI;simp only[List.getD_eq_getElem?_getD,List.getElem?_map,Χ l1,Χ l2,Option.map_some,Option.getD_some]at this⊢;by_cases ew:es[x].worth=es[y].worth
    ·rw[Z1 ew];rw[Z1 (by rw[ew])]at this;exact this
    ·rw[ZY ew];rw[ZY (fun z=>ew IL)]at this;simp at this⊢
     lia
   ·refine⟨XU,fun k d hk=>?_⟩;rw[List.getElem?_map]at hk;cases e:p.toList[k]? with
    |none=>rw[e]at hk;cases hk
    |some i=>
     rw[e]at hk;have hi:=LX i (ZS e);have hd:es.getD i dflt=d:=by simpa using hk
     have ei:es[i]?=some d:=by rw[←hd];simp[hi]
     obtain⟨x,dy,wy,f9,pr,fT,gT,e1,F⟩:=FE.2 i d ei;have nD:∀{b o},H5 b=some o→b≠D:=fun h z=>by rw[z,hD]at h;cases h
     refine⟨x,dy,wy,f9,pr,fT,gT,?_,F.ob|>fun h=>⟨by rw[ao (nD h)];exact s6 _ _ h,by rw[ao (nD F.hw)];exact s6 _ _ F.hw,(F.pw.same s6).same (YV O8),by rw[ao (nD F.hr)];exact s6 _ _ F.hr,by rw[ao (nD F.hp)];exact s6 _ _ F.hp,(F.pp.same s6).same (YV O8),MJ.free F.fa,MJ.free F.fw,MJ.free F.fr,MJ.free F.fp⟩⟩;rw[List.getElem?_map,e];show some (ul.getD i .cS)=_;simp[e1]
theorem Ba:aL ["_law_script","_law_k"] ["_law_script","_law_k"] (av qR):=⟨rfl,rfl,rfl,by decide+kernel,rfl,by decide+kernel,by decide+kernel⟩
include T in
theorem Bb{f:Addr}{fd:FuncData}(F:jy K "_law_at" "_law_at" qR f fd):a8 P w K mg base (cV P w) true 1 f fd ["_law_script","_law_k"] (EH K):=by
 refine F.gk Ba Y_ (fun bR A outer s H vs Q E hr h hX=>?_)
 ·obtain⟨a,ns,k,rfl,_⟩:=h;rfl
 ·obtain⟨a,ns,k,rfl,hS,h0,q⟩:=h;refine⟨_,(ZP (Δ (ZQ jD Y4 (ZD (aK K) T.cK (ZA Y0))) (ZO (Z9 (ZC Y0 (pv 1)))) aP) (ZO (Z9 af))),?_⟩;refine⟨_,rfl,_,rfl,a,_,rfl, .inl hS,_,_,rfl,rfl,_,rfl,?_⟩;refine aX (fun h=>?_) (fun h=>?_)
  ·have h:k<((ns.map V.int).length:Int):=by simpa using h
   rw[List.length_map]at h;exact⟨_,rfl,_,rfl,a,_,k,_,rfl,rfl,hS,He h0 h,q⟩
  ·have h:¬k<((ns.map V.int).length:Int):=by simpa using h
   rw[List.length_map]at h;rw[cell_out h0 h]at q;exact q
theorem uZ:aL ["_law_found"] ["_law_found"] (av kY):=⟨rfl,rfl,rfl,by decide+kernel,rfl,by decide+kernel,by decide+kernel⟩
include T in
theorem u0{f:Addr}{fd:FuncData}(F:jy K "_law_whole" "_law_whole" kY f fd):a8 P w K mg base (cV P w) true 1 f fd ["_law_found"] tH:=by
 refine F.gk uZ Y_ (fun bR A outer s H vs Q E hr h hX=>?_)
 ·obtain⟨i,rfl,_⟩:=h;rfl
 ·obtain⟨i,rfl,q⟩:=h;refine⟨_,(ZO (Z9 (@sW _ _ _ _ _ _ _ (Z6 (ja K) (by exact rfl) T.fB PyProof.Rows.Boot.«isinstance» (ZE Y0 (ZA (@mw _ _ (.ty "int") _ _ (by exact rfl) T.BJ PyProof.Rows.Boot.«int» Ζ (WD) (WD))))) (@kI _ _ _ _ _ (@D5 _ _ _ _ (Z6 (ja K) (by exact rfl) T.fB PyProof.Rows.Boot.«isinstance» (ZE Y0 (ZA (@mw _ _ (.ty "bool") _ _ (by exact rfl) T.KI PyProof.Rows.Boot.«bool» Ζ (WD) (WD)))))))))),?_⟩;refine⟨_,rfl,_,_,_,true,_,rfl,rfl, .int i,rfl,_,rfl,?_⟩;refine jY ?_;exact⟨_,rfl,_,_,_,false,_,rfl,rfl, .int i,by kernel_rfl,_,rfl,q⟩
theorem bI:aL ["_law_cell","_law_other","_law_many","_law_letters","_law_stem","_law_rest","_law_k","_law_size","_law_found","_law_spot","_law_sign"] ["_law_cell","_law_other","_law_many"] (av lV):=⟨rfl,rfl,rfl,by decide+kernel,rfl,by decide+kernel,by decide+kernel⟩
include T in
theorem xA{f:Addr}{fd:FuncData}(F:jy K "_law_bank" "_law_bank" lV f fd):a8 P w K mg base (cV P w) true 1 f fd ["_law_cell","_law_other","_law_many"] w6:=by
 refine F.gk bI Y_ (fun bR A outer s H vs Q E hr h hX=>?_)
 ·obtain⟨cell,other,many,rfl,_⟩:=h;rfl
 ·obtain⟨cell,other,many,rfl,TQ,hm,q⟩:=h;have Zq:=Hh;have VS:(0:Int)<26:=WD;have VT:(0:Int)<12:=WD;refine⟨_,(ZP (Zx (3) bI.nd dZ) (ZP (Zx (4) bI.nd dZ) (ZP (Zx (5) bI.nd (ZH dI Y0 af)) (ZP (ZI (@cO _ _ _ _ _ _ (by exact rfl) T.dh (ZA af) (YW)) (Zy (6) bI.nd) (ZP (Zx (4) bI.nd (ZH nB (pv 4) (ZT Ep (pv 3) (ZH bM (pv 5) af)))) (ZO (Zx (5) bI.nd (ZH dI (pv 5) af))))) (ZP (Zx (7) bI.nd (ZH bA af (ZH bM (ZH dI Y0 af) af))) (ZP (Zx (8) bI.nd (Η ai)) (ZP (ZI (@cO _ _ _ _ _ _ (by exact rfl) T.dh (ZA Y9) (YW)) (Zy (6) bI.nd) (ZO (Δ (ZQ jg (ZH bM Y0 af) af) (ZO (Ε (ZJ K PySem.F.slot_list_append PySem.F.type_list_append bL (pv 8) (ZA (@gi _ _ _ _ _ _ _ _ _ _ Ap (pv 4) kK (@gh _ _ _ (ZH bA af (ZH bM (ZH bA (pv 7) (pv 6)) af)))))))) (ZP (Zx (9) bI.nd (ZH bM Y4 (pv 7))) (ZP (Zx (10) bI.nd (ZT Ep (pv 3) (ZH bM (ZH bA (ZH dI Y4 af) (pv 6)) af))) (ZO (Ε (ZJ K PySem.F.slot_list_append PySem.F.type_list_append bL (pv 8) (ZA (ZH nB (ZH nB (@gi _ _ _ _ _ _ _ _ _ _ Ap (pv 4) kK (@gh _ _ _ (pv 9))) (pv 10)) (@gi _ _ _ _ _ _ _ _ _ _ Ap (pv 4) (@gh _ _ _ (ZH bA (pv 9) af)) (@gh _ _ _ (pv 7))))))))))))) (ZO (Z9 (pv 8)))))))))),?_⟩;refine⟨_,rfl,_,_,rfl,rfl,⟨WD,WD⟩,?_⟩;refine⟨12,rfl,WD,WD,?_⟩;refine cC (fun i σ H'=>H'=H∧∃(bT:Str)(rest:Int)(kv:Option V),bT.length=i∧lows bT∧σ=[sI cell,sI other,sI many,sS N6,sS bT,sI rest,kv,none,none,none,none]) ⟨rfl,_,_,_,(by decide+kernel),(show(Str.ofString "").cps.toList.all low=true by decide+kernel),rfl⟩ ?_ ?_
  ·rintro i σ H' hi ⟨rfl,bT,rest,kv,hl,LY,rfl⟩;have hi:i<12:=hi;refine⟨_,rfl,_,rfl,_,rfl,_,_,rfl,rfl,VS,_,_,_,rfl,rfl,aE IL,EN,_,_,rfl,rfl,aE (show bT.length+1≤100000 by lia),?_⟩;refine⟨_,rfl,_,_,rfl,rfl,⟨WD,WD⟩,rfl,_,_,_,?_,?_,rfl⟩
   ·rw[len_app,hl];rfl
   ·have h1:bT.cps.toList.all low=true:=LY;have h2:=BM rest;unfold lows;rw[oQ,List.all_append,h1];simp[h2]
  ·rintro σ H' ⟨rfl,bT,rest,kv,hl,LY,rfl⟩;have hl:bT.length=12:=hl;refine⟨_,rfl,_,_,rfl,rfl,⟨WD,WD⟩,_,_,rfl,rfl,VT,_,_,rfl,rfl,?_⟩;have z0:1≤1+cell/2%12∧1+cell/2%12≤12:=by lia
   refine⟨aE Xs,fun D hD=>?_⟩;refine⟨_,rfl,many,rfl,by lia,by lia,?_⟩;refine cC (fun i σ H2=>(∃u v w,σ=[sI cell,sI other,sI many,sS N6,sS bT,sI rest,u,sI (1+cell/2%12),sR D,v,w])∧H2 D=some (.lst (((Zv i).map (kg bT cell other)).map V.str))∧au H' H2) ⟨⟨_,_,_,rfl⟩,ae,YV hD⟩ ?_ ?_
   ·rintro i σ H2 hi ⟨⟨u,v,w,rfl⟩,ku,s2⟩;have hi:i<12:=by lia
    have nx:∀z,z=kg bT cell other i→(Zv i).map (fun k=>V.str (kg bT cell other k))++[V.str z]=((Zv (i+1)).map (kg bT cell other)).map V.str:=fun z e=>by
     rw[List.range_succ,e];simp
    have hG:(((Zv i).map (kg bT cell other)).map V.str).length<sizeLine:=ba Ξ;refine⟨_,rfl,_,_,rfl,rfl,(show(0:Int)<2 by decide),rfl,_,rfl,?_⟩;refine aX (fun h=>?_) (fun h=>?_)
    ·have h:cell%2=1:=by simpa using h
     refine⟨_,rfl, .inl ⟨rfl,_, .of ku⟩,_,rfl,_,rfl,_,rfl,_,_,rfl,rfl,_,_,rfl,rfl,VT,_,_,rfl,rfl,_,rfl,bT,rfl,aE IL,D,_,_,rfl,rfl,ku,hG,⟨_,_,_,rfl⟩,?_,s2.eL hD⟩;rw[ae];have:=nx (Txt.slice bT none (some (1+(1+cell/2%12+(0+(i:Int)))%12))) (by simp[kg,h]);rw[←this];simp
    ·have h:¬cell%2=1:=by simpa using h
     have z1:0≤other%(1+cell/2%12)∧other%(1+cell/2%12)<1+cell/2%12:=⟨Int.emod_nonneg _ (by lia),Int.emod_lt_of_pos _ (by lia)⟩
     have b1:=vS bT none (some (other%(1+cell/2%12)));have b2:=vS bT (some (other%(1+cell/2%12)+1)) (some (1+cell/2%12));refine⟨_,rfl,_,rfl,_,_,rfl,rfl,(show(0:Int)<1+cell/2%12 by lia),?_⟩;refine⟨_,rfl,_,rfl,_,_,rfl,rfl,⟨WD,WD⟩,_,rfl,_,_,rfl,rfl,_,_,rfl,rfl,VS,_,_,_,rfl,rfl,aE IL,EN,?_⟩;refine⟨_,rfl, .inl ⟨rfl,_, .of ku⟩,_,rfl,_,rfl,_,rfl,bT,rfl,aE IL,_,rfl,_,_,rfl,rfl,aE (show(Txt.slice bT none (some (other%(1+cell/2%12)))).length+1≤100000 by lia),_,rfl,_,rfl,_,_,rfl,rfl,_,rfl,_,rfl,_,rfl,bT,rfl,aE IL,_,_,rfl,rfl,?_,D,_,_,rfl,rfl,ku,hG,⟨_,_,_,rfl⟩,?_,s2.eL hD⟩
     ·rw[len_app];exact aE (show(Txt.slice bT none (some (other%(1+cell/2%12)))).length+1+_≤100000 by lia)
     rw[ae];have:=nx (Txt.slice bT none (some (other%(1+cell/2%12)))++⟨#[97+((other/12+(0+(i:Int)))%26).toNat]⟩++Txt.slice bT (some (other%(1+cell/2%12)+1)) (some (1+cell/2%12))) (by simp[kg,h]);rw[←this];simp
   ·rintro σ H2 ⟨⟨u,v,w,rfl⟩,ku,s2⟩;refine⟨_,rfl,q H2 D _ s2 hD ku Xs ?_ (Av hl cell other (by lia))⟩;intro z hz;obtain⟨k,_,rfl⟩:=List.mem_map.mp hz;exact ES hl LY cell other k
variable(a_:bJ P w K mg base true 1 "_law_at" ["_law_script","_law_k"] (EH K))
theorem gF:aL ["_law_script","_law_cell","_law_spot","_law_many","_law_bank_here","_law_book_here","_law_rest","_law_k"] ["_law_script","_law_cell","_law_spot","_law_many","_law_bank_here"] (av lW):=⟨rfl,rfl,rfl,by decide+kernel,rfl,by decide+kernel,by decide+kernel⟩
include T a_ in
theorem xB{f:Addr}{fd:FuncData}(F:jy K "_law_book" "_law_book" lW f fd):a8 P w K mg base (cV P w) true 2 f fd ["_law_script","_law_cell","_law_spot","_law_many","_law_bank_here"] (w9 K):=by
 refine F.gk gF Y_ (fun bR A outer s H vs Q E hr h hX=>?_)
 ·obtain⟨a,b,ns,zs,c,p,m,rfl,_⟩:=h;rfl
 ·obtain⟨a,b,ns,zs,c,p,m,rfl,hS,hb,⟨Gb,Gm⟩,YC,TQ,Cn,q⟩:=h;refine⟨_,(ZP (Zx (5) gF.nd (Η ai)) (ZP (Zx (6) gF.nd Y4) (ZP (ZI (@cO _ _ _ _ _ _ (by exact rfl) T.dh (ZA (pv 3)) (YW)) (Zy (7) gF.nd) (ZP (Ε (ZJ K PySem.F.slot_list_append PySem.F.type_list_append bL (pv 5) (ZA (ZC (pv 4) (ZH bM (ZH bA (ZH bA (pv 6) (pv 7)) (Zz a_ aQ (ZE Y0 (ZA (ZH bA Y9 (pv 7)))))) (ZD (aK K) T.cK (ZA (pv 4)))))))) (ZO (Zx (6) gF.nd (ZH dI (pv 6) (ZD (aK K) T.cK (ZA (pv 4)))))))) (ZO (Z9 (pv 5)))))),?_⟩;refine⟨aE Xs,fun l hl=>?_⟩;refine⟨_,rfl,?_⟩;refine⟨_,rfl,m,rfl,by lia,by lia,?_⟩;refine cC (fun i σ H'=>(∃r u,σ=[sR a,sI c,sI p,sI m,sR b,sR l,sI r,u])∧au H H'∧∃ws:List Str,H' l=some (.lst (ws.map V.str))∧ws.length=i∧∀w∈ws,w∈zs) ⟨⟨_,_,rfl⟩,YV hl,[],ae,rfl,fun w hw=>by cases hw⟩ ?_ ?_
  ·rintro i σ H' hi ⟨⟨r,u,rfl⟩,s1,ws,lC,sg,Gd⟩;have hi:i<m.toNat:=hi;have gU:=s1 _ _ hb;have z0:0≤(r+(0+(i:Int))+cell ns (p+(0+(i:Int))))%(zs.length:Int):=Int.emod_nonneg _ (by lia);have z1:(r+(0+(i:Int))+cell ns (p+(0+(i:Int))))%(zs.length:Int)<(zs.length:Int):=Int.emod_lt_of_pos _ (by lia);obtain⟨w,hw,zU⟩:=Au zs z0 z1;have el:(zs.map V.str).length=zs.length:=List.length_map ..;refine⟨_,rfl, .inl ⟨rfl,_, .of lC⟩,_,rfl,_,rfl,_,rfl,_,_,rfl,rfl,_,rfl,_,rfl,_,rfl,_,_,rfl,rfl,a,ns,_,rfl,s1.seq hS,by lia,_,_,rfl,rfl,_,rfl,b,_,rfl, .inl (.of gU),_,_,rfl,rfl,(by rw[el];show(0:Int)<_;lia),b,_,_,_,rfl,rfl, .of gU,(by rw[el];exact zU),l,_,_,rfl,rfl,lC,ba (by rw[List.length_map];lia),?_⟩;have Ig:b≠l:=aF hb hl;have rJ:upd H' l (.lst (ws.map V.str++[.str w])) b=some (.lst (zs.map V.str)):=by rw[ao Ig];exact gU
   refine⟨_,rfl,_,rfl,b,_,rfl, .inl (.of rJ),_,_,rfl,rfl,⟨by rw[el];lia,by rw[el];lia⟩,⟨_,_,rfl⟩,s1.eL hl,ws++[w],?_,by simp[sg],?_⟩
   ·rw[ae];simp
   ·intro x hx;rcases List.mem_append.mp hx with hx|hx
    ·exact Gd x hx
    ·have:x=w:=by simpa using hx
     rw[this];exact hw
  ·rintro σ H' ⟨⟨r,u,rfl⟩,s1,ws,lC,sg,Gd⟩;exact⟨_,rfl,q H' l ws s1 hl lC sg Gd⟩
theorem cn:aL ["_law_script","_law_cell","_law_spot","_law_many","_law_first","_law_bank_here","_law_book_here","_law_rest","_law_place","_law_k","_law_pick"] ["_law_script","_law_cell","_law_spot","_law_many","_law_first","_law_bank_here"] (av iU):=⟨rfl,rfl,rfl,by decide+kernel,rfl,by decide+kernel,by decide+kernel⟩
include T a_ in
theorem u7{f:Addr}{fd:FuncData}(F:jy K "_law_quote" "_law_quote" iU f fd):a8 P w K mg base (cV P w) true 2 f fd ["_law_script","_law_cell","_law_spot","_law_many","_law_first","_law_bank_here"] (tL K):=by
 refine F.gk cn Y_ (fun bR A outer s H vs Q E hr h hX=>?_)
 ·obtain⟨a,b,x,ns,zs,LZ,c,p,m,rfl,_⟩:=h;rfl
 ·obtain⟨a,b,x,ns,zs,LZ,c,p,m,rfl,hS,hb,hx,⟨Gb,Gm⟩,we,TU,YC,TQ,Cn,q⟩:=h;have hu:=hr.units;have Il:(A.deeper (Ψ "_law_quote" (av iU) f bR)).units<cLine:=by lia
  have c8:(0:Int)<8:=WD;refine⟨_,(ZP (Zx (6) cn.nd (Η ai)) (ZP (Zx (7) cn.nd Y4) (ZP (Zx (8) cn.nd af) (ZP (ZI (@cO _ _ _ _ _ _ (by exact rfl) T.dh (ZA (pv 3)) (YW)) (Zy (9) cn.nd) (ZP (Zx (10) cn.nd (ZH bA (pv 7) (Zz a_ aQ (ZE Y0 (ZA (ZH bA Y9 (pv 9))))))) (ZP (Zx (7) cn.nd (ZH dI (pv 7) (ZH nz af (ZD (aK K) T.cK (ZA (pv 5)))))) (ZO (Δ (@PW.pt _ _ _ (@pw_and _ _ _ _ _ _ _ (ZQ jD (ZH bM (pv 10) af) af) (@pw_and1 _ _ _ _ (ZQ (tI K Il) (pv 4) (Η ai))))) (ZP (Zx (8) cn.nd (ZH bA (pv 8) (ο qk Ζ T.BJ PyProof.Rows.Boot.«int» (ZA (@d6 _ _ _ _ _ _ _ _ jg (ZH bM (pv 10) af) af (aT _)))))) (ZP (Ε (ZJ K PySem.F.slot_list_append PySem.F.type_list_append bL (pv 6) (ZA (ZC (pv 4) (ZH bM (pv 8) (ZD (aK K) T.cK (ZA (pv 4)))))))) (ZO (Zx (8) cn.nd (ZH bA (pv 8) af))))) (ZO (Ε (ZJ K PySem.F.slot_list_append PySem.F.type_list_append bL (pv 6) (ZA (ZC (pv 5) (ZH bM (ZH dI (pv 10) af) (ZD (aK K) T.cK (ZA (pv 5)))))))))))))) (ZO (Z9 (pv 6))))))),?_⟩;refine⟨aE Xs,fun l hl=>?_⟩;refine⟨_,rfl,?_⟩;refine⟨_,rfl,m,rfl,by lia,by lia,?_⟩;refine cC (fun i σ H'=>(∃(r pl:Int)(u1 u2:Option V),σ=[sR a,sI c,sI p,sI m,sR x,sR b,sR l,sI r,sI pl,u1,u2])∧au H H'∧∃ws:List Str,H' l=some (.lst (ws.map V.str))∧ws.length=i∧∀w∈ws,w∈zs) ⟨⟨_,_,_,_,rfl⟩,YV hl,[],ae,rfl,fun w hw=>by cases hw⟩ ?_ ?_
  ·rintro i σ H' hi ⟨⟨r,pl,u1,u2,rfl⟩,s1,ws,lC,sg,Gd⟩;have hi:i<m.toNat:=hi;have gU:=s1 _ _ hb;have kR:=s1 _ _ hx;have el:(zs.map V.str).length=zs.length:=List.length_map ..;have VU:(LZ.map V.str).length=LZ.length:=List.length_map ..;have hG:(ws.map V.str).length<sizeLine:=ba (by rw[List.length_map];lia);refine⟨_,rfl,_,rfl,_,rfl,_,rfl,_,_,rfl,rfl,a,ns,_,rfl,s1.seq hS,by lia,_,_,rfl,rfl,?_⟩;refine⟨_,rfl,_,rfl,b,_,rfl, .inl (.of gU),_,_,rfl,rfl, .inl (WD),_,_,rfl,rfl,⟨by rw[el];lia,by rw[el];lia⟩,?_⟩;have fin:∀H3 (w:Str),au H H3→H3 l=some (.lst (ws.map V.str))→w∈zs→au H (upd H3 l (.lst (ws.map V.str++[.str w])))∧∃TX:List Str,upd H3 l (.lst (ws.map V.str++[.str w])) l=some (.lst (TX.map V.str))∧TX.length=i+1∧∀w∈TX,w∈zs:=fun H3 w s3 h3 hw=>by
    refine⟨s3.eL hl,ws++[w],by rw[ae];simp,by simp[sg],fun x hx=>?_⟩;rcases List.mem_append.mp hx with hx|hx
    ·exact Gd x hx
    ·have:x=w:=by simpa using hx
     rw[this];exact hw
   have other:∀H3,au H H3→H3 l=some (.lst (ws.map V.str))→H3 b=some (.lst (zs.map V.str))→∃w,w∈zs∧rV (zs.map V.str) ((r+cell ns (p+(0+(i:Int))))/8%((zs.map V.str).length:Int))=some (.str w):=fun H3 _ _ _=>by
    rw[el];exact Au zs (Int.emod_nonneg _ (by lia)) (Int.emod_lt_of_pos _ (by lia))
   refine⟨_,rfl,_,_,rfl,rfl,c8,_,_,rfl,rfl,_,rfl,?_⟩;refine aX (fun h1=>?_) (fun h1=>?_)
   ·refine⟨_,rfl,aE Xs,fun pn Iw=>⟨x,pn,_,rfl,rfl, .of (au.upd Iw _ _ kR), .of ae,_,rfl,?_⟩⟩;have s2:au H (upd H' pn (.lst [])):=s1.trans (YV Iw);have uO:=au.upd (o:= .lst []) Iw _ _ lC;refine aX (fun h2=>?_) (fun h2=>?_)
    ·have eJ:LZ≠[]:=by simpa using h2
     have Pe:0<LZ.length:=List.length_pos_iff.mpr eJ;obtain⟨w,hw,zU⟩:=Au LZ (i:=(pl+(if decide ((r+cell ns (p+(0+(i:Int))))%8=4)=true then 1 else 0))%((LZ.length:Nat):Int)) (Int.emod_nonneg _ (by lia)) (Int.emod_lt_of_pos _ (by lia));obtain⟨a1,a2⟩:=fin _ w s2 uO (TU w hw);refine⟨_,rfl,_,rfl,_,_,rfl,rfl,c8,rfl, .inr ⟨_,rfl,_,_,rfl,rfl,?_⟩⟩;refine⟨_,rfl, .inl ⟨rfl,_, .of uO⟩,_,rfl,_,rfl,_,rfl,x,_,rfl, .inl (.of (s2 _ _ hx)),_,_,rfl,rfl,(by rw[VU];show(0:Int)<_;lia),x,_,_,_,rfl,rfl, .of (s2 _ _ hx),by rw[VU];simpa[beq_iff_eq,wH]using zU,l,_,_,rfl,rfl,uO,hG,?_⟩;exact⟨_,rfl,_,_,rfl,rfl,⟨_,_,_,_,rfl⟩,a1,a2⟩
    ·obtain⟨w,hw,zU⟩:=other _ s2 uO (s2 _ _ hb);obtain⟨a1,a2⟩:=fin _ w s2 uO hw;refine⟨_,rfl, .inl ⟨rfl,_, .of uO⟩,_,rfl,_,rfl,_,_,rfl,rfl,⟨WD,WD⟩,_,rfl,b,_,rfl, .inl (.of (s2 _ _ hb)),_,_,rfl,rfl,(by rw[el];show(0:Int)<_;lia),b,_,_,_,rfl,rfl, .of (s2 _ _ hb),zU,l,_,_,rfl,rfl,uO,hG,⟨_,_,_,_,rfl⟩,a1,a2⟩
   ·refine fQ ?_;obtain⟨w,hw,zU⟩:=other _ s1 lC gU;obtain⟨a1,a2⟩:=fin _ w s1 lC hw;refine⟨_,rfl, .inl ⟨rfl,_, .of lC⟩,_,rfl,_,rfl,_,_,rfl,rfl,⟨WD,WD⟩,_,rfl,b,_,rfl, .inl (.of gU),_,_,rfl,rfl,(by rw[el];show(0:Int)<_;lia),b,_,_,_,rfl,rfl, .of gU,zU,l,_,_,rfl,rfl,lC,hG,⟨_,_,_,_,rfl⟩,a1,a2⟩
  ·rintro σ H' ⟨⟨r,pl,u1,u2,rfl⟩,s1,ws,lC,sg,Gd⟩;exact⟨_,rfl,q H' l ws s1 hl lC sg Gd⟩
theorem eI:aL ["_law_script","_law_spot","_law_pick","_law_same","_law_most"] ["_law_script","_law_spot"] (av gz):=⟨rfl,rfl,rfl,by decide+kernel,rfl,by decide+kernel,by decide+kernel⟩
include T a_ in
theorem sk{f:Addr}{fd:FuncData}(F:jy K "_law_numbers" "_law_numbers" gz f fd):a8 P w K mg base (cV P w) true 2 f fd ["_law_script","_law_spot"] (nH K):=by
 refine F.gk eI Y_ (fun bR A outer s H vs Q E hr h hX=>?_)
 ·obtain⟨a,ns,k,rfl,_⟩:=h;rfl
 ·obtain⟨a,ns,k,rfl,hS,h0,q⟩:=h;have c2:(0:Int)<2:=WD;have c4:(0:Int)<4:=WD;have c6:(0:Int)<6:=WD;have cM:(0:Int)<1000000:=WD;have VV:∀i:Int,J' i 4:=fun i=>⟨WD,WD⟩
  have YD:∀i:Int,J' i 8:=fun i=>⟨WD,WD⟩
  refine⟨_,(ZP (@kL _ _ _ _ _ _ _ _ _ _ _ _ _ _ _ (2) _ _ (by exact rfl) eI.nd Ζ (by exact rfl) (show bq ["_law_script","_law_spot","_law_pick","_law_same","_law_most"] (av gz) _ ["_law_k"] [0,1] ["_law_script","_law_spot"]from⟨rfl,by decide+kernel,by decide+kernel,by decide+kernel,rfl,rfl,by decide+kernel,by decide+kernel,by decide+kernel⟩) (@cO _ _ _ _ _ _ (by exact rfl) T.dh (ZA af) (YW)) (fun _ _ _ _ _=>(Zy (0) (show(["_law_k","_law_script","_law_spot"]:List Str).Nodup by decide+kernel))) (fun _ _ _ _ _=>iQ) (fun _ _ _ _ _=>(Zz a_ aQ (ZE Y4 (ZA (ZH bA Y9 (pv 0)))))) (YW) (by intro _;rfl)) (ZP (Δ (ZQ jD (ZH bM (ZC Y9 af) af) af) (ZP (Zx (3) eI.nd (ZH bA af (ZH bM (ZH dI (ZC Y9 af) af) af))) (ZO (Z9 (Η (ZE (pv 3) (ZE (ZH bM (ZC Y9 af) af) (ZE (ZH bM (ZC Y9 af) af) (ZA (ZH bA af (ZH bM (ZC Y9 af) (ZH nz af (pv 3)))))))))))) aP) (ZP (Zx (3) eI.nd (ZH bA af (ZH bM (ZH dI (ZC Y9 af) af) af))) (ZP (Zx (4) eI.nd (ZC (Η (Z5 (Z6 (qj rfl) (by exact rfl) T.EG PyProof.Rows.Boot.«min» (ZE af (ZA (ZH nz af (pv 3))))))) (ZH bM (ZH dI (ZC Y9 af) af) af))) (ZO (Z9 (Η (ZE (pv 3) (ZE (ZH bM (ZC Y9 af) af) (ZE (ZH bM (ZC Y9 af) af) (ZA (ZH bA af (ZH bM (ZC Y9 af) (pv 4)))))))))))))),?_⟩;refine⟨4,rfl,WD,WD,fun D hD=>?_⟩;refine Ao (fun i ys bx H'=>(∃u,bx=[u,sR a,sI k])∧∃is:List Int,ys=is.map V.int∧is.length=i∧H' D=some (.lst ys)∧au H H') ⟨⟨_,rfl⟩,[],rfl,rfl,ae,YV hD⟩ ?_ ?_
  ·rintro i ys bx H' hi ⟨⟨u,rfl⟩,is,rfl,hl,YE,s1⟩;have hi:i<4:=hi;refine qu ?_;exact⟨_,rfl,_,rfl,_,rfl,_,_,rfl,rfl,a,ns,_,rfl,s1.seq hS,by lia,YE,ba (by rw[List.length_map];lia),⟨_,rfl⟩,is++[cell ns (k+(0+(i:Int)))],XU,by simp[hl],ae,s1.eL hD⟩
  ·rintro ys bx H1 ⟨_,is,rfl,hl,sf,s1⟩;obtain⟨p0,p1,p2,p3,rfl⟩:=Hk hl;refine⟨_,rfl,D,_,0,_,rfl,rfl, .of sf,Y' (j:=0),_,_,rfl,rfl,c4,_,_,rfl,rfl,_,rfl,?_⟩;refine aX (fun _=>?_) (fun _=>?_)
   ·refine⟨_,rfl,D,_,0,_,rfl,rfl, .of sf,Y' (j:=0),_,_,rfl,rfl,VV _,_,_,rfl,rfl,c6,_,_,rfl,rfl,?_⟩;have z0:1≤1+p0/4%6∧1+p0/4%6≤6:=by lia
    have z3:0≤p3%(3*(1+p0/4%6)):=Int.emod_nonneg _ (by lia);have z4:p3%(3*(1+p0/4%6))<3*(1+p0/4%6):=Int.emod_lt_of_pos _ (by lia);exact⟨_,rfl,_,rfl,D,_,1,_,rfl,rfl, .of sf,Y' (j:=1),_,_,rfl,rfl,c4,_,rfl,D,_,2,_,rfl,rfl, .of sf,Y' (j:=2),_,_,rfl,rfl,c4,_,rfl,D,_,3,_,rfl,rfl, .of sf,Y' (j:=3),_,rfl,_,_,rfl,rfl, .inl (WD),_,_,rfl,rfl,(show(0:Int)<3*(1+p0/4%6) by lia),_,_,rfl,rfl,aE Xs,fun p hp=>q _ p _ _ _ _ (s1.trans (YV hp)) (s1.free hp) ae IL (by lia) (by lia) (by lia)⟩
   ·refine⟨_,rfl,D,_,0,_,rfl,rfl, .of sf,Y' (j:=0),_,_,rfl,rfl,YD _,_,_,rfl,rfl,(show(0:Int)<999999 by decide),_,_,rfl,rfl,?_⟩;have z0:1≤1+p0/8%999999∧1+p0/8%999999≤999999:=by lia
    obtain⟨m,Cn,hm⟩:=int_at [if 3*(1+p0/8%999999)<999999 then 3*(1+p0/8%999999)else 999999,999999] (i:=p0/4%2) (by lia) (show p0/4%2<2 by lia);have Gy:1≤m∧m≤999999:=by
     simp only[List.mem_cons,List.not_mem_nil,or_false]at Cn;rcases Cn with rfl|rfl
     ·split<;>lia
     ·lia
    refine⟨_,rfl,_,_,rfl,rfl, .inl (WD),_,_,rfl,aE Xs,fun p hp=>?_⟩;have ku:=au.upd (o:= .lst [.int (if 3*(1+p0/8%999999)<999999 then 3*(1+p0/8%999999)else 999999), .int 999999]) hp _ _ sf;refine⟨_,rfl,D,_,0,_,rfl,rfl, .of ku,Y' (j:=0),_,_,rfl,rfl,VV _,_,_,rfl,rfl,c2,p,_,_,_,rfl,rfl, .of ae,hm,?_⟩;have z3:0≤p3%m:=Int.emod_nonneg _ (by lia);have z4:p3%m<m:=Int.emod_lt_of_pos _ (by lia);exact⟨_,rfl,_,rfl,D,_,1,_,rfl,rfl, .of ku,Y' (j:=1),_,_,rfl,rfl,cM,_,rfl,D,_,2,_,rfl,rfl, .of ku,Y' (j:=2),_,_,rfl,rfl,cM,_,rfl,D,_,3,_,rfl,rfl, .of ku,Y' (j:=3),_,rfl,_,_,rfl,rfl,(show(0:Int)<m by lia),_,_,rfl,rfl,aE Xs,fun p2 CH=>q _ p2 _ _ _ _ ((s1.trans (YV hp)).trans (YV CH)) ((s1.trans (YV hp)).free CH) ae IL (by lia) (by lia) (by lia)⟩
theorem dD:aL ["_law_cell","_law_bank_here","_law_same","_law_found","_law_rest","_law_x","_law_y","_law_price"] ["_law_cell","_law_bank_here","_law_same"] (av lX):=⟨rfl,rfl,rfl,by decide+kernel,rfl,by decide+kernel,by decide+kernel⟩
include T in
theorem xC{f:Addr}{fd:FuncData}(F:jy K "_law_near" "_law_near" lX f fd):a8 P w K mg base (cV P w) true 1 f fd ["_law_cell","_law_bank_here","_law_same"] w8:=by
 refine F.gk dD Y_ (fun bR A outer s H vs Q E hr h hX=>?_)
 ·obtain⟨cell,same,b,zs,rfl,_⟩:=h;rfl
 ·obtain⟨cell,same,b,zs,rfl,hb,YF,hw,hn,Zr,Gj,q⟩:=h;have NW:(0:Int)<same+3:=by lia
  refine⟨_,(ZP (Zx (3) dD.nd (Η ai)) (ZP (Zx (4) dD.nd Y0) (ZP (ZI (Θ K Y4) (Zy (5) dD.nd) (ZO (ZI (Θ K Y4) (Zy (6) dD.nd) (ZO (Δ (ZQ Bu (pv 5) (pv 6)) (ZP (Zx (7) dD.nd (ZH bM (ZH dI (pv 4) af) (ZH bA Y9 af))) (ZR (Δ (ZQ jg (ZH bM (pv 4) af) af) (ZP (Ε (ZJ K PySem.F.slot_list_append PySem.F.type_list_append bL (pv 3) (ZA (@e8 _ _ _ _ _ (ZE (pv 5) (ZE (pv 6) (ZA (Z6 (qj rfl) (by exact rfl) T.EG PyProof.Rows.Boot.«min» (Z5 (pv 7)))))))))) (ZO (Zx (4) dD.nd (ZH dI (pv 4) (ZH bA Y9 af))))) (ZO (Δ (ZQ jg (ZH bM (pv 4) af) af) (ZO (Ε (ZJ K PySem.F.slot_list_append PySem.F.type_list_append bL (pv 3) (ZA (@e8 _ _ _ _ _ (ZE (pv 5) (Z5 (pv 6)))))))) aP))) (ZO (Zx (4) dD.nd (ZH dI (pv 4) af))))) aP))))) (ZO (Z9 (pv 3)))))),?_⟩;refine⟨aE Xs,fun l hl=>?_⟩;refine⟨_,rfl,?_⟩;have Zs:b≠l:=aF hb hl;refine⟨_,rfl,b,rfl,⟨_, .of (au.upd hl _ _ hb)⟩,?_⟩;refine bG (xs:=zs.map V.str) (fun i σ H'=>(∃(rest:Int)(u1 u2 u3:Option V),σ=[sI cell,sR b,sI same,sR l,sI rest,u1,u2,u3])∧au H H'∧∃xs fs,H' l=some (.lst xs)∧dX H' xs fs∧dq zs i 0 fs) ⟨⟨_,_,_,_,rfl⟩,YV hl,[],[],ae, .nil, .nil⟩ ?_ ?_ ?_
  ·rintro i σ H' _ ⟨_,s1,_⟩;exact .of (s1 _ _ hb)
  ·rintro i v σ H' hv ⟨⟨rest,u1,u2,u3,rfl⟩,s1,xs,fs,lC,T1,P1⟩;obtain⟨x,hx,rfl⟩:∃x,zs[i]?=some x∧v= .str x:=mF hv;have hi:i<zs.length:=(ZF hx).1;refine⟨_,rfl,b,rfl,⟨_, .of (s1 _ _ hb)⟩,?_⟩;refine bG (xs:=zs.map V.str) (fun j σ H'=>(∃(rest:Int)(u2 u3:Option V),σ=[sI cell,sR b,sI same,sR l,sI rest,sS x,u2,u3])∧au H H'∧∃xs fs,H' l=some (.lst xs)∧dX H' xs fs∧dq zs i j fs) ⟨⟨_,_,_,rfl⟩,s1,xs,fs,lC,T1,P1⟩ ?_ ?_ ?_
   ·rintro j σ H' _ ⟨_,s1,_⟩;exact .of (s1 _ _ hb)
   ·clear s1 lC T1 P1 xs fs u1 u2 u3 rest H';rintro j v σ H' hv ⟨⟨rest,u2,u3,rfl⟩,s1,xs,fs,lC,T1,P1⟩;obtain⟨y,hy,rfl⟩:∃y,zs[j]?=some y∧v= .str y:=mF hv;have CL:xs.length<1000:=by
     have h1:=P1.zJ;have h2:i*(zs.length-1)≤8*7:=Nat.mul_le_mul IL (by lia);have h3:j<zs.length:=(ZF hy).1;have h4:=T1.1
     lia
    refine⟨_,rfl,_,rfl,rfl,_,rfl,?_⟩;refine aX (fun h=>?_) (fun h=>?_)
    rotate_left
    ·exact⟨⟨_,_,_,rfl⟩,s1,xs,fs,lC,T1,P1.skip⟩
    have eJ:¬x=y:=by simpa using h
    refine⟨_,rfl,_,_,rfl,rfl,⟨WD,WD⟩,_,rfl,_,_,rfl,rfl,_,_,rfl,rfl,NW,?_⟩;have p0:0≤rest/3%(same+3):=Int.emod_nonneg _ (by lia);have add:∀(t:Addr)(ht:H' t=none)(pr:Int),0≤pr→pr≤999999→au H (upd (upd H' t (.tup [.str x, .str y, .int pr])) l (.lst (xs++[.ref t])))∧∃Bc JI,upd (upd H' t (.tup [.str x, .str y, .int pr])) l (.lst (xs++[.ref t])) l=some (.lst Bc)∧dX (upd (upd H' t (.tup [.str x, .str y, .int pr])) l (.lst (xs++[.ref t]))) Bc JI∧dq zs i (j+1) JI:=fun t ht pr h0 h1=>by
     refine⟨(s1.trans (YV ht)).eL hl,_,fs++[(x,y,pr)],ae,?_,P1.add hn hw hx hy eJ h0 h1⟩;have T2:dX (upd H' t (.tup (KJ (x,y,pr)))) (xs++[.ref t]) (fs++[(x,y,pr)]):=(T1.same (YV ht)).snoc ae;exact T2.cF (dW.lst (au.upd ht _ _ lC))
    refine⟨fun σ H2=>(∃(rest:Int)(u3:Option V),σ=[sI cell,sR b,sI same,sR l,sI rest,sS x,sS y,u3])∧au H H2∧∃xs fs,H2 l=some (.lst xs)∧dX H2 xs fs∧dq zs i (j+1) fs,?_,?_⟩
    ·refine⟨_,rfl,_,_,rfl,rfl,(show(0:Int)<3 by decide),rfl,_,rfl,?_⟩;refine aX (fun _=>?_) (fun _=>?_)
     ·refine⟨_,rfl, .inl ⟨rfl,_, .of lC⟩,_,rfl,_,rfl,_,rfl,_,_,rfl,aE Xs,fun t ht=>⟨l,xs,_,rfl,rfl,au.upd ht _ _ lC,ba IL,?_⟩⟩;obtain⟨a1,a2⟩:=add t ht (if 999999<rest/3%(same+3)then 999999 else rest/3%(same+3)) (by split<;>lia) (by split<;>lia);exact⟨_,rfl,_,rfl,_,_,rfl,rfl,_,_,rfl,rfl,⟨NW,by lia⟩,⟨_,_,rfl⟩,a1,a2⟩
     ·refine⟨_,rfl,_,_,rfl,rfl,(show(0:Int)<9 by decide),rfl,_,rfl,?_⟩;refine aX (fun _=>?_) (fun _=>?_)
      ·refine⟨_,rfl, .inl ⟨rfl,_, .of lC⟩,_,rfl,_,rfl,aE Xs,fun t ht=>⟨l,xs,_,rfl,rfl,au.upd ht _ _ lC,ba IL,?_⟩⟩;obtain⟨a1,a2⟩:=add t ht 999999 (WD) (WD);exact⟨⟨_,_,rfl⟩,a1,a2⟩
      ·exact⟨⟨_,_,rfl⟩,s1,xs,fs,lC,T1,P1.skip⟩
    rintro σ H2 ⟨⟨JJ,u4,rfl⟩,s2,Bc,JI,uO,T2,P2⟩;exact⟨_,rfl,_,_,rfl,rfl,⟨WD,WD⟩,⟨_,_,_,rfl⟩,s2,Bc,JI,uO,T2,P2⟩
   ·rintro σ H2 ⟨⟨JJ,u4,u5,rfl⟩,s2,Bc,JI,uO,T2,P2⟩;rw[List.length_map]at P2;exact⟨⟨_,_,_,_,rfl⟩,s2,Bc,JI,uO,T2,P2.row hi⟩
  ·rintro σ H2 ⟨⟨JJ,u4,u5,u6,rfl⟩,s2,Bc,JI,uO,T2,P2⟩;rw[List.length_map]at P2;exact⟨_,rfl,q H2 l Bc JI s2 hl uO T2 (P2.good YF)⟩
variable(jK:bJ P w K mg base true 1 "_law_bank" ["_law_cell","_law_other","_law_many"] w6)
variable(jL:bJ P w K mg base true 2 "_law_book" ["_law_script","_law_cell","_law_spot","_law_many","_law_bank_here"] (w9 K))
variable(i4:bJ P w K mg base true 2 "_law_quote" ["_law_script","_law_cell","_law_spot","_law_many","_law_first","_law_bank_here"] (tL K))
variable(gG:bJ P w K mg base true 2 "_law_numbers" ["_law_script","_law_spot"] (nH K))
variable(jM:bJ P w K mg base true 1 "_law_near" ["_law_cell","_law_bank_here","_law_same"] w8)
theorem dE:aL ["_law_script","_law_most","_law_many","_law_bank_here","_law_one","_law_other","_law_first","_law_second","_law_numbers_here"] ["_law_script","_law_most"] (av lY):=⟨rfl,rfl,rfl,by decide+kernel,rfl,by decide+kernel,by decide+kernel⟩
include T a_ jK jL i4 gG jM in
theorem xD{f:Addr}{fd:FuncData}(F:jy K "_law_case" "_law_case" lY f fd):a8 P w K mg base (cV P w) true 3 f fd ["_law_script","_law_most"] (w_ K):=by
 refine F.gk dE Y_ (fun bR A outer s H vs Q E hr h hX=>?_)
 ·obtain⟨a,ns,most,rfl,_⟩:=h;rfl
 ·obtain⟨a,ns,most,rfl,hS,TQ,Cn,q⟩:=h;refine⟨_,(ZR (Zx (2) dE.nd (ZH bA (ZH bA af (ZH bM (ZL a_ aQ) af)) (ZH nz (ο qk Ζ T.BJ PyProof.Rows.Boot.«int» (ZA (@d6 _ _ _ _ _ _ _ _ lz Y4 af (aT _)))) af))) (ZR (Zx (3) dE.nd (Zz jK aQ (ZE (ZL a_ aQ) (ι (ZL a_ aQ))))) (ZR (Zx (4) dE.nd (ZH cx Y4 (ZH bM (ZL a_ aQ) (ZH bA Y4 af)))) (ZR (Zx (5) dE.nd (ZH cx Y4 (ZH bM (ZL a_ aQ) (ZH bA Y4 af)))) (ZR (Zx (6) dE.nd (Zz jL aQ (ZE Y0 (ZE (ZL a_ aQ) (ZE af (Z_ (pv 4))))))) (ZR (Zx (7) dE.nd (Zz i4 aQ (ZE Y0 (ZE (ZL a_ aQ) (ZE af (ZE (pv 5) (Z_ (pv 6)))))))) (ZR (Zx (8) dE.nd (ZL gG aQ)) (ZO (Z9 (Η (ZE (pv 6) (ZE (pv 7) (ZE (pv 8) (ZA (Zz jM aQ (ZE (ZL a_ aQ) (ZE (@gi _ _ _ _ _ _ _ _ _ _ (kf K) (pv 3) kK (@gh _ _ _ af)) (ZA (ZC (pv 8) af))))))))))))))))))),?_⟩;refine⟨fun σ H1=>∃many:Int,σ=[sR a,sI most,sI many,none,none,none,none,none,none]∧H1=H∧1≤many∧many≤12,?_,?_⟩
  ·refine⟨_,rfl,a,ns,2,rfl,hS,WD,_,_,rfl,rfl,(show(0:Int)<5 by decide),_,_,rfl,rfl,_,rfl,_,_,rfl,rfl, .inr ⟨_,rfl,_,_,rfl,rfl, .inr ⟨WD,WD⟩,_,_,rfl,rfl,_,rfl,rfl,?_,?_⟩⟩
   ·split<;>lia
   ·split<;>lia
  rintro σ H ⟨many,rfl,rfl,Zt,DW⟩;refine⟨fun σ H1=>∃(b:Addr)(zs:List Str),σ=[sR a,sI most,sI many,sR b,none,none,none,none,none]∧au H H1∧H1 b=some (.lst (zs.map V.str))∧(1≤zs.length∧zs.length≤12)∧(∀z∈zs,tG z=true)∧zs.Nodup,?_,?_⟩
  ·exact⟨_,rfl,a,ns,0,rfl,hS,WD,_,rfl,a,ns,1,rfl,hS,WD,_,rfl,_,_,many,rfl,by lia,by lia,fun H' b zs s1 hb gU hz hw hn=>⟨b,zs,rfl,s1,gU,by lia,hw,hn⟩⟩
  rintro σ H1 ⟨b,zs,rfl,s1,gU,hz,hw,hn⟩;have L0:=s1.seq hS;refine⟨fun σ H2=>∃one:Int,σ=[sR a,sI most,sI many,sR b,sI one,none,none,none,none]∧H2=H1∧0≤one∧one≤most,?_,?_⟩
  ·have z0:0≤cell ns 3%(most+1):=Int.emod_nonneg _ (by lia);have z1:cell ns 3%(most+1)<most+1:=Int.emod_lt_of_pos _ (by lia);exact⟨_,rfl,_,rfl,a,ns,3,rfl,L0,WD,_,rfl,_,_,rfl,rfl,_,_,rfl,rfl,(show(0:Int)<most+1 by lia),_,_,rfl,rfl,_,rfl,rfl,by lia,by lia⟩
  rintro σ H1 ⟨one,rfl,rfl,YG,HH⟩;refine⟨fun σ H2=>∃Iy:Int,σ=[sR a,sI most,sI many,sR b,sI one,sI Iy,none,none,none]∧H2=H1∧0≤Iy∧Iy≤most,?_,?_⟩
  ·have z0:0≤cell ns 4%(most+1):=Int.emod_nonneg _ (by lia);have z1:cell ns 4%(most+1)<most+1:=Int.emod_lt_of_pos _ (by lia);exact⟨_,rfl,_,rfl,a,ns,4,rfl,L0,WD,_,rfl,_,_,rfl,rfl,_,_,rfl,rfl,(show(0:Int)<most+1 by lia),_,_,rfl,rfl,_,rfl,rfl,by lia,by lia⟩
  rintro σ H1 ⟨Iy,rfl,rfl,Ij,OJ⟩;refine⟨fun σ H2=>∃(x:Addr)(xs:List Str),σ=[sR a,sI most,sI many,sR b,sI one,sI Iy,sR x,none,none]∧au H1 H2∧H2 x=some (.lst (xs.map V.str))∧xs.length=one.toNat∧∀w∈xs,w∈zs,?_,?_⟩
  ·exact⟨_,rfl,_,rfl,a,ns,10,rfl,L0,WD,_,rfl,_,rfl,a,b,ns,zs,_,16,one,rfl,L0,gU,⟨hz.1,by lia⟩,WD,YG,by lia,fun H2 x xs s2 hx we hl oA=>⟨x,xs,rfl,s2,we,hl,oA⟩⟩
  rintro σ H2 ⟨x,xs,rfl,s2,we,Sy,TU⟩;have s3:=s1.trans s2;have TY:=s2.seq L0;refine⟨fun σ H3=>∃(y:Addr)(ys:List Str),σ=[sR a,sI most,sI many,sR b,sI one,sI Iy,sR x,sR y,none]∧au H2 H3∧H3 y=some (.lst (ys.map V.str))∧ys.length=Iy.toNat,?_,?_⟩
  ·exact⟨_,rfl,_,rfl,a,ns,11,rfl,TY,WD,_,rfl,_,rfl,_,rfl,a,b,x,ns,zs,xs,_,17,Iy,rfl,TY,s2 _ _ gU,we,⟨hz.1,by lia⟩,by lia,TU,WD,Ij,by lia,fun H3 y ys s4 hy Ck hl _=>⟨y,ys,rfl,s4,Ck,hl⟩⟩
  rintro σ H3 ⟨y,ys,rfl,s4,YH,Vv⟩;have s5:=s3.trans s4;have VW:=s4.seq TY;refine⟨fun σ H4=>∃(n:Addr)(sa ou iN le:Int),σ=[sR a,sI most,sI many,sR b,sI one,sI Iy,sR x,sR y,sR n]∧au H3 H4∧H4 n=some (.lst [.int sa, .int ou, .int iN, .int le])∧(1≤sa∧sa≤999999)∧(0≤ou∧ou≤999999)∧(0≤iN∧iN≤999999)∧(1≤le∧le≤999999),?_,?_⟩
  ·exact⟨_,rfl,a,ns,5,rfl,VW,WD,fun H4 D sa ou iN le s6 hD JH h1 h2 h3 h4=>⟨D,sa,ou,iN,le,rfl,s6,JH,h1,h2,h3,h4⟩⟩
  rintro σ H4 ⟨n,sa,ou,iN,le,rfl,s6,VX,h1,h2,h3,h4⟩;have s7:=s5.trans s6;have YI:=s6.seq VW;have YJ:H4 b=some (.lst (zs.map V.str)):=s6 _ _ (s4 _ _ (s2 _ _ gU));refine⟨_,rfl,_,rfl,_,rfl,_,rfl,a,ns,9,rfl,YI,WD,_,rfl,_,rfl,b,_,rfl, .of YJ,fun b5 MB=>?_⟩;have e5:qr (zs.map V.str) none (some 5)=(zs.take 5).map V.str:=by
   have:HT.jX (zs.map V.str).length (zs.map V.str).length (some 5)=min 5 zs.length:=by
    rw[List.length_map];simp only[HT.jX];split<;>lia
   have e0:HT.jX (zs.map V.str).length 0 none=0:=by simp[HT.jX]
   unfold qr;rw[this,e0,List.drop_zero,Nat.sub_zero,←List.map_take]
   congr 1
   apply List.ext_getElem?;intro i;rw[List.getElem?_take,List.getElem?_take];by_cases hi:i<zs.length
   ·by_cases h5:i<5
    ·rw[Z1 IL,Z1 h5]
    ·rw[ZY IL,ZY h5]
   ·simp[List.getElem?_eq_none (by lia:zs.length≤i)]
  rw[e5];have s8:au H4 (upd H4 b5 (.lst ((zs.take 5).map V.str))):=YV MB;have YK:=s8 _ _ VX;refine⟨_,rfl,n,_,0,_,rfl,rfl, .of YK,Y' (j:=0),_,sa,b5,zs.take 5,rfl,ae,by simp;lia,fun z hz=>hw z (List.mem_of_mem_take hz),hn.sublist (List.take_sublist ..),h1.1,h1.2,fun H6 l us fs s9 hl VY T6 g6=>?_⟩;have sA:=(s7.trans s8).trans s9;refine⟨aE Xs,fun r hr=>?_⟩;have sB:=au.upd (o:= .lst [.ref x, .ref y, .ref n, .ref l]) hr;have sC:=s9.trans sB;refine q _ r ⟨xs,ys,sa,ou,iN,le,fs⟩ x y n l us (sA.trans sB) (sA.free hr) ⟨ae,?_,?_,?_,sB _ _ VY,T6.same sB⟩ ⟨by show xs.length≤_;lia,by show ys.length≤_;lia,g6,h1,h2,h3,h4⟩
  ·exact sC _ _ (s8 _ _ (s6 _ _ (s4 _ _ we)))
  ·exact sC _ _ (s8 _ _ (s6 _ _ YH))
  ·exact sC _ _ (s8 _ _ VX)
theorem i5:aL ["_law_x","_law_y","_law_same","_law_near_here","_law_old","_law_new","_law_price"] ["_law_x","_law_y","_law_same","_law_near_here"] (av lZ):=⟨rfl,rfl,rfl,by decide+kernel,rfl,by decide+kernel,by decide+kernel⟩
include T in
theorem xE{f:Addr}{fd:FuncData}(F:jy K "_law_pair" "_law_pair" lZ f fd):a8 P w K mg base (cV P w) true 1 f fd ["_law_x","_law_y","_law_same","_law_near_here"] tJ:=by
 refine F.gk i5 Y_ (fun bR A outer s H vs Q E hr h hX=>?_)
 ·obtain⟨x,y,same,l,xs,fs,rfl,_⟩:=h;rfl
 ·obtain⟨x,y,same,l,xs,fs,rfl,hl,T1,q⟩:=h;refine⟨_,(ZP (Δ (ZQ jg Y0 (pv 1)) (ZO (Z9 Y9)) aP) (ZP (ZI (Θ K (pv 3)) (θ K (3) (by exact rfl) (Ν (Zy (4) i5.nd) (Ν (Zy (5) i5.nd) (Ν (Zy (6) i5.nd) gf)))) (ZO (Δ (@PW.pt _ _ _ (@pw_and _ _ _ _ _ _ _ (ZQ jg (pv 4) (pv 0)) (@pw_and1 _ _ _ _ (ZQ jg (pv 5) (pv 1))))) (ZO (Z9 (ZH cx Y9 (pv 6)))) aP))) (ZO (Z9 jW)))),?_⟩;refine⟨_,rfl,_,rfl,rfl,_,rfl,?_⟩;refine aX (fun h=>?_) (fun h=>?_)
  ·have h:x=y:=by simpa using h
   rw[show dj same fs x y=some same by simp[dj,h]]at q;exact⟨_,rfl,q⟩
  have h:¬x=y:=by simpa using h
  refine⟨_,rfl,l,rfl,⟨_, .of hl⟩,?_⟩;refine bG (xs:=xs) (fun i σ H'=>(∃u1 u2 u3,σ=[sS x,sS y,sI same,sR l,u1,u2,u3])∧H'=H∧∀f∈fs.take i,¬(f.1=x∧f.2.1=y)) ⟨⟨_,_,_,rfl⟩,rfl,XU⟩ ?_ ?_ ?_
  ·rintro i σ H' _ ⟨_,rfl,_⟩;exact .of hl
  ·rintro i v σ H' hv ⟨⟨u1,u2,u3,rfl⟩,rfl,C_⟩;have hi:i<fs.length:=by rw[←T1.1];exact(ZF hv).1
   have hf:fs[i]?=some fs[i]:=by simp[hi]
   generalize fs[i]=f0 at hf;obtain⟨t,wc,r_⟩:=T1.2 i f0 hf;rw[hv]at wc;cases wc;obtain⟨x0,y0,p0⟩:=f0;refine⟨t,_,rfl, .of r_,rfl,_,_,rfl,_,_,rfl,_,_,rfl,rfl,?_⟩;have Qy:¬(x0=x∧y0=y)→∀f∈fs.take (i+1),¬(f.1=x∧f.2.1=y):=fun eJ f VZ=>by
    rw[List.take_succ,hf]at VZ;rcases List.mem_append.mp VZ with h|h
    ·exact C_ f h
    ·have h:f=(x0,y0,p0):=by simpa using h
     rw[h];exact eJ
   refine⟨_,rfl,_,rfl,rfl,_,rfl,?_⟩;refine aX (fun hh=>?_) (fun hh=>?_)
   ·have AI:x0=x:=by simpa using hh
    refine⟨_,rfl,_,rfl,rfl,_,rfl,?_⟩;refine aX (fun hh=>?_) (fun hh=>?_)
    ·have gU:y0=y:=by simpa using hh
     have e:d7 fs x y=some p0:=rD hf C_ ⟨AI,gU⟩;rw[show dj same fs x y=some (same-p0) by simp[dj,h,e]]at q;exact⟨_,rfl,_,rfl,_,_,rfl,rfl,q⟩
    ·have gU:¬y0=y:=by simpa using hh
     exact⟨⟨_,_,_,rfl⟩,rfl,Qy fun z=>gU z.2⟩
   ·have AI:¬x0=x:=by simpa using hh
    refine fQ ?_;exact⟨⟨_,_,_,rfl⟩,rfl,Qy fun z=>AI z.1⟩
  ·rintro σ H' ⟨⟨u1,u2,u3,rfl⟩,rfl,C_⟩;rw[T1.1,List.take_length]at C_;have e:d7 fs x y=none:=EV C_;rw[show dj same fs x y=none by simp[dj,h,e]]at q;exact q
variable(bo:bJ P w K mg base true 1 "_law_pair" ["_law_x","_law_y","_law_same","_law_near_here"] tJ)
theorem cL:aL ["_law_case_here","_law_cell","_law_way","_law_rest","_law_i","_law_j","_law_gain","_law_fits"] ["_law_case_here","_law_cell"] (av iV):=⟨rfl,rfl,rfl,by decide+kernel,rfl,by decide+kernel,by decide+kernel⟩
include T bo in
theorem u9{f:Addr}{fd:FuncData}(F:jy K "_law_drawn" "_law_drawn" iV f fd):a8 P w K mg base (cV P w) true 2 f fd ["_law_case_here","_law_cell"] qx:=by
 refine F.gk cL Y_ (fun bR A outer s H vs Q E hr h hX=>?_)
 ·obtain⟨a,k,c,f,g,m,l,us,rfl,_⟩:=h;rfl
 ·obtain⟨a,k,c,x1,x2,m,l,us,rfl,C1,hx,hy,q⟩:=h;have hu:=hr.units;have Il:(A.deeper (Ψ "_law_drawn" (av iV) f bR)).units<cLine:=by lia
  have lx:(c.xs.map V.str).length=c.xs.length:=List.length_map ..;have ly:(c.ys.map V.str).length=c.ys.length:=List.length_map ..;refine⟨_,(ZP (Zx (2) cL.nd (Η ai)) (ZP (Zx (3) cL.nd Y4) (ZP (ZX hX.own Ζ (Zy (4) cL.nd) (ZO (ZX hX.own Ζ (Zy (5) cL.nd) (ZP (Zx (6) cL.nd (Zz bo aQ (ZE (ZK (aq K) (pv 4)) (ZV (ZK (aq K) (pv 5)))))) (ZR (Zx (7) cL.nd (@Bo _ _ _ _ _ _ _ (@d6 _ _ _ _ _ _ _ _ (rE K Il) (pv 2) (Η ai) (aT _)) (@kI _ _ _ _ _ (@sW _ _ _ _ _ _ _ (@d6 _ _ _ _ _ _ _ _ jD (ZT (bj K) (ZC Y9 (@lu _ _ _ _ _ _ iF af)) af) (pv 4) (aT _)) (@kI _ _ _ _ _ (@d6 _ _ _ _ _ _ _ _ jD (ZT (bj K) (ZC Y9 (@lu _ _ _ _ _ _ iF af)) af) (pv 5) (aT _))))))) (ZO (Δ (@PW.pt _ _ _ (@pw_and _ _ _ _ _ _ _ (Z' (pv 7)) (@pw_and1 _ _ _ _ (ZN (@my _ _ _ _ _ (pv 6)))))) (ZR (Δ (ZQ jg (ZH bM (pv 3) af) af) (ZO (Ε (ZJ K PySem.F.slot_list_append PySem.F.type_list_append bL Y9 (ZA (@e8 _ _ _ _ _ (ZE (pv 4) (ZA (pv 5)))))))) aP) (ZO (Zx (3) cL.nd (ZH dI (pv 3) af)))) aP)))) (by intro _;rfl))) (by intro _;rfl)) (ZO (Z9 Y9))))),?_⟩;refine⟨aE Xs,fun b hb=>?_⟩;refine⟨_,rfl,?_⟩;have C2:=C1.keep (au.upd (o:= .lst []) hb);refine⟨_,rfl,a,_,0,_,rfl,rfl, .of C2.ca,Y' (j:=0),x1,_,rfl, .inl (.of C2.fi),((c.xs.map V.str).length:Int),rfl,by lia,by lia,?_⟩;refine cC (fun i σ H'=>(∃(r:Int)(u1 u2 u3 u4:Option V),σ=[sR a,sI k,sR b,sI r,u1,u2,u3,u4])∧au H H'∧∃xs ps,H' b=some (.lst xs)∧eF H' xs ps∧fe c ps ps.length∧ps.length≤i*40) ⟨⟨_,_,_,_,_,rfl⟩,YV hb,[],[],ae, .nil,fun k hk=>by simp at hk,XU⟩ ?_ ?_
  ·rintro i σ H' hi ⟨⟨r,u1,u2,u3,u4,rfl⟩,s1,xs,ps,gU,P1,G1,L1⟩;have hi:i<c.xs.length:=by lia
   have C3:=C1.keep s1;refine⟨_,rfl,a,_,1,_,rfl,rfl, .of C3.ca,Y' (j:=1),x2,_,rfl, .inl (.of C3.se),((c.ys.map V.str).length:Int),rfl,by lia,by lia,?_⟩;refine cC (fun j σ H'=>(∃(r:Int)(u2 u3 u4:Option V),σ=[sR a,sI k,sR b,sI r,sI ((0+(i:Int))),u2,u3,u4])∧au H H'∧∃xs ps,H' b=some (.lst xs)∧eF H' xs ps∧fe c ps ps.length∧ps.length≤i*40+j) ⟨⟨_,_,_,_,rfl⟩,s1,xs,ps,gU,P1,G1,L1⟩ ?_ ?_
   ·clear s1 gU P1 G1 L1 xs ps u1 u2 u3 u4 r C3 H';rintro j σ H' hj ⟨⟨r,u2,u3,u4,rfl⟩,s1,xs,ps,gU,P1,G1,L1⟩;have hj:j<c.ys.length:=by lia
    have C3:=C1.keep s1;obtain⟨x,kR,we⟩:=rF (xs:=c.xs) (i:=0+(i:Int)) (by lia) (by lia);obtain⟨y,DW,Ck⟩:=rF (xs:=c.ys) (i:=0+(j:Int)) (by lia) (by lia);have ep:c.pw (0+(i:Int),0+(j:Int))=dj c.same c.fs x y:=Case.pw_of kR DW;refine⟨_,rfl,a,_,0,_,rfl,rfl, .of C3.ca,Y' (j:=0),_,rfl,x1,_,_,_,rfl,rfl, .of C3.fi,we,_,rfl,a,_,1,_,rfl,rfl, .of C3.ca,Y' (j:=1),_,rfl,x2,_,_,_,rfl,rfl, .of C3.se,Ck,_,rfl,a,_,2,_,rfl,rfl, .of C3.ca,Y' (j:=2),m,_,0,_,rfl,rfl, .of C3.nu,Y' (j:=0),_,rfl,a,_,3,_,rfl,rfl, .of C3.ca,Y' (j:=3),x,y,c.same,l,us,c.fs,rfl,C3.ne,C3.tr,?_⟩;rw[←ep];have CL:xs.length≤1640∧ps.length≤1640:=by
     have:=P1.1;have:i*40≤40*40:=Nat.mul_le_mul_right _ (by lia)
     lia
    have out:∃xs ps,H' b=some (.lst xs)∧eF H' xs ps∧fe c ps ps.length∧ps.length≤i*40+(j+1):=⟨xs,ps,gU,P1,G1,by lia⟩
    refine⟨fun σ H2=>∃(b1:Bool),σ=[sR a,sI k,sR b,sI r,sI ((0+(i:Int))),sI ((0+(j:Int))),some (bB (c.pw (0+(i:Int),0+(j:Int)))),some (.bl b1)]∧au H' H2∧(b1=true→ps=[]∨stepOk (pr ps (ps.length-1)) (0+(i:Int),0+(j:Int))=true),?_,?_⟩
    ·refine⟨_,rfl,aE Xs,fun pn Iw=>⟨b,pn,xs,[],(fun _=>true),rfl,rfl, .of (au.upd Iw _ _ gU), .of ae,(fun j x y h1 h2=>by simp at h2),_,rfl,?_⟩⟩;have s2:au H' (upd H' pn (.lst [])):=YV Iw;have P2:=P1.same s2;have rJ:=s2 _ _ gU;refine aX (fun h1=>?_) (fun h1=>?_)
     ·refine⟨_,rfl,s2,fun _=> .inl ?_⟩;simp at h1;have:=P1.1;rw[h1]at this;exact List.length_eq_zero_iff.mp this.symm
     ·have eJ:xs≠[]:=by
       intro z;subst z;simp at h1
      have hlen:=P1.1;have Pe:0<ps.length:=by
       have:=List.length_pos_iff.mpr eJ
       lia
      obtain⟨t,wc,r_⟩:=P2.Jg (k:=ps.length-1) (by lia);have zU:rV xs (-1)=some (.ref t):=by
       have e:xs=xs.take (ps.length-1)++[V.ref t]:=by
        apply List.ext_getElem?;intro n;by_cases hn:n<ps.length-1
        ·rw[Ι (by rw[List.length_take];lia),List.getElem?_take,Z1 hn]
        ·rw[Ο (by rw[List.length_take];lia),List.length_take];by_cases vF:n=ps.length-1
         ·subst vF;rw[wc];have:ps.length-1-min (ps.length-1) xs.length=0:=by lia
          rw[this];rfl
         ·rw[List.getElem?_eq_none IL,List.getElem?_eq_none Ξ]
       rw[e];exact tw _ _
      refine⟨_,rfl,_,rfl,b,_,_,_,rfl,rfl, .of rJ,zU,t,_,0,_,rfl,rfl, .of r_,Y' (j:=0),_,rfl,_,_,rfl,rfl,_,rfl,?_⟩;refine aX (fun h2=>?_) (fun h2=>?_)
      ·refine⟨_,rfl,_,rfl,b,_,_,_,rfl,rfl, .of rJ,zU,t,_,1,_,rfl,rfl, .of r_,Y' (j:=1),_,rfl,_,_,rfl,rfl,?_⟩;refine⟨_,rfl,s2,fun h3=> .inr ?_⟩;rw[stepOk,h2,h3];rfl
      ·exact⟨_,rfl,s2,fun h3=>absurd h3 Xs⟩
    rintro σ H2 ⟨b1,rfl,s2,Ku⟩;have s3:=s1.trans s2;refine⟨_,rfl,_,rfl,?_⟩;refine aX (fun h1=>?_) (fun h1=>?_)
    rotate_left
    ·refine fQ ?_;exact⟨⟨_,_,_,_,rfl⟩,s3,xs,ps,s2 _ _ gU,P1.same s2,G1,by lia⟩
    have h1:b1=true:=h1;refine⟨_,rfl,_,rfl,?_⟩;refine aX (fun h2=>?_) (fun h2=>?_)
    rotate_left
    ·exact⟨⟨_,_,_,_,rfl⟩,s3,xs,ps,s2 _ _ gU,P1.same s2,G1,by lia⟩
    have h2:(c.pw (0+(i:Int),0+(j:Int))).isSome=true:=by
     cases e:c.pw (0+(i:Int),0+(j:Int))with
     |none=>rw[e]at h2;simp[bB]at h2
     |some w=>rfl
    refine⟨fun σ H3=>σ=[sR a,sI k,sR b,sI r,sI ((0+(i:Int))),sI ((0+(j:Int))),some (bB (c.pw (0+(i:Int),0+(j:Int)))),some (.bl b1)]∧au H H3∧∃xs ps,H3 b=some (.lst xs)∧eF H3 xs ps∧fe c ps ps.length∧ps.length≤i*40+(j+1),?_,?_⟩
    ·refine⟨_,rfl,_,_,rfl,rfl,(show(0:Int)<2 by decide),rfl,_,rfl,?_⟩;refine aX (fun h3=>?_) (fun h3=>?_)
     rotate_left
     ·exact⟨rfl,s3,xs,ps,s2 _ _ gU,P1.same s2,G1,by lia⟩
     refine⟨_,rfl, .inl ⟨rfl,_, .of (s2 _ _ gU)⟩,_,rfl,_,rfl,aE Xs,fun t ht=>⟨b,xs,_,rfl,rfl,au.upd ht _ _ (s2 _ _ gU),ba IL,rfl,(s3.trans (YV ht)).eL hb,_,ps++[(0+(i:Int),0+(j:Int))],ae,?_,?_,by simp;lia⟩⟩
     ·have P4:eF (upd H2 t (.tup (j_ (0+(i:Int),0+(j:Int))))) (xs++[.ref t]) (ps++[(0+(i:Int),0+(j:Int))]):=((P1.same s2).same (YV ht)).snoc ae;exact P4.cF (dW.lst (au.upd ht _ _ (s2 _ _ gU)))
     ·rw[List.length_append];exact vV G1 h2 (Ku h1)
    rintro σ H3 ⟨rfl,s4,YL,YM,My,P3,G3,L3⟩;exact⟨_,rfl,_,_,rfl,rfl,⟨WD,WD⟩,⟨_,_,_,_,rfl⟩,s4,YL,YM,My,P3,G3,L3⟩
   ·rintro σ H2 ⟨⟨r2,v2,v3,v4,rfl⟩,s2,Bc,T8,rJ,P2,G2,L2⟩;exact⟨⟨_,_,_,_,_,rfl⟩,s2,Bc,T8,rJ,P2,G2,by lia⟩
  ·rintro σ H2 ⟨⟨r2,v1,v2,v3,v4,rfl⟩,s2,Bc,T8,rJ,P2,G2,L2⟩;refine⟨_,rfl,q H2 b Bc T8 s2 hb rJ P2 ?_ G2⟩;have:((c.xs.map V.str).length:Int).toNat≤40:=by lia
   have:=Nat.mul_le_mul_right 40 this
   lia
theorem cq:aL ["_law_case_here","_law_way","_law_total","_law_k","_law_i","_law_j","_law_gain"] ["_law_case_here","_law_way"] (av kZ):=⟨rfl,rfl,rfl,by decide+kernel,rfl,by decide+kernel,by decide+kernel⟩
include T bo in
theorem u_{f:Addr}{fd:FuncData}(F:jy K "_law_worth" "_law_worth" kZ f fd):a8 P w K mg base (cV P w) true 2 f fd ["_law_case_here","_law_way"] qA:=by
 refine F.gk cq Y_ (fun bR A outer s H vs Q E hr h hX=>?_)
 ·obtain⟨a,w,c,f,g,m,l,us,ws,ps,rfl,_⟩:=h;rfl
 ·obtain⟨a,w,c,x1,x2,m,l,us,ws,ps,rfl,C1,no,hw,P1,hlen,Ii,q⟩:=h;obtain⟨eJ,An⟩:=kO Ii;have Pe:0<ps.length:=List.length_pos_iff.mpr eJ;have DB:=P1.1;have l6:=C1.ca;have zV:=C1.nu;have nO:=no.out;have nI:=no.into;refine⟨_,(ZP (Zx (2) cq.nd af) (ZP (ZI (@cO _ _ _ _ _ _ (by exact rfl) T.dh (ZA (ZD (aK K) T.cK (ZA Y4))) (YW)) (Zy (3) cq.nd) (ZP (@zX _ _ _ _ _ _ (ZC Y4 (pv 3)) (θ K (2) (by exact rfl) (Ν (Zy (4) cq.nd) (Ν (Zy (5) cq.nd) gf))) (YW) (YW) (YW)) (ZP (Zx (6) cq.nd (Zz bo aQ (ZE (ZK (aq K) (pv 4)) (ZV (ZK (aq K) (pv 5)))))) (ZP (Δ (ZN (@lK _ _ _ _ _ (pv 6))) (ZO (Z9 jW)) aP) (ZP (Zx (2) cq.nd (ZH bA Y9 (pv 6))) (ZO (Δ (ZQ lz (pv 3) af) (ZP (Zx (2) cq.nd (ZH cx Y9 (ZH nz (ZK (aq K) af) (ZH cx (ZH cx (pv 4) (ZT (bj K) (ZC Y4 (ZH cx (pv 3) af)) af)) af)))) (ZO (Zx (2) cq.nd (ZH cx Y9 (ZH nz (ZK (aq K) af) (ZH cx (ZH cx (pv 5) (ZT (bj K) (ZC Y4 (ZH cx (pv 3) af)) af)) af)))))) aP))))))) (ZO (Z9 Y9)))),?_⟩;refine⟨_,rfl,w,_,rfl, .inl (.of hw),(ws.length:Int),rfl,by lia,by lia,?_⟩;refine cC (fun i σ H'=>(∃(u1 u2 u3 u4:Option V),σ=[sR a,sR w,sI ((if i=0 then 0 else dJ c ps (i-1))),u1,u2,u3,u4])∧H'=H) ⟨⟨_,_,_,_,rfl⟩,rfl⟩ ?_ ?_
  ·rintro i σ H' hi ⟨⟨u1,u2,u3,u4,rfl⟩,e0⟩;subst e0;have hi:i<ps.length:=by lia
   obtain⟨tt,wc,r_⟩:=P1.Jg hi;obtain⟨wo,QS⟩:=Hq (An i hi);obtain⟨b1,b2⟩:=c.pw_in QS;obtain⟨x,kR,we⟩:=rF b1.1 b1.2;obtain⟨y,DW,Ck⟩:=rF b2.1 b2.2;have ep:c.pw (pr ps i)=dj c.same c.fs x y:=Case.pw_of kR DW;refine⟨_,rfl,_,rfl,w,_,_,_,rfl,rfl, .of hw,UL wc,tt,_,rfl, .of r_,rfl,_,_,rfl,_,_,rfl,rfl,?_⟩;refine⟨_,rfl,a,_,0,_,rfl,rfl, .of l6,Y' (j:=0),_,rfl,x1,_,_,_,rfl,rfl, .of C1.fi,we,_,rfl,a,_,1,_,rfl,rfl, .of l6,Y' (j:=1),_,rfl,x2,_,_,_,rfl,rfl, .of C1.se,Ck,_,rfl,a,_,2,_,rfl,rfl, .of l6,Y' (j:=2),m,_,0,_,rfl,rfl, .of zV,Y' (j:=0),_,rfl,a,_,3,_,rfl,rfl, .of l6,Y' (j:=3),x,y,c.same,l,us,c.fs,rfl,C1.ne,C1.tr,?_⟩;rw[←ep,QS];refine⟨_,rfl,_,rfl,?_⟩;refine aX (fun hh=>Y7 hh (by simp[bB])) (fun _=>?_);refine⟨_,rfl,_,rfl,_,_,rfl,rfl,?_⟩;refine⟨_,rfl,_,_,rfl,rfl,_,rfl,?_⟩;refine aX (fun h2=>?_) (fun h2=>?_)
   ·have h2:0<i:=by
     have:(0:Int)<0+(i:Int):=by simpa using h2
     lia
    obtain⟨j,rfl⟩:∃j,i=j+1:=⟨i-1,by lia⟩
    have e1:((0+((j+1:Nat):Int))-1)=((j:Nat):Int):=by lia
    obtain⟨t2,OJ,FU⟩:=P1.Jg (show j<ps.length by lia);have zU:rV ws ((0+((j+1:Nat):Int))-1)=some (.ref t2):=by rw[e1];exact ar OJ
    refine⟨_,rfl,_,rfl,a,_,2,_,rfl,rfl, .of l6,Y' (j:=2),m,_,1,_,rfl,rfl, .of zV,Y' (j:=1),_,rfl,_,rfl,_,rfl,_,_,rfl,rfl,w,_,_,_,rfl,rfl, .of hw,zU,t2,_,0,_,rfl,rfl, .of FU,Y' (j:=0),_,_,rfl,rfl,_,_,rfl,rfl,_,_,rfl,rfl, .inl ⟨by lia,by lia⟩,_,_,rfl,rfl,?_⟩;refine⟨_,rfl,_,rfl,a,_,2,_,rfl,rfl, .of l6,Y' (j:=2),m,_,2,_,rfl,rfl, .of zV,Y' (j:=2),_,rfl,_,rfl,_,rfl,_,_,rfl,rfl,w,_,_,_,rfl,rfl, .of hw,zU,t2,_,1,_,rfl,rfl, .of FU,Y' (j:=1),_,_,rfl,rfl,_,_,rfl,rfl,_,_,rfl,rfl, .inl ⟨by lia,by lia⟩,_,_,rfl,rfl,⟨some (.int (0+((j+1:Nat):Int))),some (.int (pr ps (j+1)).1),some (.int (pr ps (j+1)).2),some (.int wo),?_⟩,rfl⟩;have:dJ c ps (j+1)=dJ c ps j+wo-c.out*((pr ps (j+1)).1-(pr ps j).1-1)-c.into*((pr ps (j+1)).2-(pr ps j).2-1):=by
     simp only[dJ,QS,Case.gap,Option.getD_some]
     lia
    simp only[Nat.add_sub_cancel,Nat.succ_ne_zero,if_false,this];rfl
   ·have h2:i=0:=by
     have:¬(0:Int)<0+(i:Int):=by simpa using h2
     lia
    subst h2;refine⟨⟨some (.int (0+((0:Nat):Int))),some (.int (pr ps 0).1),some (.int (pr ps 0).2),some (.int wo),?_⟩,rfl⟩;have:dJ c ps 0=0+wo:=by simp[dJ,QS]
    simp only[Nat.zero_add,Nat.sub_self,Nat.one_ne_zero,if_false,this];rfl
  ·rintro σ H' ⟨⟨u1,u2,u3,u4,rfl⟩,rfl⟩;have e:((ws.length:Nat):Int).toNat=ps.length:=by lia
   rw[e,ZY IL];exact⟨_,rfl,q⟩
variable(cJ:bJ P w K mg base true 1 "_law_whole" ["_law_found"] tH)
theorem nh:aL ["_law_found","_law_pair_here"] ["_law_found"] (av k8):=⟨rfl,rfl,rfl,by decide+kernel,rfl,by decide+kernel,by decide+kernel⟩
include T cJ in
theorem va{f:Addr}{fd:FuncData}(F:jy K "_law_pairs" "_law_pairs" k8 f fd):a8 P w K mg base (cV P w) true 2 f fd ["_law_found"] qz:=by
 refine F.gk nh Y_ (fun bR A outer s H vs Q E hr h hX=>?_)
 ·obtain⟨a,us,ps,rfl,_⟩:=h;rfl
 ·obtain⟨a,us,ps,rfl,ha,P1,q⟩:=h;refine⟨_,(ZP (ZW (@cU _ _ _ _ (Z' (Z6 (ja K) (by exact rfl) T.fB PyProof.Rows.Boot.«isinstance» (ZE Y0 (ZA (@mw _ _ (.ty "list") _ _ (by exact rfl) T.nF PyProof.Rows.Boot.«list» Ζ (WD) (WD))))))) aP) (ZP (ZI (Θ K Y0) (Zy (1) nh.nd) (ZP (ZW (@PW.pt _ _ _ (Ω (@cU _ _ _ _ (Z' (Z6 (ja K) (by exact rfl) T.fB PyProof.Rows.Boot.«isinstance» (ZE Y4 (ZA (@mw _ _ (.ty "tuple") _ _ (by exact rfl) T.Ha PyProof.Rows.Boot.«tuple» Ζ (WD) (WD))))))) (@pw_or1 _ _ _ _ (ZQ Bu (ZD (aK K) T.cK (ZA Y4)) af)))) aP) (ZO (ZW (@PW.pt _ _ _ (Ω (@cU _ _ _ _ (Z' (Zz cJ aQ (ZA (ZT (bj K) (pv 1) af))))) (@pw_or1 _ _ _ _ (@cU _ _ _ _ (Z' (Zz cJ aQ (ZA (ZT (bj K) (pv 1) af)))))))) aP)))) (ZO (Z9 de)))),?_⟩;refine⟨_,rfl,_,_,_,true,_,rfl,rfl, .lst ha,rfl,_,rfl,?_⟩;refine fQ ?_;refine⟨_,rfl,a,rfl,⟨_, .of ha⟩,?_⟩;refine bG (xs:=us) (fun i σ H'=>(∃u,σ=[sR a,u])∧H'=H) ⟨⟨_,rfl⟩,rfl⟩ ?_ ?_ ?_
  ·rintro i σ H' _ ⟨_,rfl⟩;exact .of ha
  ·rintro i v σ H' hv ⟨⟨u,rfl⟩,rfl⟩;have hi:i<ps.length:=by rw[←P1.1];exact(ZF hv).1
   obtain⟨t,wc,r_⟩:=P1.Jg hi;rw[hv]at wc;cases wc;refine⟨_,rfl,_,_,_,true,_,rfl,rfl, .tup r_,rfl,_,rfl,?_⟩;refine fQ ?_;refine⟨_,rfl,t,_,rfl, .inr (.of r_),rfl,_,rfl,?_⟩;refine aX (fun hh=>absurd hh Xs) (fun _=>?_);refine⟨_,rfl,t,_,0,_,rfl,rfl, .of r_,Y' (j:=0),_,rfl,_,rfl,?_⟩;refine fQ ?_;refine⟨_,rfl,t,_,1,_,rfl,rfl, .of r_,Y' (j:=1),_,rfl,_,rfl,?_⟩;refine fQ ?_;exact⟨⟨_,rfl⟩,rfl⟩
  ·rintro σ H' ⟨⟨u,rfl⟩,rfl⟩;exact q
variable(pB:m6 P w K mg base true 5 "Terms" aV ["self","same","out","into","least","part","near"] [] (sM aV ed cZ))
theorem ni:aL ["_law_case_here","_law_n"] ["_law_case_here"] (av k_):=⟨rfl,rfl,rfl,by decide+kernel,rfl,by decide+kernel,by decide+kernel⟩
include T pB in
theorem vc{f:Addr}{fd:FuncData}(F:jy K "_law_terms" "_law_terms" k_ f fd):a8 P w K mg base (cV P w) true 7 f fd ["_law_case_here"] (qy aV):=by
 refine F.gk ni Y_ (fun bR A outer s H vs Q E hr h hX=>?_)
 ·obtain⟨a,c,f,g,m,l,us,most,rfl,_⟩:=h;rfl
 ·obtain⟨a,c,x1,x2,m,l,us,most,rfl,C1,ok,q⟩:=h;refine⟨_,(ZP (Zx (1) ni.nd (ZC Y0 af)) (ZO (Z9 (@sL _ _ _ _ _ _ _ _ _ _ _ _ _ _ pB (hr.mono (WD)) hX.pass (ZE (ZC Y4 af) (ZE (ZC Y4 af) (ZE (ZC Y4 af) (ZE (ZC Y4 af) (ZE af (ZA (ο (hJ K) (by exact rfl) T.nF PyProof.Rows.Boot.«list» (ZA (ZC Y0 af))))))))) (YW) (WD) (YW) (YW))))),?_⟩;have zV:=C1.nu;have l6:=C1.ca;refine⟨_,rfl,a,_,2,_,rfl,rfl, .of l6,Y' (j:=2),?_⟩;refine⟨_,rfl,m,_,0,_,rfl,rfl, .of zV,Y' (j:=0),_,rfl,m,_,1,_,rfl,rfl, .of zV,Y' (j:=1),_,rfl,m,_,2,_,rfl,rfl, .of zV,Y' (j:=2),_,rfl,m,_,3,_,rfl,rfl, .of zV,Y' (j:=3),_,rfl,a,_,3,_,rfl,rfl, .of l6,Y' (j:=3),l,us,rfl, .inl (.of C1.ne),fun h hh=>fun x dx hx EW eJ=>?_⟩;have s5:au (upd H h (.lst us)) (upd (upd (upd H h (.lst us)) dx (.own x)) x (.ins aV dx [])):=(YV EW).eL hx;have s4:au H (upd H h (.lst us)):=YV hh;refine⟨x,dx,⟨c.same,c.out,c.into,c.least,50⟩, .ref h,us,c.fs,rfl,ae,by rw[ao eJ];exact ae, .inr ⟨h,rfl,s5 _ _ ae,C1.tr.same (s4.trans s5)⟩,Aw ok.good,?_⟩;have YN:jk ⟨c.same,c.out,c.into,c.least,50⟩=true:=by
   have:=ok.same;have:=ok.out;have:=ok.into;have:=ok.least;simp[jk,inR]
   lia
  rw[Z1 YN,Z1 ok.good];intro H6 l2 d sb T6 VY aaK;exact⟨rfl,q H6 x (s4.trans (SameBut.Ax hx EW sb)) ⟨_,dx,l2,d,us,T6,rfl,rfl,rfl,rfl⟩⟩
theorem dF:aL ["_law_case_here","_law_many","_law_x","_law_y","_law_each","_law_same","_law_least"] ["_law_case_here"] (av l0):=⟨rfl,rfl,rfl,by decide+kernel,rfl,by decide+kernel,by decide+kernel⟩
include T bo in
theorem xF{f:Addr}{fd:FuncData}(F:jy K "_law_calm" "_law_calm" l0 f fd):a8 P w K mg base (cV P w) true 2 f fd ["_law_case_here"] xu:=by
 refine F.gk dF Y_ (fun bR A outer s H vs Q E hr h hX=>?_)
 ·obtain⟨a,c,f,g,m,l,us,rfl,_⟩:=h;rfl
 ·obtain⟨a,c,x1,x2,m,l,us,rfl,C1,ok,q⟩:=h;refine⟨_,(ZR (Zx (1) dF.nd af) (ZR (ZI (Θ K (ZC Y0 af)) (Zy (2) dF.nd) (ZO (ZI (Θ K (ZC Y0 af)) (Zy (3) dF.nd) (ZO (Zx (1) dF.nd (ZH bA Y4 (ο qk Ζ T.BJ PyProof.Rows.Boot.«int» (ZA (@zW _ _ _ _ _ _ (@my _ _ _ _ _ (Zz bo aQ (ZE Y9 (ZV (pv 3))))) (by first|exact bp _ (WD) (WD)|rfl)))))))))) (ZR (Zx (4) dF.nd (ZH bA (ZH dI Y4 af) af)) (ZR (Zx (5) dF.nd (Z6 (qj rfl) (by exact rfl) T.EG PyProof.Rows.Boot.«min» (ZE (ZK (aq K) af) (ZA (ZH dI af (pv 4)))))) (ZR (Zx (6) dF.nd (Z6 (Cy rfl) (by exact rfl) T.Jc PyProof.Rows.Boot.«max» (ZE (ZK (aq K) af) (ZA (ZH bA (ZH nz (ZH cx (pv 4) af) (pv 5)) af))))) (ZO (Z9 (Η (ZE (ZC Y0 af) (ZE (ZC Y0 af) (ω (Η (ZE (pv 5) (ZE (ZK (aq K) af) (ZE (ZK (aq K) af) (ZA (pv 6))))))))))))))))),?_⟩;have l6:=C1.ca;have zV:=C1.nu;have lx:(c.xs.map V.str).length=c.xs.length:=List.length_map ..;have ly:(c.ys.map V.str).length=c.ys.length:=List.length_map ..;refine⟨fun σ H1=>H1=H∧σ=[sR a,sI 0,none,none,none,none,none],⟨rfl,rfl⟩,?_⟩;rintro σ H1 ⟨rfl,rfl⟩;refine⟨fun σ H2=>H2=H1∧∃u v,σ=[sR a,sI (manyN c c.xs.length:Nat),u,v,none,none,none],?_,?_⟩
  ·refine⟨_,rfl,a,_,0,_,rfl,rfl, .of l6,Y' (j:=0),x1,rfl,⟨_, .of C1.fi⟩,?_⟩;refine bG (xs:=c.xs.map V.str) (fun i σ H2=>H2=H1∧∃u v,σ=[sR a,sI (manyN c i:Nat),u,v,none,none,none]) ⟨rfl,_,_,rfl⟩ ?_ ?_ ?_
   ·rintro i σ H2 _ ⟨rfl,_⟩;exact .of C1.fi
   ·rintro i v σ H2 hv ⟨rfl,u1,u2,rfl⟩;obtain⟨wx,QN,rfl⟩:=mF hv;refine⟨_,rfl,a,_,1,_,rfl,rfl, .of l6,Y' (j:=1),x2,rfl,⟨_, .of C1.se⟩,?_⟩;refine bG (xs:=c.ys.map V.str) (fun j σ H3=>H3=H2∧∃v,σ=[sR a,sI (manyN c i+F1 c i j:Nat),sS wx,v,none,none,none]) ⟨rfl,_,rfl⟩ ?_ ?_ ?_
    ·rintro j σ H3 _ ⟨rfl,_⟩;exact .of C1.se
    ·rintro j v σ H3 LU ⟨rfl,u3,rfl⟩;obtain⟨wy,DY,rfl⟩:=mF LU;have Tj:c.pw (aR (i,j))=dj c.same c.fs wx wy:=Case.pw_of (by rw[show(aR (i,j)).1=(i:Int)from rfl,tK];exact QN) (by rw[show(aR (i,j)).2=(j:Int)from rfl,tK];exact DY);refine⟨_,rfl,_,rfl,_,rfl,_,rfl,a,_,2,_,rfl,rfl, .of l6,Y' (j:=2),m,_,0,_,rfl,rfl, .of zV,Y' (j:=0),_,rfl,a,_,3,_,rfl,rfl, .of l6,Y' (j:=3),wx,wy,c.same,l,us,c.fs,rfl,C1.ne,C1.tr, .inr ⟨_,rfl,_,_,rfl,rfl,rfl,some (.str wy),?_⟩⟩;rw[Dt,Tj];cases dj c.same c.fs wx wy<;>simp[bB,List.set]<;>lia
    ·rintro σ H3 ⟨rfl,u3,rfl⟩;rw[ly];exact⟨rfl,_,_,rfl⟩
   ·rintro σ H2 ⟨rfl,u1,u2,rfl⟩;rw[lx];exact⟨rfl,_,_,rfl⟩
  rintro σ H1 ⟨rfl,u,v,rfl⟩;have aaO:manyN c c.xs.length≤3600:=by
   have:=Cg c c.xs.length;have h2:=Nat.mul_le_mul ok.x ok.y
   lia
  have ee:((manyN c c.xs.length:Nat):Int)/21+1=(bV c:Int):=by unfold bV;lia
  have he:(1:Int)≤bV c∧(bV c:Int)≤172:=by unfold bV;lia
  refine⟨fun σ H2=>H2=H1∧σ=[sR a,sI (manyN c c.xs.length:Nat),u,v,sI (bV c),none,none],⟨_,rfl,_,_,rfl,rfl,⟨WD,WD⟩,_,_,rfl,rfl,rfl,by rw[ee];rfl⟩,?_⟩;rintro σ H1 ⟨rfl,rfl⟩;have es:(if 999999/(bV c:Int)<c.same then 999999/(bV c:Int)else c.same)=eR c:=by unfold eR;split<;>lia
  refine⟨fun σ H2=>H2=H1∧σ=[sR a,sI (manyN c c.xs.length:Nat),u,v,sI (bV c),sI (eR c),none],⟨_,rfl,a,_,2,_,rfl,rfl, .of l6,Y' (j:=2),m,_,0,_,rfl,rfl, .of zV,Y' (j:=0),_,rfl,_,_,rfl,rfl,⟨by lia,by lia⟩,_,_,rfl,rfl,by rw[es];rfl⟩,?_⟩;rintro σ H1 ⟨rfl,rfl⟩;have s1:1≤eR c∧eR c≤999999:=by
   have:=(Ci ok IL).same;exact this
  have el:(if ((bV c:Int)-1)*eR c+1>c.least then((bV c:Int)-1)*eR c+1 else c.least)=(cz c).least:=by show _=max c.least _;split<;>lia
  refine⟨fun σ H2=>H2=H1∧σ=[sR a,sI (manyN c c.xs.length:Nat),u,v,sI (bV c),sI (eR c),sI ((cz c).least)],⟨_,rfl,a,_,2,_,rfl,rfl, .of l6,Y' (j:=2),m,_,3,_,rfl,rfl, .of zV,Y' (j:=3),_,rfl,_,_,rfl,rfl,_,rfl,_,_,rfl,rfl, .inl ⟨by lia,by lia⟩,_,_,rfl,rfl,_,_,rfl,rfl,by rw[el];rfl⟩,?_⟩;rintro σ H1 ⟨rfl,rfl⟩;refine⟨_,rfl,a,_,0,_,rfl,rfl, .of l6,Y' (j:=0),_,rfl,a,_,1,_,rfl,rfl, .of l6,Y' (j:=1),_,rfl,_,rfl,a,_,2,_,rfl,rfl, .of l6,Y' (j:=2),m,_,1,_,rfl,rfl, .of zV,Y' (j:=1),_,rfl,a,_,2,_,rfl,rfl, .of l6,Y' (j:=2),m,_,2,_,rfl,rfl, .of zV,Y' (j:=2),_,rfl,aE Xs,fun m' I_=>?_⟩;have sm:=au.upd (o:= .lst [.int (eR c), .int c.out, .int c.into, .int (cz c).least]) I_;have T9:=sm _ _ l6;refine⟨_,rfl,a,_,3,_,rfl,rfl, .of T9,Y' (j:=3),aE Xs,fun b hb=>?_⟩;have sb:=au.upd (o:= .lst [.ref x1, .ref x2, .ref m', .ref l]) hb;have sA:=sm.trans sb;exact q _ b m' sA (sm.free hb) ae ⟨ae,sA _ _ C1.fi,sA _ _ C1.se,sb _ _ ae,sA _ _ C1.ne,C1.tr.same sA⟩
variable(gH:bJ P w K mg base true 2 "_law_pairs" ["_law_found"] qz)
theorem lD:aL ["_law_found","_law_told"] ["_law_found"] (av gA):=⟨rfl,rfl,rfl,by decide+kernel,rfl,by decide+kernel,by decide+kernel⟩
include T Fc cJ gH in
theorem so{f:Addr}{fd:FuncData}(F:jy K "_law_finding" "_law_finding" gA f fd):a8 P w K mg base (cV P w) true 3 f fd ["_law_found"] (ua ay):=by
 refine F.gk lD Y_ (fun bR A outer s H vs Q E hr h hX=>?_)
 ·obtain⟨y,P,d,dy,wy,rw,pr,fT,gT,rfl,_⟩:=h;rfl
 ·obtain⟨y,P,d,dy,wy,f9,pr,fT,gT,rfl,F,hl,eJ,q⟩:=h;have hu:=hr.units;have Il:(A.deeper (Ψ "_law_finding" (av gA) f bR)).units<cLine:=by lia
  refine⟨_,(ZP (ZW (@PW.pt _ _ _ (Ω (@cU _ _ _ _ (Z' (Zz cJ aQ (ZA (ZG K))))) (Ω (@cU _ _ _ _ (Z' (Zz gH aQ (ZA (ZG K))))) (@pw_or1 _ _ _ _ (@cU _ _ _ _ (Z' (Zz gH aQ (ZA (ZG K))))))))) aP) (ZP (ZW (@PW.pt _ _ _ (Ω (@cU _ _ _ _ (Z' (Z6 (ja K) (by exact rfl) T.fB PyProof.Rows.Boot.«isinstance» (ZE (ZG K) (ZA (@mw _ _ (.ty "list") _ _ (by exact rfl) T.nF PyProof.Rows.Boot.«list» Ζ (WD) (WD))))))) (Ω (ZQ Bu (ZD (aK K) T.cK (ZA (ZG K))) (ZD (aK K) T.cK (ZA (ZG K)))) (@pw_or1 _ _ _ _ (ZQ (rE K Il) (ZG K) (Η ai)))))) aP) (ZP (ZI (Θ K (ZG K)) (Zy (1) lD.nd) (ZO (ZW (@cU _ _ _ _ (Z' (Zz cJ aQ (ZA Y4)))) aP))) (ZO (Z9 de))))),?_⟩;have h1:fT≠[]:=fun z=>eJ (List.length_eq_zero_iff.mp (by rw[←F.pw.1,z];rfl))
  refine⟨_,rfl,y,ay,dy,_,_,rfl,F.ob,Fc.cl,Fc.worth,jn d.worth wy f9 pr,_,rfl,_,rfl,?_⟩;refine fQ ?_;refine⟨_,rfl,y,ay,dy,_,_,rfl,F.ob,Fc.cl,Fc.way,fS d.worth wy f9 pr,wy,fT,d.way,rfl,F.hw,F.pw,_,rfl,?_⟩;refine fQ ?_;refine⟨_,rfl,y,ay,dy,_,_,rfl,F.ob,Fc.cl,Fc.pairs,kn d.worth wy f9 pr,pr,gT,d.pairs,rfl,F.hp,F.pp,_,rfl,?_⟩;refine fQ ?_;refine⟨_,rfl,y,ay,dy,_,_,rfl,F.ob,Fc.cl,Fc.row,AR d.worth wy f9 pr,_,_,_,true,_,rfl,rfl, .lst F.hr,rfl,_,rfl,?_⟩;refine fQ ?_;refine⟨_,rfl,y,ay,dy,_,_,rfl,F.ob,Fc.cl,Fc.row,AR d.worth wy f9 pr,f9,_,rfl, .inl (.of F.hr),_,rfl,y,ay,dy,_,_,rfl,F.ob,Fc.cl,Fc.way,fS d.worth wy f9 pr,wy,_,rfl, .inl (.of F.hw),rfl,_,rfl,?_⟩;have h2:(d.row.map V.int).length=fT.length:=by rw[List.length_map,hl,F.pw.1]
  rw[h2];refine aX (fun hh=>absurd hh Xs) (fun _=>?_);refine⟨_,rfl,y,ay,dy,_,_,rfl,F.ob,Fc.cl,Fc.way,fS d.worth wy f9 pr,aE Xs,fun e he=>⟨wy,e,fT,[],fun _=>true,rfl,rfl, .of (au.upd he _ _ F.hw), .of ae,(fun j x y _ h=>by simp at h),_,rfl,?_⟩⟩;refine aX (fun hh=>Y7 hh (by simpa using h1)) (fun _=>?_);have s1:=au.upd (o:= .lst []) he;generalize upd H e (.lst [])=H1 at s1;refine⟨_,rfl,y,ay,dy,_,_,rfl,s1 _ _ F.ob,Fc.cl,Fc.row,AR d.worth wy f9 pr,f9,rfl,⟨_, .of (s1 _ _ F.hr)⟩,?_⟩;refine bG (xs:=d.row.map V.int) (fun i σ H'=>(∃u,σ=[sR y,u])∧H'=H1) ⟨⟨_,rfl⟩,rfl⟩ ?_ ?_ ?_
  ·rintro i σ H' _ ⟨_,rfl⟩;exact .of (s1 _ _ F.hr)
  ·rintro i v σ H' hv ⟨⟨u,rfl⟩,rfl⟩;rw[List.getElem?_map]at hv;obtain⟨z,_,rfl⟩:=Option.map_eq_some_iff.mp hv;refine⟨_,rfl,_,rfl,_,rfl,?_⟩;refine fQ ?_;exact⟨⟨_,rfl⟩,rfl⟩
  ·rintro σ H' ⟨⟨u,rfl⟩,rfl⟩;exact q _ s1
theorem gI:aL ["_law_case_here","_law_way","_law_k","_law_i","_law_j"] ["_law_case_here","_law_way"] (av h_):=⟨rfl,rfl,rfl,by decide+kernel,rfl,by decide+kernel,by decide+kernel⟩
include T bo in
theorem uk{f:Addr}{fd:FuncData}(F:jy K "_law_is_way" "_law_is_way" h_ f fd):a8 P w K mg base (cV P w) true 2 f fd ["_law_case_here","_law_way"] tM:=by
 refine F.gk gI Y_ (fun bR A outer s H vs Q E hr h hX=>?_)
 ·obtain⟨a,w,c,f,g,m,l,us,ws,ps,rfl,_⟩:=h;rfl
 ·obtain⟨a,w,c,x1,x2,m,l,us,ws,ps,rfl,C1,hw,P1,hlen,q⟩:=h;have hu:=hr.units;have Il:(A.deeper (Ψ "_law_is_way" (av h_) f bR)).units<cLine:=by lia
  have DB:=P1.1;have l6:=C1.ca;have zV:=C1.nu;have lx:(c.xs.map V.str).length=c.xs.length:=List.length_map ..;have ly:(c.ys.map V.str).length=c.ys.length:=List.length_map ..;refine⟨_,(ZP (ZI (@cO _ _ _ _ _ _ (by exact rfl) T.dh (ZA (ZD (aK K) T.cK (ZA Y4))) (YW)) (Zy (2) gI.nd) (ZP (@zX _ _ _ _ _ _ (ZC Y4 (pv 2)) (θ K (2) (by exact rfl) (Ν (Zy (3) gI.nd) (Ν (Zy (4) gI.nd) gf))) (YW) (YW) (YW)) (ZP (ZW (@PW.pt _ _ _ (Ω (ZQ jD (pv 3) af) (Ω (ZQ jD (pv 4) af) (Ω (ZQ Bv (pv 3) (ZU (aK K) T.cK)) (@pw_or1 _ _ _ _ (ZQ Bv (pv 4) (ZU (aK K) T.cK))))))) aP) (ZP (ZW (ZN (@lK _ _ _ _ _ (Zz bo aQ (ZE (ZK (aq K) (pv 3)) (ZV (ZK (aq K) (pv 4))))))) aP) (ZO (ZW (@PW.pt _ _ _ (@pw_and _ _ _ _ _ _ _ (ZQ lz Y9 af) (@pw_and1 _ _ _ _ (@PW.pt _ _ _ (Ω (ZQ yy (pv 3) (ZT (bj K) (ZC Y4 (ZH cx Y9 af)) af)) (@pw_or1 _ _ _ _ (ZQ yy (pv 4) (ZT (bj K) (ZC Y4 (ZH cx Y9 af)) af)))))))) aP)))))) (ZO (Z9 (@d6 _ _ _ _ _ _ _ _ (tI K Il) (pv 1) (Η ai) (aT _))))),?_⟩;refine⟨_,rfl,w,_,rfl, .inl (.of hw),(ws.length:Int),rfl,by lia,by lia,?_⟩;refine cC (fun i σ H'=>(∃(u1 u2 u3:Option V),σ=[sR a,sR w,u1,u2,u3])∧H'=H∧fe c ps i) ⟨⟨_,_,_,rfl⟩,rfl,fun k hk=>by lia⟩ ?_ ?_
  ·rintro i σ H' hi ⟨⟨u1,u2,u3,rfl⟩,e0,An⟩;subst e0;have hi:i<ps.length:=by lia
   obtain⟨tt,wc,r_⟩:=P1.Jg hi;have bad:cW c ps i=false→Q (.bl false) H':=fun e=>by
    have:=q H' (.refl _);rw[EY hi e]at this;exact this
   have Ge:c.pw (pr ps i)=none→Q (.bl false) H':=fun e=>bad (by simp[cW,e])
   refine⟨_,rfl,_,rfl,w,_,_,_,rfl,rfl, .of hw,UL wc,tt,_,rfl, .of r_,rfl,_,_,rfl,_,_,rfl,rfl,?_⟩;refine⟨_,rfl,_,_,rfl,rfl,_,rfl,?_⟩;refine aX (fun h1=>?_) (fun h1=>?_)
   ·have h1:(pr ps i).1<0:=by simpa using h1
    refine jY ?_;exact Ge (Case.pw_out IL)
   have h1:¬(pr ps i).1<0:=by simpa using h1
   refine⟨_,rfl,_,_,rfl,rfl,_,rfl,?_⟩;refine aX (fun h2=>?_) (fun h2=>?_)
   ·have h2:(pr ps i).2<0:=by simpa using h2
    refine jY ?_;exact Ge (Case.pw_out IL)
   have h2:¬(pr ps i).2<0:=by simpa using h2
   refine⟨_,rfl,_,rfl,a,_,0,_,rfl,rfl, .of l6,Y' (j:=0),x1,_,rfl, .inl (.of C1.fi),_,_,rfl,rfl,_,rfl,?_⟩;rw[lx];refine aX (fun h3=>?_) (fun h3=>?_)
   ·have h3:(c.xs.length:Int)≤(pr ps i).1:=by simpa using h3
    refine jY ?_;exact Ge (Case.pw_out IL)
   have h3:¬(c.xs.length:Int)≤(pr ps i).1:=by simpa using h3
   refine⟨_,rfl,_,rfl,a,_,1,_,rfl,rfl, .of l6,Y' (j:=1),x2,_,rfl, .inl (.of C1.se),_,_,rfl,rfl,_,rfl,?_⟩;rw[ly];refine aX (fun h4=>?_) (fun h4=>?_)
   ·have h4:(c.ys.length:Int)≤(pr ps i).2:=by simpa using h4
    exact Ge (Case.pw_out IL)
   have h4:¬(c.ys.length:Int)≤(pr ps i).2:=by simpa using h4
   obtain⟨x,kR,we⟩:=rF (xs:=c.xs) (i:=(pr ps i).1) (by lia) (by lia);obtain⟨y,DW,Ck⟩:=rF (xs:=c.ys) (i:=(pr ps i).2) (by lia) (by lia);have ep:c.pw (pr ps i)=dj c.same c.fs x y:=Case.pw_of kR DW;refine⟨_,rfl,a,_,0,_,rfl,rfl, .of l6,Y' (j:=0),_,rfl,x1,_,_,_,rfl,rfl, .of C1.fi,we,_,rfl,a,_,1,_,rfl,rfl, .of l6,Y' (j:=1),_,rfl,x2,_,_,_,rfl,rfl, .of C1.se,Ck,_,rfl,a,_,2,_,rfl,rfl, .of l6,Y' (j:=2),m,_,0,_,rfl,rfl, .of zV,Y' (j:=0),_,rfl,a,_,3,_,rfl,rfl, .of l6,Y' (j:=3),x,y,c.same,l,us,c.fs,rfl,C1.ne,C1.tr,_,rfl,?_⟩;rw[←ep];refine aX (fun h5=>?_) (fun h5=>?_)
   ·refine Ge ?_;cases e:c.pw (pr ps i)with
    |none=>rfl
    |some v=>rw[e]at h5;simp[bB]at h5
   have h5:(c.pw (pr ps i)).isSome=true:=by
    cases e:c.pw (pr ps i)with
    |none=>rw[e]at h5;simp[bB]at h5
    |some v=>rfl
   refine⟨_,rfl,_,_,rfl,rfl,_,rfl,?_⟩;refine aX (fun h6=>?_) (fun h6=>?_)
   rotate_left
   ·have h6:i=0:=by
     have:¬(0:Int)<0+(i:Int):=by simpa using h6
     lia
    refine fQ ?_;exact⟨⟨_,_,_,rfl⟩,rfl,An.next (by simp[cW,h5,h6]at h5⊢;exact h5)⟩
   have h6:0<i:=by
    have:(0:Int)<0+(i:Int):=by simpa using h6
    lia
   obtain⟨j,rfl⟩:∃j,i=j+1:=⟨i-1,by lia⟩
   have e1:((0+((j+1:Nat):Int))-1)=((j:Nat):Int):=by lia
   obtain⟨t2,OJ,FU⟩:=P1.Jg (show j<ps.length by lia);have zU:rV ws ((0+((j+1:Nat):Int))-1)=some (.ref t2):=by rw[e1];exact ar OJ
   refine⟨_,rfl,_,rfl,_,rfl,_,_,rfl,rfl,w,_,_,_,rfl,rfl, .of hw,zU,t2,_,0,_,rfl,rfl, .of FU,Y' (j:=0),_,_,rfl,rfl,_,rfl,?_⟩;refine aX (fun h7=>?_) (fun h7=>?_)
   ·have h7:(pr ps (j+1)).1≤(pr ps j).1:=by simpa using h7
    refine jY ?_;refine bad ?_;have:stepOk (pr ps j) (pr ps (j+1))=false:=by simp[stepOk];lia
    simp[cW,this]
   have h7:¬(pr ps (j+1)).1≤(pr ps j).1:=by simpa using h7
   refine⟨_,rfl,_,rfl,_,rfl,_,_,rfl,rfl,w,_,_,_,rfl,rfl, .of hw,zU,t2,_,1,_,rfl,rfl, .of FU,Y' (j:=1),_,_,rfl,rfl,_,rfl,?_⟩;refine aX (fun h8=>?_) (fun h8=>?_)
   ·have h8:(pr ps (j+1)).2≤(pr ps j).2:=by simpa using h8
    refine bad ?_;have:stepOk (pr ps j) (pr ps (j+1))=false:=by simp[stepOk];lia
    simp[cW,this]
   have h8:¬(pr ps (j+1)).2≤(pr ps j).2:=by simpa using h8
   refine⟨⟨_,_,_,rfl⟩,rfl,An.next ?_⟩;have:stepOk (pr ps j) (pr ps (j+1))=true:=by simp[stepOk];lia
   simp[cW,h5,this]
  ·rintro σ H' ⟨⟨u1,u2,u3,rfl⟩,e0,An⟩;subst e0;have e:((ws.length:Nat):Int).toNat=ps.length:=by lia
   rw[e]at An;refine⟨_,rfl,aE Xs,fun pn Iw=>⟨w,pn,_,rfl,rfl, .of (au.upd Iw _ _ hw), .of ae,?_⟩⟩;have hq:=q _ (au.upd (o:= .lst []) Iw);by_cases hz:ps=[]
   ·subst hz;have:ws=[]:=List.length_eq_zero_iff.mp DB;subst this;exact hq
   ·rw[jb hz An]at hq;have:ws≠[]:=fun z=>hz (by subst z;exact List.length_eq_zero_iff.mp DB.symm)
    have:(!ws.isEmpty)=true:=by simpa using this
    rw[this];exact hq
theorem fK:aL ["_law_case_here","_law_shut","_law_found","_law_i","_law_j","_law_gain"] ["_law_case_here","_law_shut"] (av iW):=⟨rfl,rfl,rfl,by decide+kernel,rfl,by decide+kernel,by decide+kernel⟩
include T bo in
theorem ve{f:Addr}{fd:FuncData}(F:jy K "_law_spots" "_law_spots" iW f fd):a8 P w K mg base (cV P w) true 2 f fd ["_law_case_here","_law_shut"] t_:=by
 refine F.gk fK Y_ (fun bR A outer s H vs Q E hr h hX=>?_)
 ·obtain⟨a,s0,c,f,g,m,l,us,ws,sh,rfl,_⟩:=h;rfl
 ·obtain⟨a,s0,c,x1,x2,m,l,us,ws,sh,rfl,C1,hs,P1,hx,hy,q⟩:=h;have hu:=hr.units;have hu:(A.deeper (Ψ "_law_spots" (av iW) f bR)).units+1<cLine:=by lia
  have lx:(c.xs.map V.str).length=c.xs.length:=List.length_map ..;have ly:(c.ys.map V.str).length=c.ys.length:=List.length_map ..;refine⟨_,(ZP (Zx (2) fK.nd (Η ai)) (ZP (ZX hX.own Ζ (Zy (3) fK.nd) (ZO (ZX hX.own Ζ (Zy (4) fK.nd) (ZP (Zx (5) fK.nd (Zz bo aQ (ZE (ZK (aq K) (pv 3)) (ZV (ZK (aq K) (pv 4)))))) (ZO (Δ (@PW.pt _ _ _ (@pw_and _ _ _ _ _ _ _ (ZN (@my _ _ _ _ _ (pv 5))) (@pw_and1 _ _ _ _ (@aS _ _ _ _ _ _ _ _ (nc K hu) (@e8 _ _ _ _ _ (ZE (pv 3) (ZA (pv 4)))) (pv 1) (by with_unfolding_all rfl))))) (ZO (Ε (ZJ K PySem.F.slot_list_append PySem.F.type_list_append bL Y9 (ZA (@e8 _ _ _ _ _ (ZE (pv 3) (ZE (pv 4) (ZA (pv 5))))))))) aP))) (by intro _;rfl))) (by intro _;rfl)) (ZO (Z9 Y9)))),?_⟩;refine⟨aE Xs,fun b hb=>?_⟩;have C2:=C1.keep (au.upd (o:= .lst []) hb);refine⟨_,rfl,a,_,0,_,rfl,rfl, .of C2.ca,Y' (j:=0),x1,_,rfl, .inl (.of C2.fi),((c.xs.map V.str).length:Int),rfl,by lia,by lia,?_⟩;refine cC (fun i σ H'=>(∃u1 u2 u3,σ=[sR a,sR s0,sR b,u1,u2,u3])∧au H H'∧∃xs,H' b=some (.lst xs)∧DV H' xs (ko c sh i)) ⟨⟨_,_,_,rfl⟩,YV hb,[],ae, .nil⟩ ?_ ?_
  ·rintro i σ H' hi ⟨⟨u1,u2,u3,rfl⟩,s1,xs,gU,S1⟩;have hi:i<c.xs.length:=by rw[lx]at hi;lia
   have C3:=C1.keep s1;refine⟨_,rfl,a,_,1,_,rfl,rfl, .of C3.ca,Y' (j:=1),x2,_,rfl, .inl (.of C3.se),((c.ys.map V.str).length:Int),rfl,by lia,by lia,?_⟩;refine cC (fun j σ H'=>(∃u2 u3,σ=[sR a,sR s0,sR b,sI ((0+(i:Int))),u2,u3])∧au H H'∧∃xs,H' b=some (.lst xs)∧DV H' xs (ko c sh i++lS c sh i j)) ⟨⟨_,_,rfl⟩,s1,xs,gU,by rw[lS,List.append_nil];exact S1⟩ ?_ ?_
   ·clear s1 gU S1 xs u1 u2 u3 C3 H';rintro j σ H' hj ⟨⟨u2,u3,rfl⟩,s1,xs,gU,S1⟩;have hj:j<c.ys.length:=by rw[ly]at hj;lia
    have C3:=C1.keep s1;obtain⟨x,kR,we⟩:=rF (xs:=c.xs) (i:=0+(i:Int)) (by lia) (by lia);obtain⟨y,DW,Ck⟩:=rF (xs:=c.ys) (i:=0+(j:Int)) (by lia) (by lia);have ez:(0+(i:Int),0+(j:Int))=aR (i,j):=Prod.ext (by simp[aR]) (by simp[aR]);have ep:c.pw (aR (i,j))=dj c.same c.fs x y:=by rw[←ez];exact Case.pw_of kR DW
    have sl:=S1.1;have l1:=v9 c sh i;have l2:=qN c sh i j;have l3:i*c.ys.length≤50*50:=Nat.mul_le_mul IL hy;rw[List.length_append]at sl;refine⟨_,rfl,a,_,0,_,rfl,rfl, .of C3.ca,Y' (j:=0),_,rfl,x1,_,_,_,rfl,rfl, .of C3.fi,we,_,rfl,a,_,1,_,rfl,rfl, .of C3.ca,Y' (j:=1),_,rfl,x2,_,_,_,rfl,rfl, .of C3.se,Ck,_,rfl,a,_,2,_,rfl,rfl, .of C3.ca,Y' (j:=2),m,_,0,_,rfl,rfl, .of C3.nu,Y' (j:=0),_,rfl,a,_,3,_,rfl,rfl, .of C3.ca,Y' (j:=3),x,y,c.same,l,us,c.fs,rfl,C3.ne,C3.tr,?_⟩;rw[←ep];refine⟨_,rfl,_,rfl,?_⟩;cases e:c.pw (aR (i,j))with
    |none=>
     refine aX (fun hh=>Y7 hh (by simp[bB])) (fun _=>?_);refine fQ ?_;refine⟨⟨_,_,rfl⟩,s1,xs,gU,?_⟩;have:oB c sh (aR (i,j))=none:=by unfold oB;split;rfl;exact e
     rw[lS,this,List.append_nil];exact S1
    |some w=>
     refine aX (fun _=>?_) (fun hh=>Y7 (by simp[bB]) hh);refine⟨_,rfl,_,rfl,aE Xs,fun p hp=>?_⟩;have s2:=s1.trans (au.upd (o:= .tup [.int (0+(i:Int)), .int (0+(j:Int))]) hp);have rJ:=au.upd (o:= .tup [.int (0+(i:Int)), .int (0+(j:Int))]) hp _ _ gU;have S2:=S1.cF (dW.same (au.upd (o:= .tup [.int (0+(i:Int)), .int (0+(j:Int))]) hp));refine⟨_,rfl,p,s0,(0+(i:Int),0+(j:Int)),ws,sh,rfl,rfl,ae, .of (s2 _ _ hs),P1.same s2,_,rfl,?_⟩;generalize upd H' p (.tup [.int (0+(i:Int)), .int (0+(j:Int))])=H2 at s2 rJ S2;rw[ez];refine aX (fun h1=>?_) (fun h1=>?_)
     ·have h1:aR (i,j)∉sh:=by simpa using h1
      refine⟨_,rfl, .inl ⟨rfl,_, .of rJ⟩,_,rfl,_,rfl,_,rfl,aE Xs,fun t ht=>⟨b,xs,_,rfl,rfl,au.upd ht _ _ rJ,ba IL,⟨_,_,rfl⟩,(s2.trans (YV ht)).eL hb,_,ae,?_⟩⟩;have e2:oB c sh (aR (i,j))=some w:=by unfold oB;rw[ZY h1];exact e
      rw[lS,e2,←List.append_assoc];have S3:DV (upd H2 t (.tup [.int (0+(i:Int)), .int (0+(j:Int)), .int w])) (xs++[.ref t]) ((ko c sh i++lS c sh i j)++[(aR (i,j),w)]):=(S2.cF (dW.same (YV ht))).snoc (by rw[←ez];exact ae);exact S3.cF (dW.lst (au.upd ht _ _ rJ))
     ·have h1:aR (i,j)∈sh:=by simpa using h1
      refine⟨⟨_,_,rfl⟩,s2,xs,rJ,?_⟩;have:oB c sh (aR (i,j))=none:=by unfold oB;rw[Z1 h1]
      rw[lS,this,List.append_nil];exact S2
   ·rintro σ H2 ⟨⟨u2,u3,rfl⟩,s2,Bc,rJ,S2⟩;rw[ly,Int.toNat_natCast]at S2;exact⟨⟨_,_,_,rfl⟩,s2,Bc,rJ,S2⟩
  ·rintro σ H2 ⟨⟨u1,u2,u3,rfl⟩,s2,Bc,rJ,S2⟩;rw[lx,Int.toNat_natCast]at S2;exact⟨_,rfl,q _ b _ s2 hb rJ S2⟩
variable(gJ:bJ P w K mg base true 3 "_law_finding" ["_law_found"] (ua ay))
variable(ip:bJ P w K mg base true 2 "_law_is_way" ["_law_case_here","_law_way"] tM)
variable(cw:bJ P w K mg base true 2 "_law_worth" ["_law_case_here","_law_way"] qA)
variable(i6:bJ P w K mg base true 2 "_law_spots" ["_law_case_here","_law_shut"] t_)
theorem cB:aL ["_law_case_here","_law_told","_law_held","_law_one","_law_pair_here","_law_i","_law_j","_law_gain"] ["_law_case_here","_law_told"] (av ic):=⟨rfl,rfl,rfl,by decide+kernel,rfl,by decide+kernel,by decide+kernel⟩
include T Fc gJ ip cw i6 in
theorem um{f:Addr}{fd:FuncData}(F:jy K "_law_anchor" "_law_anchor" ic f fd):a8 P w K mg base (cV P w) true 4 f fd ["_law_case_here","_law_told"] (qO ay):=by
 refine F.gk cB Y_ (fun bR A outer s H vs Q E hr h hX=>?_)
 ·obtain⟨a,t,c,f,g,m,l,us,ws,es,rfl,_⟩:=h;rfl
 ·obtain⟨b,t,c,x1,x2,m,l,us,vs,es,rfl,C3,ok,ht,FL,TD,q⟩:=h;have hu:=hr.units;have hu:(A.deeper (Ψ "_law_anchor" (av ic) f bR)).units+1<cLine:=by lia
  have T_:=ok.x;have Ua:=ok.y;have QT:=FL.1;refine⟨_,(ZR (Zx (2) cB.nd kc) (ZR (ZI (Θ K Y4) (Zy (3) cB.nd) (ZR (ZW (@PW.pt _ _ _ (Ω (@cU _ _ _ _ (Z' (Zz gJ aQ (ZA (pv 3))))) (Ω (@cU _ _ _ _ (Z' (Zz ip aQ (ZE Y0 (ZA (Z0 K (pv 3))))))) (@pw_or1 _ _ _ _ (ZQ jD (Z0 K (pv 3)) (ZK (aq K) af)))))) aP) (ZR (ZW (ZQ Bu (Zz cw aQ (ZE Y0 (ZA (Z0 K (pv 3))))) (Z0 K (pv 3))) aP) (ZR (ZI (Θ K (Z0 K (pv 3))) (Zy (4) cB.nd) (ZR (ZW (ZN (@qp _ _ _ _ _ hu (pv 4) (pv 2))) aP) (ZO (@kJ _ _ _ _ _ _ _ _ _ hu Y9 (pv 4) de Ζ)))) (ZO (ZI (Θ K (Z0 K (pv 3))) (Zy (4) cB.nd) (ZO (ZW (@aS _ _ _ _ _ _ _ _ (nc K hu) (pv 4) (Z0 K (pv 3)) (by with_unfolding_all rfl)) aP)))))))) (ZR (ZI (Θ K (Zz i6 aQ (ZE Y0 (ZA (Η ai))))) (θ K (3) (by exact rfl) (Ν (Zy (5) cB.nd) (Ν (Zy (6) cB.nd) (Ν (Zy (7) cB.nd) gf)))) (ZO (ZW (@PW.pt _ _ _ (@pw_and _ _ _ _ _ _ _ (ZQ Bv (pv 7) (ZK (aq K) af)) (@pw_and1 _ _ _ _ (ZN (@vN _ _ _ _ _ hu (@e8 _ _ _ _ _ (ZE (pv 5) (ZA (pv 6)))) (pv 2)))))) aP))) (ZO (Z9 de))))),?_⟩;refine⟨fun σ H4=>∃d,σ=[sR b,sR t,sR d,none,none,none,none,none]∧au H H4∧H d=none∧H4 d=some (.dT []),fun d hd=>⟨d,rfl,YV hd,hd,ae⟩,?_⟩;rintro σ H4 ⟨D,rfl,s4,Mv,hD⟩;refine⟨fun σ H5=>(∃u1 u2,σ=[sR b,sR t,sR D,u1,u2,none,none,none])∧au H H5∧∃kvs,H5 D=some (.dT kvs)∧m9 kvs (lU es es.length),?_,?_⟩
  ·refine⟨_,rfl,t,rfl,⟨_, .of (s4 _ _ ht)⟩,?_⟩;refine bG (xs:=vs) (fun k σ H5=>(∃u1 u2,σ=[sR b,sR t,sR D,u1,u2,none,none,none])∧au H H5∧∃kvs,H5 D=some (.dT kvs)∧kvs.length≤(lU es k).length∧m9 kvs (lU es k)) ⟨⟨_,_,rfl⟩,s4,[],hD,Nat.zero_le _,fun p=>by simp[sZ,lU]⟩ ?_ ?_ ?_
   ·rintro k σ H5 _ ⟨_,s5,_⟩;exact .of (s5 _ _ ht)
   ·rintro k v σ H5 hv ⟨⟨u1,u2,rfl⟩,s5,kvs,uK,SG,MK⟩;have hk:k<es.length:=by rw[←QT];exact(ZF hv).1
    have ek:es[k]?=some es[k]:=by simp[hk]
    generalize es[k]=d at ek;obtain⟨y,dy,wy,f9,pr,fT,gT,e1,F3⟩:=FL.2 k d ek;rw[hv]at e1;cases e1;have f_:=TD.f_ d (ZS ek);have FF:∀{H'},au H H'→o8 (fun _=>True) H' ay y d dy wy f9 pr fT gT:=fun{H'} s'=>F3.keep (fun b o _ e=>s' b o e) (dW.same s') fun _ h=>h
    have iw:=lT f_.way;have nd:=qM f_.tQ;have pl:=TD.F9 ok (k+1);rw[ub ek,List.length_append]at pl;have wl:d.way.length≤2500:=by
     have h6:=len_sub d.way d.pairs (f_.way.up.imp fun{a b} h e=>by
      rw[e]at h;have:=h.1
      lia) f_.sub
     lia
    refine⟨fun σ H6=>σ=[sR b,sR t,sR D,sR y,u2,none,none,none]∧au H5 H6,?_,?_⟩
    ·have F:=FF s5;refine⟨_,rfl,y,_,d,dy,wy,f9,pr,fT,gT,rfl,F,by rw[f_.row,HW],f_.way.ne,fun H6 s6=>⟨_,rfl,?_⟩⟩;refine fQ ?_;have F:=FF (s5.trans s6);refine⟨_,rfl,_,rfl,y,ay,dy,_,_,rfl,F.ob,Fc.cl,Fc.way,fS d.worth wy f9 pr,b,wy,c,x1,x2,m,l,us,fT,d.way,rfl,C3.keep (s5.trans s6),F.hw,F.pw,by lia,fun H7 s7=>⟨_,rfl,?_⟩⟩;rw[iw];refine fQ ?_;have Ub:=s6.trans s7;have F:=FF (s5.trans Ub);have C7:=C3.keep (s5.trans Ub);have l6:=C7.ca;refine⟨_,rfl,y,ay,dy,_,_,rfl,F.ob,Fc.cl,Fc.worth,jn d.worth wy f9 pr,_,rfl,b,_,2,_,rfl,rfl, .of l6,Y' (j:=2),m,_,3,_,rfl,rfl, .of C7.nu,Y' (j:=3),_,_,rfl,rfl,_,rfl,?_⟩;have:=f_.least;exact aX (fun hh=>Y7 hh Ξ) (fun _=>⟨rfl,Ub⟩)
    rintro σ H6 ⟨rfl,s6⟩;have s7:=s5.trans s6;have MI:=s6 _ _ uK;have F:=FF s7;refine⟨fun σ H7=>σ=[sR b,sR t,sR D,sR y,u2,none,none,none]∧H7=H6,?_,?_⟩
    ·refine⟨_,rfl,_,rfl,y,ay,dy,_,_,rfl,F.ob,Fc.cl,Fc.way,fS d.worth wy f9 pr,b,wy,c,x1,x2,m,l,us,fT,d.way,rfl,C3.keep s7,ok.num,F.hw,F.pw,by lia,iw,_,rfl,y,ay,dy,_,_,rfl,F.ob,Fc.cl,Fc.worth,jn d.worth wy f9 pr,rfl,_,rfl,?_⟩;rw[(sU iw).2,f_.worth];exact aX (fun hh=>absurd hh Xs) (fun _=>⟨rfl,rfl⟩)
    rintro σ H7 ⟨rfl,rfl⟩;refine⟨fun σ H8=>(∃u3,σ=[sR b,sR t,sR D,sR y,u3,none,none,none])∧au H H8∧∃kvs,H8 D=some (.dT kvs)∧kvs.length≤(lU es (k+1)).length∧m9 kvs (lU es (k+1)),?_,?_⟩
    ·refine⟨_,rfl,y,ay,dy,_,_,rfl,F.ob,Fc.cl,Fc.pairs,kn d.worth wy f9 pr,pr,rfl,⟨_, .of F.hp⟩,?_⟩;refine bG (xs:=gT) (fun i σ H8=>(∃u3,σ=[sR b,sR t,sR D,sR y,u3,none,none,none])∧au H H8∧∃kvs,H8 D=some (.dT kvs)∧kvs.length≤(lU es k).length+i∧m9 kvs (lU es k++d.pairs.take i)) ⟨⟨_,rfl⟩,s7,kvs,MI,by lia,by simpa using MK⟩ ?_ ?_ ?_
     ·rintro i σ H8 _ ⟨_,s8,_⟩;exact .of (FF s8).hp
     ·rintro i v σ H8 hv ⟨⟨u,rfl⟩,s8,IA,MN,Pf,L4⟩;have hi:i<d.pairs.length:=by rw[←F3.pp.1];exact(ZF hv).1
      have ei:d.pairs[i]?=some d.pairs[i]:=by simp[hi]
      generalize d.pairs[i]=g at ei;obtain⟨tt,g1,g2⟩:=F3.pp.2 i g ei;rw[hv]at g1;cases g1;have hn:g∉lU es k++d.pairs.take i:=fun z=>(List.mem_append.mp z).elim (TD.HY ek (ZS ei)) (HZ nd ei)
      refine⟨fun σ H9=>σ=[sR b,sR t,sR D,sR y,sR tt,none,none,none]∧H9=H8,?_,?_⟩
      ·refine⟨_,rfl,_,rfl,D,_,rfl, .t (k:=bb g) MN (s8 _ _ g2),_,rfl,?_⟩;rw[L4];exact aX (fun hh=>Y7 (by simpa using hh) hn) (fun _=>⟨rfl,rfl⟩)
      rintro σ H9 ⟨rfl,rfl⟩;refine⟨_,rfl,_,rfl,D,_,rfl, .t (k:=bb g) MN (s8 _ _ g2) (ba IL),⟨_,rfl⟩,s8.eL Mv,_,ae,Nat.le_trans (e_ _ _ _) (by lia),?_⟩;have:=F_ L4 g (.bl true);rw[List.append_assoc]at this;rw[List.take_succ,ei];exact this
     ·rintro σ H8 ⟨Uc,s8,IA,MN,Pf,L4⟩;rw[F3.pp.1]at Pf;rw[F3.pp.1,List.take_length]at L4;rw[ub ek];exact⟨Uc,s8,IA,MN,by rw[List.length_append];exact Pf,L4⟩
    rintro σ H8 ⟨⟨u4,rfl⟩,s8,IA,MN,Pf,L4⟩;have F:=FF s8;refine⟨_,rfl,y,ay,dy,_,_,rfl,F.ob,Fc.cl,Fc.way,fS d.worth wy f9 pr,wy,rfl,⟨_, .of F.hw⟩,?_⟩;refine bG (xs:=fT) (fun i σ H9=>(∃u3,σ=[sR b,sR t,sR D,sR y,u3,none,none,none])∧H9=H8) ⟨⟨_,rfl⟩,rfl⟩ ?_ ?_ ?_
    ·rintro i σ H9 _ ⟨_,rfl⟩;exact .of F.hw
    ·rintro i v σ H9 hv ⟨⟨u,rfl⟩,rfl⟩;have hi:i<d.way.length:=by rw[←F.pw.1];exact(ZF hv).1
     have ei:d.way[i]?=some d.way[i]:=by simp[hi]
     generalize d.way[i]=g at ei;obtain⟨tt,g1,g2⟩:=F.pw.2 i g ei;rw[hv]at g1;cases g1;refine⟨_,rfl,_,rfl,y,ay,dy,_,_,rfl,F.ob,Fc.cl,Fc.pairs,kn d.worth wy f9 pr,tt,pr,g,gT,d.pairs,rfl,rfl,g2, .of F.hp,F.pp,_,rfl,?_⟩;have:=f_.sub g (ZS ei);exact aX (fun hh=>Y7 hh (by simp[this])) (fun _=>⟨⟨_,rfl⟩,rfl⟩)
    ·rintro σ H9 ⟨⟨u,rfl⟩,rfl⟩;exact⟨⟨_,_,rfl⟩,s8,IA,MN,Pf,L4⟩
   ·rintro σ H5 ⟨Uc,s5,kvs,uK,_,MK⟩;rw[QT]at MK;exact⟨Uc,s5,kvs,uK,MK⟩
  rintro σ H5 ⟨⟨u1,u2,rfl⟩,s5,kvs,uK,MK⟩;refine⟨fun σ H4=>au H H4,?_,fun σ H4 s4=>q _ s4⟩;refine⟨_,rfl,aE Xs,fun e he=>?_⟩;have s6:=s5.trans (au.upd (o:= .lst []) he);refine⟨b,e,c,x1,x2,m,l,us,[],[],rfl,C3.keep s6,ae, .nil,by lia,by lia,fun H7 r ws s7 rL h7 S7=>⟨r,rfl,⟨_, .of h7⟩,?_⟩⟩;have V4:=s6.trans s7;have MI:=s7 _ _ (au.upd (o:= .lst []) he _ _ uK);refine bG (xs:=ws) (fun k σ H8=>(∃v1 v2 v3,σ=[sR b,sR t,sR D,u1,u2,v1,v2,v3])∧au H7 H8) ⟨⟨_,_,_,rfl⟩, .refl _⟩ ?_ ?_ (fun _ _ ⟨_,s8⟩=>V4.trans s8)
  ·rintro k σ H8 _ ⟨_,s8⟩;exact .of (s8 _ _ h7)
  ·rintro k v σ H8 hv ⟨⟨v1,v2,v3,rfl⟩,s8⟩;have hk:k<(ko c [] c.xs.length).length:=by rw[←S7.1];exact(ZF hv).1
   have ek:(ko c [] c.xs.length)[k]?=some (ko c [] c.xs.length)[k]:=by simp[hk]
   generalize (ko c [] c.xs.length)[k]=x at ek;obtain⟨tt,k1,k2⟩:=S7.2 k x ek;rw[hv]at k1;cases k1;have YO:=wb (ZS ek);have C8:=C3.keep (V4.trans s8);have l6:=C8.ca;refine⟨tt,_,rfl, .of (s8 _ _ k2),rfl,_,_,rfl,_,_,rfl,_,_,rfl,rfl,?_⟩;refine⟨_,rfl,_,rfl,b,_,2,_,rfl,rfl, .of l6,Y' (j:=2),m,_,3,_,rfl,rfl, .of C8.nu,Y' (j:=3),_,_,rfl,rfl,_,rfl,?_⟩;refine aX (fun h1=>?_) (fun _=>?_)
   ·have h1:c.least≤x.2:=by simpa using h1
    refine⟨_,rfl,_,rfl,aE Xs,fun p hp=>⟨_,rfl,D,_,rfl, .t (k:=bb x.1) (au.upd hp _ _ (s8 _ _ MI)) ae,_,rfl,?_⟩⟩;rw[MK];obtain⟨d,hd,hq⟩:=TD.pair YO h1;refine aX (fun hh=>Y7 hh (by simp;exact LO hd hq)) (fun _=>?_);exact⟨⟨_,_,_,rfl⟩,s8.trans (YV hp)⟩
   ·refine fQ ?_;exact⟨⟨_,_,_,rfl⟩,s8⟩
variable(mR:bJ P w K mg base true 8 "compare" ["first","second","terms"] (xt aV ay kq))
variable(i7:bJ P w K mg base true 7 "_law_terms" ["_law_case_here"] (qy aV))
theorem vf:aL ["_law_case_here"] ["_law_case_here"] (av la):=⟨rfl,rfl,rfl,by decide+kernel,rfl,by decide+kernel,by decide+kernel⟩
include T mR i7 in
theorem vh{f:Addr}{fd:FuncData}(F:jy K "_law_asked" "_law_asked" la f fd):a8 P w K mg base (cV P w) true 9 f fd ["_law_case_here"] (xv ay):=by
 refine F.gk vf Y_ (fun bR A outer s H vs Q E hr h hX=>?_)
 ·obtain⟨a,c,f,g,m,l,us,most,rfl,_⟩:=h;rfl
 ·obtain⟨a,c,x1,x2,m,l,us,most,rfl,C1,ok,hm,q⟩:=h;refine⟨_,(ZO (Z9 (Zz mR aQ (ZE (ο (hJ K) (by exact rfl) T.nF PyProof.Rows.Boot.«list» (ZA (ZC Y0 af))) (ZE (ο (hJ K) (by exact rfl) T.nF PyProof.Rows.Boot.«list» (ZA (ZC Y0 af))) (ZA (Zz i7 aQ (ZA Y0)))))))),?_⟩;have l6:=C1.ca;refine⟨_,rfl,a,_,0,_,rfl,rfl, .of l6,Y' (j:=0),x1,_,rfl, .inl (.of C1.fi),fun y1 DW=>?_⟩;have s1:=au.upd (o:= .lst ((cz c).xs.map V.str)) DW;have Ud:=s1 _ _ l6;refine⟨_,rfl,a,_,1,_,rfl,rfl, .of Ud,Y' (j:=1),x2,_,rfl, .inl (.of (s1 _ _ C1.se)),fun y2 Ck=>?_⟩;have s2:=s1.trans (au.upd (o:= .lst ((cz c).ys.map V.str)) Ck);refine⟨_,rfl,a,cz c,x1,x2,m,l,us,most,rfl,C1.keep s2,ok,fun H3 t s3 TF=>?_⟩;have zk:=s2.trans s3;have T_:=ok.x;have Ua:=ok.y;refine⟨y1,y2,t,cz c,rfl,s3 _ _ (au.upd Ck _ _ ae),s3 _ _ ae,TF,by lia,by lia,fun es TD H4 r vs s4 hr h4 FL=>?_,fun ds f2 RC hl H4 s4=>?_⟩
  ·exact q es TD H4 r vs (zk.trans s4) (zk.free hr) h4 (FL.keep (fun _ _ _ h=>h) (fun _ _ h=>h) fun b hb=>zk.free hb)
  ·have:=F5 ok RC
   lia
theorem eD:aL ["_law_case_here","_law_told","_law_way","_law_worth_here","_law_beaten","_law_met","_law_one"] ["_law_case_here","_law_told","_law_way"] (av iC):=⟨rfl,rfl,rfl,by decide+kernel,rfl,by decide+kernel,by decide+kernel⟩
include T Fc cw in
theorem xG{f:Addr}{fd:FuncData}(F:jy K "_law_fine" "_law_fine" iC f fd):a8 P w K mg base (cV P w) true 3 f fd ["_law_case_here","_law_told","_law_way"] (xx ay):=by
 refine F.gk eD Y_ (fun bR A outer s H vs Q E hr h hX=>?_)
 ·obtain⟨a,t,w,c,f,g,m,l,us,ts,es,ws,ps,rfl,_⟩:=h;rfl
 ·obtain⟨a,t,w',c,x1,x2,m,l,us,ts,es,ws,ps,rfl,C1,num,ht,FL,hw,PS,AL,iw,TD,q⟩:=h;have hu:=hr.units;have hu:(A.deeper (Ψ "_law_fine" (av iC) f bR)).units+1<cLine:=by lia
  refine⟨_,(ZR (Zx (3) eD.nd (Zz cw aQ (ι Y0))) (ZR (Zx (4) eD.nd de) (ZR (Zx (5) eD.nd de) (ZR (ZI (Θ K Y4) (@aJ _ _ (6) _ eD.nd Ζ (Or.inr rfl) (by first|exact .inl rfl|exact .inr rfl|assumption)) (ZO (Δ (Z' (Z6 (CW K rfl) (by exact rfl) T.N0 PyProof.Rows.Boot.«any» (ZA (@mD _ _ _ _ _ _ _ _ _ _ _ _ _ _ (by exact rfl) (show bq ["_law_case_here","_law_told","_law_way","_law_worth_here","_law_beaten","_law_met","_law_one"] (av iC) _ ["_law_pair_here"] [6] ["_law_one"]from⟨rfl,by decide+kernel,by decide+kernel,by decide+kernel,rfl,rfl,by decide+kernel,by decide+kernel,by decide+kernel⟩) (Θ K Y9) (fun _ _ _ _ _=>(Zy (0) (show(["_law_pair_here","_law_one"]:List Str).Nodup by decide+kernel))) (fun _ _ _ _ _=>iQ) (fun _ _ _ _ _=>(@d6 _ _ _ _ _ _ _ _ (A0 K hu) (pv 0) (Z0 K Y4) (by with_unfolding_all rfl))) (by intro _;rfl))))) (ZR (Zx (4) eD.nd (@Bo _ _ _ _ _ _ _ (pv 4) (@kI _ _ _ _ _ (@d6 _ _ _ _ _ _ _ _ lz (pv 3) (Z0 K (pv 6)) (aT _))))) (ZO (Zx (5) eD.nd (@Bo _ _ _ _ _ _ _ (pv 5) (@kI _ _ _ _ _ (@d6 _ _ _ _ _ _ _ _ yy (pv 3) (Z0 K (pv 6)) (aT _))))))) aP))) (ZO (Z9 (@Bo _ _ _ _ _ _ _ (pv 5) (@kI _ _ _ _ _ (@D5 _ _ _ _ (pv 4)))))))))),?_⟩;have hlen:=FL.1;obtain⟨w1,w2⟩:=sU iw;obtain⟨W,hW⟩:∃W,W=vl (lf (jc c [])) c.out c.into ps:=⟨_,rfl⟩
  refine⟨fun σ H1=>H1=H∧σ=[sR a,sR t,sR w',sI W,none,none,none],?_,?_⟩
  ·refine⟨_,rfl,_,rfl,a,w',c,x1,x2,m,l,us,ws,ps,rfl,C1,num,hw,PS,AL,iw,rfl,?_⟩;rw[w2,←hW];rfl
  rintro σ H1 ⟨rfl,rfl⟩;refine⟨fun σ H2=>H2=H1∧σ=[sR a,sR t,sR w',sI W,some (.bl false),none,none],⟨rfl,rfl⟩,?_⟩;rintro σ H1 ⟨rfl,rfl⟩;refine⟨fun σ H2=>H2=H1∧σ=[sR a,sR t,sR w',sI W,some (.bl false),some (.bl false),none],⟨rfl,rfl⟩,?_⟩;rintro σ H ⟨rfl,rfl⟩;refine⟨fun σ H1=>∃(be me:Bool)(u:Option V),σ=[sR a,sR t,sR w',sI W,some (.bl be),some (.bl me),u]∧au H H1∧(be=true→∃d∈es,d.worth<W)∧∀d∈es,(W≤d.worth∧∃q∈ps,q∈d.pairs)→me=true,?_,?_⟩
  ·refine⟨_,rfl,t,rfl,⟨_, .of ht⟩,?_⟩;refine bG (xs:=ts) (fun k σ H1=>∃(be me:Bool)(u:Option V),σ=[sR a,sR t,sR w',sI W,some (.bl be),some (.bl me),u]∧au H H1∧(be=true→∃d∈es,d.worth<W)∧∀d∈es.take k,(W≤d.worth∧∃q∈ps,q∈d.pairs)→me=true) ⟨false,false,none,rfl, .refl _,(fun h=>by cases h),fun d h=>by simp at h⟩ ?_ ?_ ?_
   ·rintro k σ H1 _ ⟨_,_,_,_,s1,_⟩;exact .of (s1 _ _ ht)
   ·rintro k v σ H1 hv ⟨be,me,u,rfl,s1,Bk,L5⟩;have hk:k<es.length:=by rw[←hlen];exact(ZF hv).1
    have ek:es[k]?=some es[k]:=by simp[hk]
    generalize es[k]=d at ek;obtain⟨y,dy,wy,f9,pr,fT,gT,e1,F0⟩:=FL.2 k d ek;rw[hv]at e1;cases e1;have FF:∀{H'},au H H'→o8 (fun _=>True) H' ay y d dy wy f9 pr fT gT:=fun{H'} s'=>F0.keep (fun b o _ e=>s' b o e) (dW.same s') fun _ h=>h
    have et:es.take (k+1)=es.take k++[d]:=by rw[List.take_succ,ek];rfl
    refine⟨_,rfl,w',rfl,⟨_, .of (s1 _ _ hw)⟩,fun D hD=>?_⟩;refine fZ (xs:=ws) (fun i ys bx H2=>(∃u,bx=[u,sR y])∧ys=((ps.take i).map fun q=>V.bl (decide (q∈d.pairs)))∧H2 D=some (.lst ys)∧au H1 H2) ⟨⟨_,rfl⟩,rfl,ae,YV hD⟩ ?_ ?_ ?_
    ·rintro i ys bx H2 _ ⟨_,_,_,s2⟩;exact .of (s2 _ _ (s1 _ _ hw))
    ·rintro i v ys bx H2 LU ⟨⟨u,rfl⟩,rfl,ku,s2⟩;have hi:i<ps.length:=by rw[←PS.1];exact(ZF LU).1
     have ei:ps[i]?=some ps[i]:=by simp[hi]
     generalize ps[i]=g at ei;obtain⟨tt,g1,g2⟩:=PS.2 i g ei;rw[LU]at g1;cases g1;have F:=FF (s1.trans s2);refine qu ?_;refine⟨_,rfl,_,rfl,y,ay,dy,_,_,rfl,F.ob,Fc.cl,Fc.pairs,kn d.worth wy f9 pr,tt,pr,g,gT,d.pairs,rfl,rfl,s2 _ _ (s1 _ _ g2), .of F.hp,F.pp,ku,ba Ξ,⟨_,rfl⟩,?_,ae,s2.eL hD⟩;rw[List.take_succ,ei];simp
    ·rintro ys bx H2 ⟨_,rfl,ku,s2⟩;rw[PS.1,List.take_length]at ku;have e9:(ps.map fun q=>V.bl (decide (q∈d.pairs)))=(ps.map fun q=>decide (q∈d.pairs)).map V.bl:=by rw[List.map_map];rfl
     rw[e9]at ku;have F:=FF (s1.trans s2);refine⟨D,_,rfl, .of ku,_,rfl,?_⟩;refine aX (fun h2=>?_) (fun h2=>?_)
     ·refine⟨fun σ H3=>H3=H2∧∃Pg:Bool,σ=[sR a,sR t,sR w',sI W,some (.bl Pg),some (.bl me),sR y]∧(Pg=true→∃d∈es,d.worth<W),?_,?_⟩
      ·refine⟨_,rfl,_,rfl,?_⟩;refine aX (fun h3=>⟨rfl,true,rfl,fun _=>Bk h3⟩) (fun _=>?_);refine⟨_,rfl,_,rfl,y,ay,dy,_,_,rfl,F.ob,Fc.cl,Fc.worth,jn d.worth wy f9 pr,_,_,rfl,rfl,rfl,_,rfl,fun h=>⟨d,ZS ek,by simpa using h⟩⟩
      rintro σ H3 ⟨rfl,Pg,rfl,Ph⟩;refine⟨_,rfl,_,rfl,?_⟩;refine aX (fun h3=>⟨Pg,true,_,rfl,s1.trans s2,Ph,fun _ _ _=>rfl⟩) (fun h3=>?_);refine⟨_,rfl,_,rfl,y,ay,dy,_,_,rfl,F.ob,Fc.cl,Fc.worth,jn d.worth wy f9 pr,_,_,rfl,rfl,Pg,_,_,rfl,s1.trans s2,Ph,fun d' uH hh=>?_⟩;rw[et]at uH;rcases List.mem_append.mp uH with uH|uH
      ·exact Y7 (L5 d' uH hh) h3
      ·have:d'=d:=by simpa using uH
       subst this;simpa using hh.1
     ·refine⟨be,me,_,rfl,s1.trans s2,Bk,fun d' uH hh=>?_⟩;rw[et]at uH;rcases List.mem_append.mp uH with uH|uH
      ·exact L5 d' uH hh
      ·have:d'=d:=by simpa using uH
       subst this;obtain⟨_,g,hg,SK⟩:=hh;exact Y7 (List.any_eq_true.mpr ⟨true,List.mem_map.mpr ⟨g,hg,decide_eq_true SK⟩,rfl⟩) h2
   ·rintro σ H1 ⟨be,me,u,rfl,s1,Bk,L5⟩;rw[hlen,List.take_length]at L5;exact⟨be,me,u,rfl,s1,Bk,L5⟩
  rintro σ H1 ⟨be,me,u,rfl,s1,Bk,L5⟩;refine⟨_,rfl,_,rfl,?_⟩;refine aX (fun _=>q _ s1) (fun h1=>?_);refine⟨_,rfl,_,rfl,?_⟩;have:be=false:=by
   cases e:be with
   |false=>rfl
   |true=>
    obtain⟨d,hd,hG⟩:=Bk e;have hl:=(TD.f_ d hd).least;obtain⟨d',uH,h2,h3⟩:=TD.met w1 (by rw[←hW];lia);exact Y7 (L5 d' uH ⟨by rw[hW];exact h2,h3⟩) h1
  rw[this];exact q _ s1
variable(dY:bJ P w K mg base true 3 "_law_fine" ["_law_case_here","_law_told","_law_way"] (xx ay))
theorem cN:aL ["_law_case_here","_law_told","_law_one","_law_way","_law_parts","_law_k","_law_head","_law_tail","_law_part"] ["_law_case_here","_law_told","_law_one","_law_way"] (av gB):=⟨rfl,rfl,rfl,by decide+kernel,rfl,by decide+kernel,by decide+kernel⟩
include T Fc cw dY in
theorem vi{f:Addr}{fd:FuncData}(F:jy K "_law_tried" "_law_tried" gB f fd):a8 P w K mg base (cV P w) true 4 f fd ["_law_case_here","_law_told","_law_one","_law_way"] (uc ay):=by
 refine F.gk cN Y_ (fun bR A outer s H vs Q E hr h hX=>?_)
 ·obtain⟨a,t,y,w,c,f,g,m,l,us,ts,es,d,dy,wy,rw,pr,fT,gT,ws,ps,rfl,_⟩:=h;rfl
 ·obtain⟨a,t,y,w',c,x1,x2,m,l,us,ts,es,d,dy,wy,f9,Gf,fT,gT,ws,ps,rfl,C1,num,ht,FL,hd,F0,hw,PS,AL,OX,An,TD,q⟩:=h;have hu:=hr.units;refine⟨_,(ZR (Zx (4) cN.nd (Η ai)) (ZR (ZI (@vE _ _ _ _ _ _ _ (by exact rfl) T.dh (ZE af (ZA (ZD (aK K) T.cK (ZA (Z0 K Y9))))) (YW) (YW)) (Zy (5) cN.nd) (ZO (Zx (4) cN.nd (ZH Ak (pv 4) (Η (ZE (@gi _ _ _ _ _ _ _ _ _ _ (kf K) (Z0 K Y9) (@gh _ _ _ (pv 5)) kK) (ZA (@gi _ _ _ _ _ _ _ _ _ _ (kf K) (Z0 K Y9) kK (@gh _ _ _ (pv 5)))))))))) (ZR (ZI (@cO _ _ _ _ _ _ (by exact rfl) T.dh (ZA (ZD (aK K) T.cK (ZA (pv 3)))) (YW)) (Zy (5) cN.nd) (ZR (@kL _ _ _ _ _ _ _ _ _ _ _ _ _ _ _ (6) _ _ (by exact rfl) cN.nd Ζ (by exact rfl) (show bq ["_law_case_here","_law_told","_law_one","_law_way","_law_parts","_law_k","_law_head","_law_tail","_law_part"] (av gB) _ ["_law_pair_here"] [2] ["_law_one"]from⟨rfl,by decide+kernel,by decide+kernel,by decide+kernel,rfl,rfl,by decide+kernel,by decide+kernel,by decide+kernel⟩) (Θ K (@gi _ _ _ _ _ _ _ _ _ _ (kf K) (pv 3) (@gh _ _ _ (pv 5)) kK)) (fun _ _ _ _ _=>(Zy (0) (show(["_law_pair_here","_law_one"]:List Str).Nodup by decide+kernel))) (fun _ _ _ _ _=>(@sJ _ _ _ (@PW.pt _ _ _ (@pw_and _ _ _ _ _ _ _ (ZQ jD (ZT (bj K) (pv 0) af) (ZT (bj K) (ZC (Z0 K Y4) af) af)) (@pw_and1 _ _ _ _ (ZQ jD (ZT (bj K) (pv 0) af) (ZT (bj K) (ZC (Z0 K Y4) af) af))))))) (fun _ _ _ _ _=>(pv 0)) (YW) (by intro _;rfl)) (ZR (@kL _ _ _ _ _ _ _ _ _ _ _ _ _ _ _ (7) _ _ (by exact rfl) cN.nd Ζ (by exact rfl) (show bq ["_law_case_here","_law_told","_law_one","_law_way","_law_parts","_law_k","_law_head","_law_tail","_law_part"] (av gB) _ ["_law_pair_here"] [2] ["_law_one"]from⟨rfl,by decide+kernel,by decide+kernel,by decide+kernel,rfl,rfl,by decide+kernel,by decide+kernel,by decide+kernel⟩) (Θ K (@gi _ _ _ _ _ _ _ _ _ _ (kf K) (pv 3) kK (@gh _ _ _ (ZH bA (pv 5) af)))) (fun _ _ _ _ _=>(Zy (0) (show(["_law_pair_here","_law_one"]:List Str).Nodup by decide+kernel))) (fun _ _ _ _ _=>(@sJ _ _ _ (@PW.pt _ _ _ (@pw_and _ _ _ _ _ _ _ (ZQ lz (ZT (bj K) (pv 0) af) (ZT (bj K) (ZC (Z0 K Y4) (@lu _ _ _ _ _ _ iF af)) af)) (@pw_and1 _ _ _ _ (ZQ lz (ZT (bj K) (pv 0) af) (ZT (bj K) (ZC (Z0 K Y4) (@lu _ _ _ _ _ _ iF af)) af))))))) (fun _ _ _ _ _=>(pv 0)) (YW) (by intro _;rfl)) (ZO (ZW (@PW.pt _ _ _ (Ω (@cU _ _ _ _ (Z' (Zz dY aQ (ZE Y0 (ZE Y4 (ZA (ZH Ak (pv 6) (Z0 K Y9)))))))) (@pw_or1 _ _ _ _ (@cU _ _ _ _ (Z' (Zz dY aQ (ZE Y0 (ZE Y4 (ZA (ZH Ak (Z0 K Y9) (pv 7))))))))))) aP))))) (ZR (ZI (Θ K (pv 4)) (Zy (8) cN.nd) (ZO (ZW (ZQ lz (Zz cw aQ (ZE Y0 (ZA (pv 8)))) (Z0 K Y9)) aP))) (ZO (Z9 de)))))),?_⟩;have f_:=TD.f_ d hd;have DB:=F0.pw.1;have Mg:=PS.1;have Ue:=f_.way.ne;have FF:∀{H'},au H H'→o8 (fun _=>True) H' ay y d dy wy f9 Gf fT gT:=fun{H'} s'=>F0.keep (fun b o _ e=>s' b o e) (dW.same s') fun _ h=>h
  have V5:∀{H'},au H H'→bU (fun _=>True) H' ay ts es:=fun{H'} s'=>FL.keep (fun b o _ e=>s' b o e) (dW.same s') fun _ h=>h
  refine⟨fun σ H1=>∃P0,σ=[sR a,sR t,sR y,sR w',sR P0,none,none,none,none]∧au H H1∧H1 P0=some (.lst []),⟨aE Xs,fun P0 h0=>⟨P0,rfl,YV h0,ae⟩⟩,?_⟩;rintro σ H1 ⟨P0,rfl,s1,V6⟩;refine⟨fun σ H2=>∃P0 u zs gs,σ=[sR a,sR t,sR y,sR w',sR P0,u,none,none,none]∧au H H2∧H2 P0=some (.lst zs)∧fF H2 zs gs∧∀g∈gs,iM c g=true∧g.length≤2500∧vl (lf (jc c [])) c.out c.into g≤d.worth,?_,?_⟩
  ·have F:=FF s1;refine⟨_,rfl,y,ay,dy,_,_,rfl,F.ob,Fc.cl,Fc.way,fS d.worth wy f9 Gf,wy,_,rfl, .inl (.of F.hw),_,_,rfl,⟨by lia,by lia,by lia,by lia⟩,?_⟩;refine cC (fun j σ H2=>∃P0 u zs gs,σ=[sR a,sR t,sR y,sR w',sR P0,u,none,none,none]∧au H H2∧H2 P0=some (.lst zs)∧zs.length≤2*j∧fF H2 zs gs∧∀g∈gs,iM c g=true∧g.length≤2500∧vl (lf (jc c [])) c.out c.into g≤d.worth) ⟨P0,_,[],[],rfl,s1,V6,XU, .nil,fun g h=>by cases h⟩ ?_ ?_
   ·rintro j σ H2 hj ⟨P1,u,zs,gs,rfl,s2,Ug,aaM,WL,hg⟩;have hj:j+1<fT.length:=by have:j<((fT.length:Nat)-(1:Int)).toNat:=hj;lia
    have F:=FF s2;refine⟨_,rfl,_,rfl,y,ay,dy,_,_,rfl,F.ob,Fc.cl,Fc.way,fS d.worth wy f9 Gf,_,rfl,_,rfl,wy,fT,rfl, .of F.hw,fun z1 Gb=>?_⟩;rw[yN IL (by lia),show(1+(j:Int)).toNat=j+1 by lia];have sz:=au.upd (o:= .lst (fT.drop (j+1))) Gb;have F:=FF (s2.trans sz);refine⟨_,rfl,y,ay,dy,_,_,rfl,F.ob,Fc.cl,Fc.way,fS d.worth wy f9 Gf,_,rfl,_,rfl,wy,fT,rfl, .of F.hw,fun z2 Gm=>?_⟩;rw[EZ IL (by lia),show(1+(j:Int)).toNat=j+1 by lia];have sy:=sz.trans (au.upd (o:= .lst (fT.take (j+1))) Gm);have h1:=au.upd (o:= .lst (fT.take (j+1))) Gm _ _ (ae (H:=H2) (a:=z1) (o:= .lst (fT.drop (j+1))));have h2:upd (upd H2 z1 (.lst (fT.drop (j+1)))) z2 (.lst (fT.take (j+1))) z2=some (.lst (fT.take (j+1))):=ae;have F:=FF (s2.trans sy);refine⟨aE Xs,fun q hq=>?_⟩;have sx:=sy.trans (au.upd (o:= .lst [.ref z1, .ref z2]) hq);have h1:=au.upd (o:= .lst [.ref z1, .ref z2]) hq _ _ h1;have h2:=au.upd (o:= .lst [.ref z1, .ref z2]) hq _ _ h2;have h3:upd (upd (upd H2 z1 (.lst (fT.drop (j+1)))) z2 (.lst (fT.take (j+1)))) q (.lst [.ref z1, .ref z2]) q=some (.lst [.ref z1, .ref z2]):=ae;generalize upd (upd (upd H2 z1 (.lst (fT.drop (j+1)))) z2 (.lst (fT.take (j+1)))) q (.lst [.ref z1, .ref z2])=H3 at sx h1 h2 h3;refine⟨P1,q,zs,_,rfl,rfl,sx _ _ Ug,h3,aE Ξ,fun P2 Uh=>?_⟩;have sw:=sx.trans (au.upd (o:= .lst (zs++[.ref z1, .ref z2])) Uh);have Fw:=F0.pw.same (s2.trans sw);have e1:((1:Int)+j)=((j+1:Nat):Int):=by lia
    have ds:=(List.take_append_drop (j+1) d.way).symm;have dl:j+1<d.way.length:=by lia
    have n1:d.way.take (j+1)≠[]:=fun z=>by have:=congrArg List.length z;rw[List.length_take,List.length_nil]at this;lia
    have n2:d.way.drop (j+1)≠[]:=fun z=>by have:=congrArg List.length z;rw[List.length_drop,List.length_nil]at this;lia
    have pt:=f_.part _ _ ds n1 n2;have fw:=f_.way;rw[ds]at fw;refine⟨P2,_,_,gs++([d.way.drop (j+1)]++[d.way.take (j+1)]),rfl,s2.trans sw,ae,by simp;lia,(WL.same sw).append ((fF.one (au.upd Uh _ _ h1) (Fw.drop _)).append (.one (au.upd Uh _ _ h2) (Fw.take _))),fun g IB=>?_⟩;rcases List.mem_append.mp IB with IB|IB
    ·exact hg g IB
    ·rcases List.mem_append.mp IB with IB|IB
     ·have:g=d.way.drop (j+1):=by simpa using IB
      subst this;exact⟨lT (fw.right n2),by rw[List.length_drop];lia,pt.2⟩
     ·have:g=d.way.take (j+1):=by simpa using IB
      subst this;exact⟨lT (fw.left n1),by rw[List.length_take];lia,pt.1⟩
   ·rintro σ H2 ⟨P1,u,zs,gs,rfl,s2,Ug,_,WL,hg⟩;exact⟨P1,u,zs,gs,rfl,s2,Ug,WL,hg⟩
  clear V6 s1 P0 H1;rintro σ H2 ⟨P0,u,zs,gs,rfl,s2,hP,WL,hg⟩;obtain⟨V7,V8⟩:=A3 An;refine⟨fun σ H3=>(∃u v w,σ=[sR a,sR t,sR y,sR w',sR P0,u,v,w,none])∧au H2 H3,?_,?_⟩
  ·refine⟨_,rfl,w',_,rfl, .inl (.of (s2 _ _ hw)),_,rfl,by lia,by lia,?_⟩;refine cC (fun k σ H3=>(∃u v w,σ=[sR a,sR t,sR y,sR w',sR P0,u,v,w,none])∧au H2 H3) ⟨⟨_,_,_,rfl⟩, .refl _⟩ ?_ (fun _ _ h=>h);rintro k σ H3 hk ⟨⟨u1,u2,u3,rfl⟩,s3⟩;have hk:k<ws.length:=by have:k<((ws.length:Nat):Int).toNat:=hk;lia
   have zk:=s2.trans s3;obtain⟨tf,f1,f2⟩:=F0.pw.first Ue;obtain⟨tl,f3,f4⟩:=F0.pw.last Ue;rw[xh Ue]at f4;refine⟨fun σ H4=>∃Hd hs qs,σ=[sR a,sR t,sR y,sR w',sR P0,sI ((0+(k:Int))),sR Hd,u3,none]∧au H3 H4∧H4 Hd=some (.lst hs)∧eF H4 hs qs∧qs.Sublist ps∧∀q∈qs,qD q (jZ d.way),?_,?_⟩
   ·refine⟨_,rfl,_,rfl,_,rfl,w',ws,rfl, .of (zk _ _ hw),fun z hz=>⟨z,rfl,⟨_, .of ae⟩,fun D hD=>?_⟩⟩;rw[yN IL (by lia),show(0+(k:Int)).toNat=k by lia]at*;have sz:=au.upd (o:= .lst (ws.drop k)) hz;have Gb:upd H3 z (.lst (ws.drop k)) z=some (.lst (ws.drop k)):=ae;generalize upd H3 z (.lst (ws.drop k))=H4 at sz Gb hD;have PD:=(PS.same (zk.trans sz)).drop k;refine fZ (xs:=ws.drop k) (fun i ys bx H5=>(∃u,bx=[u,sR y])∧H5 D=some (.lst ys)∧au H4 H5∧ys.length≤i∧∃qs,eF H4 ys qs∧qs.Sublist ((ps.drop k).take i)∧∀q∈qs,qD q (jZ d.way)) ⟨⟨_,rfl⟩,ae,YV hD,XU,[], .nil,XU,fun q h=>by cases h⟩ ?_ ?_ ?_
    ·rintro i ys bx H5 _ ⟨_,_,s5,_⟩;exact .of (s5 _ _ Gb)
    ·rintro i v ys bx H5 hv ⟨⟨u,rfl⟩,uK,s5,yl,qs,PQ,sub,mz⟩;have hi:i<(ps.drop k).length:=by rw[←PD.1];exact(ZF hv).1
     have DP:i≤2000:=by rw[List.length_drop]at hi;lia
     have ei:(ps.drop k)[i]?=some (ps.drop k)[i]:=by simp[hi]
     generalize (ps.drop k)[i]=g at ei;obtain⟨tt,g1,g2⟩:=PD.2 i g ei;rw[hv]at g1;cases g1;have et:(ps.drop k).take (i+1)=(ps.drop k).take i++[g]:=by rw[List.take_succ,ei];rfl
     have F:=FF ((zk.trans sz).trans s5);have V9:=((zk.trans sz).trans s5) _ _ f2;have Pj:=s5 _ _ g2;refine⟨_,rfl,tt,_,0,_,rfl,rfl, .of Pj,Y' (j:=0),_,rfl,y,ay,dy,_,_,rfl,F.ob,Fc.cl,Fc.way,fS d.worth wy f9 Gf,wy,_,0,_,rfl,rfl, .of F.hw,f1,tf,_,0,_,rfl,rfl, .of V9,Y' (j:=0),_,_,rfl,rfl,_,rfl,?_⟩;refine aX (fun c1=>?_) (fun _=>fQ ⟨⟨_,rfl⟩,uK,s5,by lia,qs,PQ,by rw[et];exact sub.trans (List.sublist_append_left _ _),mz⟩);refine⟨_,rfl,tt,_,1,_,rfl,rfl, .of Pj,Y' (j:=1),_,rfl,y,ay,dy,_,_,rfl,F.ob,Fc.cl,Fc.way,fS d.worth wy f9 Gf,wy,_,0,_,rfl,rfl, .of F.hw,f1,tf,_,1,_,rfl,rfl, .of V9,Y' (j:=1),_,_,rfl,rfl,_,rfl,?_⟩;refine aX (fun c2=>?_) (fun _=>⟨⟨_,rfl⟩,uK,s5,by lia,qs,PQ,by rw[et];exact sub.trans (List.sublist_append_left _ _),mz⟩);refine⟨_,rfl,uK,ba IL,⟨_,rfl⟩,ae,s5.eL hD,by simp;lia,qs++[g],PQ.snoc g2,by rw[et];exact sub.append (List.Sublist.refl _),fun q' yA=>?_⟩;rcases List.mem_append.mp yA with yA|yA
     ·exact mz q' yA
     ·have:q'=g:=by simpa using yA
      subst this;exact⟨by simpa using c1,by simpa using c2⟩
    ·rintro ys bx H5 ⟨_,uK,s5,yl,qs,PQ,sub,mz⟩;exact⟨D,ys,qs,rfl,sz.trans s5,uK,PQ.same s5,sub.trans ((List.take_sublist _ _).trans (List.drop_sublist _ _)),mz⟩
   rintro σ H4 ⟨Hd,hs,qs,rfl,s4,YQ,PQ,sub,mz⟩;have Pk:=zk.trans s4;refine⟨fun σ H5=>∃Tl ls rs,σ=[sR a,sR t,sR y,sR w',sR P0,sI ((0+(k:Int))),sR Hd,sR Tl,none]∧au H4 H5∧H5 Tl=some (.lst ls)∧eF H5 ls rs∧rs.Sublist ps∧∀q∈rs,qD (lstP d.way) q,?_,?_⟩
   ·refine⟨_,rfl,_,rfl,_,_,rfl,rfl,_,rfl,w',ws,rfl, .of (Pk _ _ hw),fun z hz=>⟨z,rfl,⟨_, .of ae⟩,fun D hD=>?_⟩⟩;rw[EZ IL (by lia),show(0+(k:Int)+1).toNat=k+1 by lia]at*;have sz:=au.upd (o:= .lst (ws.take (k+1))) hz;have Gb:upd H4 z (.lst (ws.take (k+1))) z=some (.lst (ws.take (k+1))):=ae;generalize upd H4 z (.lst (ws.take (k+1)))=H5 at sz Gb hD;have PD:=(PS.same (Pk.trans sz)).take (k+1);refine fZ (xs:=ws.take (k+1)) (fun i ys bx H6=>(∃u,bx=[u,sR y])∧H6 D=some (.lst ys)∧au H5 H6∧ys.length≤i∧∃qs,eF H5 ys qs∧qs.Sublist ((ps.take (k+1)).take i)∧∀q∈qs,qD (lstP d.way) q) ⟨⟨_,rfl⟩,ae,YV hD,XU,[], .nil,XU,fun q h=>by cases h⟩ ?_ ?_ ?_
    ·rintro i ys bx H6 _ ⟨_,_,s5,_⟩;exact .of (s5 _ _ Gb)
    ·rintro i v ys bx H6 hv ⟨⟨u,rfl⟩,uK,s5,yl,qs,PQ,sub,mz⟩;have hi:i<(ps.take (k+1)).length:=by rw[←PD.1];exact(ZF hv).1
     have DP:i≤2000:=by rw[List.length_take]at hi;lia
     have ei:(ps.take (k+1))[i]?=some (ps.take (k+1))[i]:=Χ hi;generalize (ps.take (k+1))[i]=g at ei;obtain⟨tt,g1,g2⟩:=PD.2 i g ei;rw[hv]at g1;cases g1;have et:(ps.take (k+1)).take (i+1)=(ps.take (k+1)).take i++[g]:=by rw[List.take_succ,ei];rfl
     have F:=FF ((Pk.trans sz).trans s5);have V_:=((Pk.trans sz).trans s5) _ _ f4;have Pj:=s5 _ _ g2;refine⟨_,rfl,tt,_,0,_,rfl,rfl, .of Pj,Y' (j:=0),_,rfl,y,ay,dy,_,_,rfl,F.ob,Fc.cl,Fc.way,fS d.worth wy f9 Gf,_,rfl,wy,_,_,_,rfl,rfl, .of F.hw,f3,tl,_,0,_,rfl,rfl, .of V_,Y' (j:=0),_,_,rfl,rfl,_,rfl,?_⟩;refine aX (fun c1=>?_) (fun _=>fQ ⟨⟨_,rfl⟩,uK,s5,by lia,qs,PQ,by rw[et];exact sub.trans (List.sublist_append_left _ _),mz⟩);refine⟨_,rfl,tt,_,1,_,rfl,rfl, .of Pj,Y' (j:=1),_,rfl,y,ay,dy,_,_,rfl,F.ob,Fc.cl,Fc.way,fS d.worth wy f9 Gf,_,rfl,wy,_,_,_,rfl,rfl, .of F.hw,f3,tl,_,1,_,rfl,rfl, .of V_,Y' (j:=1),_,_,rfl,rfl,_,rfl,?_⟩;refine aX (fun c2=>?_) (fun _=>⟨⟨_,rfl⟩,uK,s5,by lia,qs,PQ,by rw[et];exact sub.trans (List.sublist_append_left _ _),mz⟩);refine⟨_,rfl,uK,ba IL,⟨_,rfl⟩,ae,s5.eL hD,by simp;lia,qs++[g],PQ.snoc g2,by rw[et];exact sub.append (List.Sublist.refl _),fun q' yA=>?_⟩;rcases List.mem_append.mp yA with yA|yA
     ·exact mz q' yA
     ·have:q'=g:=by simpa using yA
      subst this;exact⟨by simpa using c1,by simpa using c2⟩
    ·rintro ys bx H6 ⟨_,uK,s5,yl,qs,PQ,sub,mz⟩;exact⟨D,ys,qs,rfl,sz.trans s5,uK,PQ.same s5,sub.trans ((List.take_sublist _ _).trans (List.take_sublist _ _)),mz⟩
   rintro σ H5 ⟨Tl,ls,rs,rfl,s5,YR,PR,L6,Ui⟩;have V':=Pk.trans s5;have F:=FF V';have ql:=sub.length_le;have rl:=L6.length_le;have PV:=PQ.1;have Zw:=PR.1;have W1:=lT (H_ (V7.sublist sub) (fun q hq=>V8 q (sub.subset hq)) f_.way mz);have W2:=lT (Ia (V7.sublist L6) (fun q hq=>V8 q (L6.subset hq)) f_.way Ui);refine⟨_,rfl,_,rfl,_,rfl,_,rfl,y,ay,dy,_,_,rfl,F.ob,Fc.cl,Fc.way,fS d.worth wy f9 Gf,Hd,wy,hs,fT,rfl,rfl,s5 _ _ YQ,F.hw,aE IL,fun z1 Gb=>?_⟩;have sz:=au.upd (o:= .lst (hs++fT)) Gb;have sA:=V'.trans sz;refine⟨a,t,z1,c,x1,x2,m,l,us,ts,es,_,_,rfl,C1.keep sA,num,sA _ _ ht,V5 sA,ae,((PQ.same s5).append F.pw).same sz,by rw[List.length_append];lia,W1,TD,fun H6 s6=>⟨_,rfl,?_⟩⟩;refine fQ ?_;have Wa:=sA.trans s6;have F:=FF Wa;have Uj:=sz.trans s6;refine⟨_,rfl,_,rfl,_,rfl,y,ay,dy,_,_,rfl,F.ob,Fc.cl,Fc.way,fS d.worth wy f9 Gf,_,rfl,wy,Tl,fT,ls,rfl,rfl,F.hw,Uj _ _ YR,aE IL,fun z2 Gm=>?_⟩;have sy:=au.upd (o:= .lst (fT++ls)) Gm;have sB:=Wa.trans sy;refine⟨a,t,z2,c,x1,x2,m,l,us,ts,es,_,_,rfl,C1.keep sB,num,sB _ _ ht,V5 sB,ae,(F.pw.append (PR.same Uj)).same sy,by rw[List.length_append];lia,W2,TD,fun H7 s7=>⟨_,rfl,?_⟩⟩;refine fQ ?_;exact⟨⟨_,_,_,rfl⟩,((((s3.trans s4).trans s5).trans Uj).trans sy).trans s7⟩
  rintro σ H3 ⟨⟨u1,u2,u3,rfl⟩,s3⟩;have zk:=s2.trans s3;have YS:=WL.same s3;have zl:=WL.1;refine⟨fun σ H4=>H4=H3,?_,fun σ H4 e=>by subst e;exact q _ zk⟩;refine⟨_,rfl,P0,rfl,⟨_, .of (s3 _ _ hP)⟩,?_⟩;refine bG (xs:=zs) (fun i σ H4=>(∃v,σ=[sR a,sR t,sR y,sR w',sR P0,u1,u2,u3,v])∧H4=H3) ⟨⟨_,rfl⟩,rfl⟩ ?_ ?_ (fun _ _ h=>h.2)
  ·rintro i σ H4 _ ⟨_,rfl⟩;exact .of (s3 _ _ hP)
  ·rintro i v σ H4 hv ⟨⟨v',rfl⟩,rfl⟩;have hi:i<gs.length:=by rw[←zl];exact(ZF hv).1
   have ei:gs[i]?=some gs[i]:=by simp[hi]
   generalize gs[i]=g at ei;obtain⟨z,YT,k1,k2,k3⟩:=YS.2 i g ei;rw[hv]at k1;cases k1;obtain⟨iw,gl,gv⟩:=hg g (ZS ei);have F:=FF zk;refine⟨_,rfl,_,rfl,a,z,c,x1,x2,m,l,us,YT,g,rfl,C1.keep zk,num,k2,k3,by lia,iw,_,rfl,y,ay,dy,_,_,rfl,F.ob,Fc.cl,Fc.worth,jn d.worth wy f9 Gf,_,_,rfl,rfl,_,rfl,?_⟩;rw[(sU iw).2];exact aX (fun hh=>Y7 hh Ξ) (fun _=>⟨⟨_,rfl⟩,rfl⟩)
variable(jN:bJ P w K mg base true 3 "_law_case" ["_law_script","_law_most"] (w_ K))
variable(jO:bJ P w K mg base true 2 "_law_calm" ["_law_case_here"] xu)
variable(i8:bJ P w K mg base true 2 "_law_drawn" ["_law_case_here","_law_cell"] qx)
variable(i9:bJ P w K mg base true 9 "_law_asked" ["_law_case_here"] (xv ay))
variable(iq:bJ P w K mg base true 4 "_law_anchor" ["_law_case_here","_law_told"] (qO ay))
variable(i_:bJ P w K mg base true 4 "_law_tried" ["_law_case_here","_law_told","_law_one","_law_way"] (uc ay))
theorem n9:aL ["_law_script","_law_case_here","_law_way","_law_told","_law_a","_law_b","_law_one"] ["_law_script"] (av ud):=⟨rfl,rfl,rfl,by decide+kernel,rfl,by decide+kernel,by decide+kernel⟩
include T a_ dY jN jO i8 i9 iq i_ in
theorem L7{f:Addr}{fd:FuncData}(F:jy K "law" "law" ud f fd):a8 P w K mg base (cV P w) true 10 f fd ["_law_script"] (BK K):=by
 refine F.gk n9 Y_ (fun bR A outer s H vs Q E hr h hX=>?_)
 ·obtain⟨a,ns,rfl,_⟩:=h;rfl
 ·obtain⟨a,ns,rfl,hS,hlen,q⟩:=h;refine⟨_,(ZR (Zx (1) n9.nd (Zz jO aQ (ZA (Zz jN aQ (ZE Y0 (ZA (ZC (Η (ZE af (ZE af (ZE af (Z5 af))))) (ZH bM (ZL a_ aQ) af)))))))) (ZR (Zx (2) n9.nd (Zz i8 aQ (ZE Y4 (ZA (ZL a_ aQ))))) (ZR (Zx (3) n9.nd (Zz i9 aQ (ZA Y4))) (ZR (ZW (@PW.pt _ _ _ (Ω (@cU _ _ _ _ (Z' (Z6 (ja K) (by exact rfl) T.fB PyProof.Rows.Boot.«isinstance» (ZE (pv 3) (ZA (@mw _ _ (.ty "list") _ _ (by exact rfl) T.nF PyProof.Rows.Boot.«list» Ζ (WD) (WD))))))) (@pw_or1 _ _ _ _ (@cU _ _ _ _ (Z' (Zz iq aQ (Z_ Y4))))))) aP) (ZR (ZI (@cO _ _ _ _ _ _ (by exact rfl) T.dh (ZA (ZD (aK K) T.cK (ZA Y9))) (YW)) (Zy (4) n9.nd) (ZO (ZI (@vE _ _ _ _ _ _ _ (by exact rfl) T.dh (ZE (pv 4) (ZA (ZD (aK K) T.cK (ZA Y9)))) (YW) (YW)) (Zy (5) n9.nd) (ZO (ZW (@cU _ _ _ _ (Z' (Zz dY aQ (ZE Y4 (ZE (pv 3) (ZA (@gi _ _ _ _ _ _ _ _ _ _ (kf K) (pv 2) (@gh _ _ _ (pv 4)) (@gh _ _ _ (ZH bA (pv 5) af))))))))) aP))))) (ZR (ZI (Θ K (pv 3)) (Zy (6) n9.nd) (ZO (ZW (@cU _ _ _ _ (Z' (Zz i_ aQ (ZE Y4 (ZE (pv 3) (ι (pv 6))))))) aP))) (ZO (Z9 de)))))))),?_⟩;refine⟨fun σ H1=>∃(b:Addr)(c:Case)(x1 x2 m l:Addr)(us:List V),σ=[sR a,sR b,none,none,none,none,none]∧au H H1∧iL H1 b (cz c) x1 x2 m l us∧fG 40 (cz c),?_,?_⟩
  ·obtain⟨mo,Cn,hm⟩:=int_at [12,12,12,12,40] (i:=cell ns 12%5) (by lia) (show cell ns 12%5<(5:Int) by lia);have Gy:mo=12∨mo=40:=by simp at Cn;lia
   refine⟨_,rfl,aE Xs,fun p hp=>⟨_,rfl,a,ns,12,rfl,(YV hp).seq hS,WD,_,_,rfl,rfl,(show(0:Int)<5 by decide),p,_,_,_,rfl,rfl, .of ae,by simpa using hm,a,ns,mo,rfl,(YV hp).seq hS,by lia,by lia,fun H1 b c x1 x2 m l us s1 hb C1 ok=>?_⟩⟩;have hx:=ok.x;have hy:=ok.y;have Uk:fG 60 c:=⟨by lia,by lia,ok.good,ok.same,ok.out,ok.into,ok.least⟩
   have Ul:fG 40 c:=⟨by lia,by lia,ok.good,ok.same,ok.out,ok.into,ok.least⟩
   exact⟨b,c,x1,x2,m,l,us,rfl,C1,Uk,fun H2 b2 m2 s2 rJ uO C2=>⟨b2,c,x1,x2,m2,l,us,rfl,((YV hp).trans s1).trans s2,C2,Ci Ul IL⟩⟩
  rintro σ H1 ⟨b,c,x1,x2,m,l,us,rfl,s1,C1,ok⟩;have L0:=s1.seq hS;have T_:=ok.x;have Ua:=ok.y;refine⟨fun σ H2=>∃(w:Addr)(ws:List V)(ps:List Pr),σ=[sR a,sR b,sR w,none,none,none,none]∧au H1 H2∧H2 w=some (.lst ws)∧eF H2 ws ps∧ps.length≤2000∧fe (cz c) ps ps.length,?_,?_⟩
  ·exact⟨_,rfl,_,rfl,a,ns,13,rfl,L0,WD,b,_,cz c,x1,x2,m,l,us,rfl,C1,by lia,by lia,fun H2 w ws ps s2 hw Gd P2 L2 G2=>⟨w,ws,ps,rfl,s2,Gd,P2,L2,G2⟩⟩
  rintro σ H2 ⟨w,ws,ps,rfl,s2,Gd,P2,L2,An⟩;have C2:=C1.keep s2;refine⟨fun σ H3=>∃(t:Addr)(vs:List V)(es:List Fd),σ=[sR a,sR b,sR w,sR t,none,none,none]∧au H2 H3∧H3 t=some (.lst vs)∧bU (fun _=>True) H3 ay vs es∧dP (jc (cz c) []) (cz c).out (cz c).into (cz c).least es,?_,?_⟩
  ·exact⟨_,rfl,b,c,x1,x2,m,l,us,40,rfl,C2,ok,by lia,fun es TD H3 t vs s3 _ h3 FL=>⟨t,vs,es,rfl,s3,h3,FL.keep (fun _ _ _ h=>h) (fun _ _ h=>h) fun _ _=>trivial,TD⟩⟩
  generalize cz c=c at C1 C2 ok T_ Ua An;have Pl:fG 50 c:=⟨by lia,by lia,ok.good,ok.same,ok.out,ok.into,ok.least⟩
  rintro σ H3 ⟨t,vs,es,rfl,s3,ht,FL,TD⟩;have C3:=C2.keep s3;have QU:=s3 _ _ Gd;have P3:=P2.same s3;have QT:=FL.1;refine⟨fun σ H4=>σ=[sR a,sR b,sR w,sR t,none,none,none]∧au H3 H4,?_,?_⟩
  ·refine⟨_,rfl,_,_,_,true,_,rfl,rfl, .lst ht,rfl,_,rfl,?_⟩;refine fQ ?_;refine⟨_,rfl,_,rfl,b,t,c,x1,x2,m,l,us,vs,es,rfl,C3,Pl,ht,FL,TD,fun H4 s4=>⟨_,rfl,?_⟩⟩;refine fQ ?_;exact⟨rfl,s4⟩
  rintro σ H4 ⟨rfl,s4⟩;have DB:=P3.1;refine⟨fun σ H5=>(∃u1 u2,σ=[sR a,sR b,sR w,sR t,u1,u2,none])∧au H3 H5,?_,?_⟩
  ·refine⟨_,rfl,w,_,rfl, .inl (.of (s4 _ _ QU)),_,rfl,by lia,by lia,?_⟩;refine cC (fun i σ H5=>(∃u1 u2,σ=[sR a,sR b,sR w,sR t,u1,u2,none])∧au H3 H5) ⟨⟨_,_,rfl⟩,s4⟩ ?_ (fun _ _ h=>h);rintro i σ H5 hi ⟨⟨u1,u2,rfl⟩,s5⟩;have hi:i<ps.length:=by rw[←DB];have:i<((ws.length:Nat):Int).toNat:=hi;lia
   refine⟨_,rfl,_,rfl,w,_,rfl, .inl (.of (s5 _ _ QU)),_,_,rfl,⟨by lia,by lia,by lia,by lia⟩,?_⟩;refine cC (fun j σ H5=>(∃u2,σ=[sR a,sR b,sR w,sR t,sI ((0+(i:Int))),u2,none])∧au H3 H5) ⟨⟨_,rfl⟩,s5⟩ ?_ (fun σ H5 ⟨⟨u2,e⟩,s5⟩=>⟨⟨_,_,e⟩,s5⟩);rintro j σ H6 hj ⟨⟨v2,rfl⟩,s6⟩;have hj:i+j<ps.length:=by rw[←DB];have:j<((ws.length:Nat)-(0+(i:Int))).toNat:=hj;lia
   refine⟨_,rfl,_,rfl,_,rfl,_,rfl,_,rfl,_,rfl,_,_,rfl,rfl,_,rfl,w,ws,rfl, .of (s6 _ _ QU),fun y hy=>?_⟩;have e9:qr ws (some (0+(i:Int))) (some (0+(i:Int)+(j:Int)+1))=(ws.drop i).take (j+1):=by
    rw[show(0+(i:Int))=((i:Nat):Int) by lia,show((i:Nat):Int)+(j:Int)+1=((i+j+1:Nat):Int) by lia,HV IL (by lia),show i+j+1-i=j+1 by lia]
   rw[e9];have s7:=s6.trans (au.upd (o:= .lst ((ws.drop i).take (j+1))) hy);have iw:=Dy An (a:=i) (n:=j+1) (by lia) (by lia);refine⟨b,t,y,c,x1,x2,m,l,us,vs,es,_,_,rfl,C3.keep s7,ok.num,s7 _ _ ht,FL.keep (fun b o _ e=>s7 b o e) (dW.same s7) (fun _ h=>h),ae,((P3.drop i).take (j+1)).same s7,by rw[List.length_take,List.length_drop];lia,iw,TD,fun H8 s8=>⟨_,rfl,?_⟩⟩;refine fQ ?_;exact⟨⟨_,rfl⟩,s7.trans s8⟩
  rintro σ H5 ⟨⟨u1,u2,rfl⟩,s5⟩;refine⟨fun σ H6=>True,?_,fun σ H6 _=>q _⟩;refine⟨_,rfl,t,rfl,⟨_, .of (s5 _ _ ht)⟩,?_⟩;refine bG (xs:=vs) (fun k σ H6=>(∃u,σ=[sR a,sR b,sR w,sR t,u1,u2,u])∧au H3 H6) ⟨⟨_,rfl⟩,s5⟩ ?_ ?_ (fun _ _ _=>trivial)
  ·rintro k σ H6 _ ⟨_,s6⟩;exact .of (s6 _ _ ht)
  ·rintro k v σ H6 hv ⟨⟨u,rfl⟩,s6⟩;have hk:k<es.length:=by rw[←QT];exact(ZF hv).1
   have ek:es[k]?=some es[k]:=by simp[hk]
   generalize es[k]=d at ek;have hd:=ZS ek;have Wb:=FL.keep (P':=fun _=>True) (fun b o _ e=>s6 b o e) (dW.same s6) fun _ h=>h
   obtain⟨y,dy,wy,f9,pr,fT,gT,e1,F⟩:=Wb.2 k d ek;rw[hv]at e1;cases e1;have wl:d.way.length≤2500:=by
    have f_:=TD.f_ d hd;have h6:=len_sub d.way d.pairs (f_.way.up.imp fun{a b} h e=>by
     rw[e]at h;have:=h.1
     lia) f_.sub
    have:=TD.F9 Pl (k+1);rw[ub ek,List.length_append]at this
    lia
   refine⟨_,rfl,_,rfl,_,rfl,_,rfl,b,t,y,w,c,x1,x2,m,l,us,vs,es,d,dy,wy,f9,pr,fT,gT,ws,ps,rfl,C3.keep s6,ok.num,s6 _ _ ht,Wb,hd,F,s6 _ _ QU,P3.same s6,L2,wl,An,TD,fun H7 s7=>⟨_,rfl,?_⟩⟩;refine fQ ?_;exact⟨⟨_,rfl⟩,s6.trans s7⟩
end
theorem all_mk{l:W.OpenLaw}{w:World}{K:W.Frag}{h:Heap}{mg:Str→Option Value}{fa:Addr}(X:K.In h)(G:h.Ns mainGlobals mg)(YU:mg "law"=some (.ref fa))
  {pC jP:Option Addr} {pD:Array (Option Value)} {pE jQ jR jS gK jT:Value}
  {gL:Addr} {pF:Value} {pG:Option Addr} {pH:Nat} {pI:Array (Option Value)} {pJ:Tok}
  {aV:Addr} (xH:ON K "Terms" aV)
  {aB:Addr} (uo:ON K "Trails" aB)
  {ay:Addr} (qT:ON K "Finding" ay)
  {aI:Addr} (uq:ON K "Groups" aI)
  {az:Addr} (l7:ON K "Gathering" az)
  {jU:Addr} (pK:W.nsIn K mainGlobals "is_small_letter"=some (some (.ref jU)))
  (pL:fI K "is_small_letter" "is_small_letter" gq jU)
  {wg:Addr} (DC:W.nsIn K mainGlobals "is_word"=some (some (.ref wg)))
  (DD:fI K "is_word" "is_word" mL wg)
  {pM:Addr} (xI:W.nsIn K mainGlobals "is_between"=some (some (.ref pM)))
  (xJ:fI K "is_between" "is_between" kU pM)
  {l8:Addr} (ur:W.nsIn K mainGlobals "check_number"=some (some (.ref l8)))
  (uv:fI K "check_number" "check_number" jq l8)
  {jV:Addr} (pN:W.nsIn K mainGlobals "check_near_form"=some (some (.ref jV)))
  (pO:fI K "check_near_form" "check_near_form" gu jV)
  {nj:Addr} (vj:W.nsIn K mainGlobals "near_prices"=some (some (.ref nj)))
  (vk:fI K "near_prices" "near_prices" hV nj)
  {fE:Addr} (qU:W.findIn K (.ref aV) "__init__"=some (some (.ref fE))) (qV:W.isFn K (.ref fE)=true)
  (qW:K.lookup fE=some ⟨pE,pC, .func (W.fnOf "__init__" "Terms.__init__" (fL bD) (eQ bD) (av bD) (.ref gL) jQ jR jS jP gK jT),pD⟩)
  (qX:W.codeIn K gK "Terms.__init__"=true) (qY:W.keepIn K (.ref fE)=true)
  (pQ:K.lookup gL=some ⟨pF,pG, .seq #[.int 50 pJ, .none] pH,pI⟩)
  {fX:Addr} (n_:W.findIn K (.ref aV) "pair_worth"=some (some (.ref fX))) (oa:W.isFn K (.ref fX)=true)
  (oe:fI K "pair_worth" "Terms.pair_worth" d8 fX)
  {uw:Addr} (Bd:W.nsIn K mainGlobals "greatest"=some (some (.ref uw)))
  (Be:fI K "greatest" "greatest" kW uw)
  {Gg:Addr} (L8:W.nsIn K mainGlobals "less"=some (some (.ref Gg)))
  (L9:fI K "less" "less" A4 Gg)
  {jw:Addr} (oh:W.nsIn K mainGlobals "begun_or_gone_on"=some (some (.ref jw)))
  (oj:fI K "begun_or_gone_on" "begun_or_gone_on" fU jw)
  {dS:Addr} (kD:W.findIn K (.ref aB) "brought_behind"=some (some (.ref dS))) (kE:W.isFn K (.ref dS)=true)
  (kF:fI K "brought_behind" "Trails.brought_behind" dQ dS)
  {gM:Addr} (pR:W.findIn K (.ref aB) "__init__"=some (some (.ref gM))) (pS:W.isFn K (.ref gM)=true)
  (pT:fI K "__init__" "Trails.__init__" eU gM)
  {g8:Addr} (qZ:W.findIn K (.ref aB) "goes_on"=some (some (.ref g8))) (q_:W.isFn K (.ref g8)=true)
  (rf:fI K "goes_on" "Trails.goes_on" g7 g8)
  {eE:Addr} (ll:W.findIn K (.ref aB) "is_brought_by"=some (some (.ref eE))) (lp:W.isFn K (.ref eE)=true)
  (lq:fI K "is_brought_by" "Trails.is_brought_by" d_ eE)
  {cY:Addr} (jA:W.findIn K (.ref aB) "crossings_before"=some (some (.ref cY))) (jB:W.isFn K (.ref cY)=true)
  (jC:fI K "crossings_before" "Trails.crossings_before" cX cY)
  {fv:Addr} (l_:W.findIn K (.ref aB) "pair_before"=some (some (.ref fv))) (l':W.isFn K (.ref fv)=true)
  (ma:fI K "pair_before" "Trails.pair_before" fh fv)
  {iJ:Addr} (sq:W.findIn K (.ref aB) "way_to"=some (some (.ref iJ))) (sr:W.isFn K (.ref iJ)=true)
  (su:fI K "way_to" "Trails.way_to" iI iJ)
  {fY:Addr} (om:W.findIn K (.ref ay) "__init__"=some (some (.ref fY))) (ot:W.isFn K (.ref fY)=true)
  (ow:fI K "__init__" "Finding.__init__" fV fY)
  {ux:Addr} (Bf:W.nsIn K mainGlobals "order_of"=some (some (.ref ux)))
  (Bg:fI K "order_of" "order_of" nS ux)
  {mf:Addr} (uy:W.nsIn K mainGlobals "make_finding"=some (some (.ref mf)))
  (uz:fI K "make_finding" "make_finding" fj mf)
  {gN:Addr} (pU:W.findIn K (.ref aI) "__init__"=some (some (.ref gN))) (pV:W.isFn K (.ref gN)=true)
  (pW:fI K "__init__" "Groups.__init__" gw gN)
  {lr:Addr} (xK:W.findIn K (.ref aI) "has"=some (some (.ref lr))) (xM:W.isFn K (.ref lr)=true)
  (xN:fI K "has" "Groups.has" iT lr)
  {g9:Addr} (rg:W.findIn K (.ref aI) "take_in"=some (some (.ref g9))) (rh:W.isFn K (.ref g9)=true)
  (rj:fI K "take_in" "Groups.take_in" fC g9)
  {jx:Addr} (uA:W.findIn K (.ref aI) "unite"=some (some (.ref jx))) (uB:W.isFn K (.ref jx)=true)
  (uC:fI K "unite" "Groups.unite" fm jx)
  {j9:Addr} (vm:W.findIn K (.ref aI) "told"=some (some (.ref j9))) (vn:W.isFn K (.ref j9)=true)
  (vo:fI K "told" "Groups.told" hZ j9)
  {fz:Addr} (mh:W.findIn K (.ref az) "__init__"=some (some (.ref fz))) (mi:W.isFn K (.ref fz)=true)
  (mj:fI K "__init__" "Gathering.__init__" fo fz)
  {g_:Addr} (rk:W.findIn K (.ref az) "mark"=some (some (.ref g_))) (rm:W.isFn K (.ref g_)=true)
  (rn:fI K "mark" "Gathering.mark" fD g_)
  {fH:Addr} (mY:W.findIn K (.ref az) "go_over"=some (some (.ref fH))) (mZ:W.isFn K (.ref fH)=true)
  (m3:fI K "go_over" "Gathering.go_over" dM fH)
  {gO:Addr} (pX:W.findIn K (.ref az) "visit"=some (some (.ref gO))) (pY:W.isFn K (.ref gO)=true)
  (pZ:fI K "visit" "Gathering.visit" eV gO)
  {nk:Addr} (vp:W.nsIn K mainGlobals "best_groups"=some (some (.ref nk)))
  (vt:fI K "best_groups" "best_groups" j6 nk)
  {wj:Addr} (DE:W.nsIn K mainGlobals "shut_by"=some (some (.ref wj)))
  (DF:fI K "shut_by" "shut_by" mM wj)
  {nq:Addr} (vw:W.nsIn K mainGlobals "open_worths"=some (some (.ref nq)))
  (vx:fI K "open_worths" "open_worths" fJ nq)
  {p4:Addr} (xO:W.nsIn K mainGlobals "make_round"=some (some (.ref p4)))
  (xP:fI K "make_round" "make_round" gy p4)
  {p5:Addr} (xQ:W.nsIn K mainGlobals "shut_pairs"=some (some (.ref p5)))
  (xR:fI K "shut_pairs" "shut_pairs" kX p5)
  {wk:Addr} (DG:W.nsIn K mainGlobals "compare"=some (some (.ref wk)))
  (DH:fI K "compare" "compare" qQ wk)
  {wm:Addr} (DI:W.nsIn K mainGlobals "_law_at"=some (some (.ref wm)))
  (DJ:fI K "_law_at" "_law_at" qR wm)
  {p6:Addr} (xS:W.nsIn K mainGlobals "_law_whole"=some (some (.ref p6)))
  (xT:fI K "_law_whole" "_law_whole" kY p6)
  {rM:Addr} (zm:W.nsIn K mainGlobals "_law_bank"=some (some (.ref rM)))
  (zo:fI K "_law_bank" "_law_bank" lV rM)
  {rN:Addr} (zp:W.nsIn K mainGlobals "_law_book"=some (some (.ref rN)))
  (zq:fI K "_law_book" "_law_book" lW rN)
  {p7:Addr} (xU:W.nsIn K mainGlobals "_law_quote"=some (some (.ref p7)))
  (xV:fI K "_law_quote" "_law_quote" iU p7)
  {mn:Addr} (uD:W.nsIn K mainGlobals "_law_numbers"=some (some (.ref mn)))
  (uE:fI K "_law_numbers" "_law_numbers" gz mn)
  {rO:Addr} (zr:W.nsIn K mainGlobals "_law_near"=some (some (.ref rO)))
  (zt:fI K "_law_near" "_law_near" lX rO)
  {rP:Addr} (zu:W.nsIn K mainGlobals "_law_case"=some (some (.ref rP)))
  (zv:fI K "_law_case" "_law_case" lY rP)
  {rQ:Addr} (zw:W.nsIn K mainGlobals "_law_pair"=some (some (.ref rQ)))
  (zx:fI K "_law_pair" "_law_pair" lZ rQ)
  {p8:Addr} (xW:W.nsIn K mainGlobals "_law_drawn"=some (some (.ref p8)))
  (xX:fI K "_law_drawn" "_law_drawn" iV p8)
  {p9:Addr} (xY:W.nsIn K mainGlobals "_law_worth"=some (some (.ref p9)))
  (xZ:fI K "_law_worth" "_law_worth" kZ p9)
  {p_:Addr} (x_:W.nsIn K mainGlobals "_law_pairs"=some (some (.ref p_)))
  (ya:fI K "_law_pairs" "_law_pairs" k8 p_)
  {qb:Addr} (yb:W.nsIn K mainGlobals "_law_terms"=some (some (.ref qb)))
  (yc:fI K "_law_terms" "_law_terms" k_ qb)
  {rR:Addr} (zy:W.nsIn K mainGlobals "_law_calm"=some (some (.ref rR)))
  (zA:fI K "_law_calm" "_law_calm" l0 rR)
  {mq:Addr} (uF:W.nsIn K mainGlobals "_law_finding"=some (some (.ref mq)))
  (uG:fI K "_law_finding" "_law_finding" gA mq)
  {nr:Addr} (vy:W.nsIn K mainGlobals "_law_is_way"=some (some (.ref nr)))
  (vz:fI K "_law_is_way" "_law_is_way" h_ nr)
  {qc:Addr} (yd:W.nsIn K mainGlobals "_law_spots"=some (some (.ref qc)))
  (ye:fI K "_law_spots" "_law_spots" iW qc)
  {ny:Addr} (vA:W.nsIn K mainGlobals "_law_anchor"=some (some (.ref ny)))
  (vB:fI K "_law_anchor" "_law_anchor" ic ny)
  {qd:Addr} (yf:W.nsIn K mainGlobals "_law_asked"=some (some (.ref qd)))
  (yg:fI K "_law_asked" "_law_asked" la qd)
  {rS:Addr} (zB:W.nsIn K mainGlobals "_law_fine"=some (some (.ref rS)))
  (zC:fI K "_law_fine" "_law_fine" iC rS)
  {qe:Addr} (yh:W.nsIn K mainGlobals "_law_tried"=some (some (.ref qe)))
  (yi:fI K "_law_tried" "_law_tried" gB qe)
  {JK:Addr} (Pn:W.nsIn K mainGlobals "law"=some (some (.ref JK)))
  (Po:fI K "law" "law" ud JK)
  (Tc:EJ K aV)
  (Rc:BQ K aB)
  (Fc:Js K ay)
  (Gc:Oz K aI)
  (Hc:Jw K az)
  (zz:TZ K)
  {zD:Tok} (zE:W.nsIn K mainGlobals "WORD_MOST"=some (some (.int 12 zD)))
  {yj:Tok} (yk:W.nsIn K mainGlobals "WORTH_MOST"=some (some (.int 999999 yj)))
  {zF:Tok} (zG:W.nsIn K mainGlobals "NEAR_MOST"=some (some (.int 60 zF)))
  {zH:Tok} (zI:W.nsIn K mainGlobals "PART_MOST"=some (some (.int 100 zH)))
  {sD:Tok} (sE:W.nsIn K mainGlobals "FINDINGS_MOST"=some (some (.int 20 sD)))
  {ed:Addr} (Bh:OM K "BadTerms" ed)
  {cZ:Addr} (DK:OM K "BadNear" cZ)
  {kq:Addr} (DL:OM K "TooMany" kq)
  (Bi:W.nsIn K mainGlobals "reversed"=some none)
  (Gh:W.nsIn K mainGlobals "sorted"=some none)
  :∃fd:FuncData,(∀(s:Shared)(v:Value),BindsTo s fd ⟨[v],[]⟩ [("_law_script",v)])∧∀base:Heap,K.In base→base.Ns mainGlobals mg→a8 l.prog w K mg base (cV l.prog w) true 10 fa fd ["_law_script"] (BK K):=by
 have e:=YU.symm.trans (W.mg_of X G Pn);cases e;have T:=zz.tb X G;have jH:Ec mg "WORD_MOST" (.int 12):=⟨_,W.mg_of X G zE,_,rfl⟩
 have bQ:Ec mg "WORTH_MOST" (.int 999999):=⟨_,W.mg_of X G yk,_,rfl⟩
 have iD:Ec mg "NEAR_MOST" (.int 60):=⟨_,W.mg_of X G zG,_,rfl⟩
 have jI:Ec mg "PART_MOST" (.int 100):=⟨_,W.mg_of X G zI,_,rfl⟩
 have eG:Ec mg "FINDINGS_MOST" (.int 20):=⟨_,W.mg_of X G sE,_,rfl⟩
 have jr:=Bh.er X G;have bZ:=DK.er X G;have kC:=DL.er X G;have L_:mg "reversed"=none:=W.mg_none_of X G Bi;have ju:mg "sorted"=none:=W.mg_none_of X G Gh;obtain @⟨_,k1,k2,k3,k4,k5,_,k6,_,l9,c9,k9⟩:=Po;refine⟨W.fnOf "law" "law" (fL ud) (eQ ud) (av ud) .none k1 k2 k3 k6 k4 k5,fun s v=> .of_eq rfl,fun base _ _=>?_⟩;have eW:=pL.df X G pK (fun _ F=>nV (P:=l.prog) (w:=w) (base:=base) T F) (Cj fun _ _ _ _ _ _ _=>rfl);have kr:=DD.df X G DC (fun _ F=>A6 (P:=l.prog) (w:=w) (base:=base) T jH eW F) (Cj fun _ _ _ _ _ _ _=>rfl);have eh:=xJ.df X G xI (fun _ F=>uU (P:=l.prog) (w:=w) (base:=base) T F) (zS fun _ _ _ _ _ _ _ _ _=>rfl);have cA:=uv.df X G ur (fun _ F=>r9 (P:=l.prog) (w:=w) (base:=base) T eh jr F) (Qu fun _ _ _ _ _ _ _ _ _ _=>rfl);have eX:=pO.df X G pN (fun _ F=>nX (P:=l.prog) (w:=w) (base:=base) T eh bQ kr bZ F) (zS fun _ _ _ _ _ _ _ _ _=>rfl);have ie:=vk.df X G vj (fun _ F=>ue (P:=l.prog) (w:=w) (base:=base) T bZ iD eX F) (Cj fun _ _ _ _ _ _ _=>rfl);have rp:=BH (st:=bD) qW qX qY;have rq:=pe (P:=l.prog) (w:=w) (base:=base) T bQ jI cA ie Tc rp;have Bj:Binds K (W.fnOf "__init__" "Terms.__init__" (fL bD) (eQ bD) (av bD) (.ref gL) jQ jR jS jP gK jT) ["self","same","out","into","least","part","near"] []:=fun s us hK hl=>by
  obtain⟨_,_,_,_,_,_,_,rfl⟩:=QF.RV us (by simpa using hl);exact BindsTo.of_defaults rfl (hK _ _ pQ) rfl rfl rfl
 have pB:m6 l.prog w K mg base true 5 "Terms" aV ["self","same","out","into","least","part","near"] [] (sM aV ed cZ):=yK rq ⟨xH.b,qU,qV,xH.c⟩ (W.mg_of X G xH.a) Bj (.nil);have eC:=oe.mt Tc.cl n_ oa (fun _ F=>mS (P:=l.prog) (w:=w) (base:=base) T Tc F) (zS fun _ _ _ _ _ _ _ _ _=>rfl);have ft:=Be.df X G Bd (fun _ F=>zh (P:=l.prog) (w:=w) (base:=base) T F) (Cj fun _ _ _ _ _ _ _=>rfl);have lb:=L9.df X G L8 (fun _ F=>Ic (P:=l.prog) (w:=w) (base:=base) T F) (xw fun _ _ _ _ _ _ _ _=>rfl);have eA:=oj.df X G oh (fun _ F=>mU (P:=l.prog) (w:=w) (base:=base) T F) (xw fun _ _ _ _ _ _ _ _=>rfl);have cD:=kF.mt Rc.cl kD kE (fun _ F=>j7 (P:=l.prog) (w:=w) (base:=base) T ft lb Rc F) (zS fun _ _ _ _ _ _ _ _ _=>rfl);have mQ:=pT.nw (W.mg_of X G uo.a) uo.b uo.c pR pS (fun _ F=>nY (P:=l.prog) (w:=w) (base:=base) T Tc Rc eA cD F) (zS fun _ _ _ _ _ _ _ _ _=>rfl);have b_:=rf.mt Rc.cl qZ q_ (fun _ F=>ph (P:=l.prog) (w:=w) (base:=base) T Rc F) (xw fun _ _ _ _ _ _ _ _=>rfl);have bg:=lq.mt Rc.cl ll lp (fun _ F=>ky (P:=l.prog) (w:=w) (base:=base) T Rc F) (zS fun _ _ _ _ _ _ _ _ _=>rfl);have aY:=jC.mt Rc.cl jA jB (fun _ F=>jt (P:=l.prog) (w:=w) (base:=base) T lb Rc F) (xw fun _ _ _ _ _ _ _ _=>rfl);have dC:=ma.mt Rc.cl l_ l' (fun _ F=>lG (P:=l.prog) (w:=w) (base:=base) T Rc bg aY F) (xw fun _ _ _ _ _ _ _ _=>rfl);have fN:=su.mt Rc.cl sq sr (fun _ F=>qS (P:=l.prog) (w:=w) (base:=base) T Rc b_ dC F) (xw fun _ _ _ _ _ _ _ _=>rfl);have lg:=ow.nw (W.mg_of X G qT.a) qT.b qT.c om ot (fun _ F=>mW (P:=l.prog) (w:=w) (base:=base) T Fc F) (U7 fun _ _ _ _ _ _ _ _ _ _ _=>rfl);have lh:=Bg.df X G Bf (fun _ F=>zj (P:=l.prog) (w:=w) (base:=base) T Fc F) (Cj fun _ _ _ _ _ _ _=>rfl);have gD:=uz.df X G uy (fun _ F=>si (P:=l.prog) (w:=w) (base:=base) T Rc fN lg F) (zS fun _ _ _ _ _ _ _ _ _=>rfl);have mO:=pW.nw (W.mg_of X G uq.a) uq.b uq.c pU pV (fun _ F=>n5 (P:=l.prog) (w:=w) (base:=base) T Gc F) (Cj fun _ _ _ _ _ _ _=>rfl);have iX:=xN.mt Gc.cl xK xM (fun _ F=>uW (P:=l.prog) (w:=w) (base:=base) T Gc F) (xw fun _ _ _ _ _ _ _ _=>rfl);have cb:=rj.mt Gc.cl rg rh (fun _ F=>px (P:=l.prog) (w:=w) (base:=base) T Gc F) (xw fun _ _ _ _ _ _ _ _=>rfl);have cR:=uC.mt Gc.cl uA uB (fun _ F=>sj (P:=l.prog) (w:=w) (base:=base) T Gc F) (zS fun _ _ _ _ _ _ _ _ _=>rfl);have ig:=vo.mt Gc.cl vm vn (fun _ F=>ug (P:=l.prog) (w:=w) (base:=base) T Gc ju F) (Cj fun _ _ _ _ _ _ _=>rfl);have iY:=mj.nw (W.mg_of X G l7.a) l7.b l7.c mh mi (fun _ F=>lI (P:=l.prog) (w:=w) (base:=base) T mO Hc F) (zS fun _ _ _ _ _ _ _ _ _=>rfl);have cc:=rn.mt Hc.cl rk rm (fun _ F=>pA (P:=l.prog) (w:=w) (base:=base) T Hc cR F) (zS fun _ _ _ _ _ _ _ _ _=>rfl);have dN:=m3.mt Hc.cl mY mZ (fun _ F=>l5 (P:=l.prog) (w:=w) (base:=base) T bg aY Hc cR cb cc F) (zS fun _ _ _ _ _ _ _ _ _=>rfl);have eY:=pZ.mt Hc.cl pX pY (fun _ F=>n6 (P:=l.prog) (w:=w) (base:=base) T Rc b_ Hc cb cc iX dN F) (zS fun _ _ _ _ _ _ _ _ _=>rfl);have ij:=vt.df X G vp (fun _ F=>uh (P:=l.prog) (w:=w) (base:=base) T Rc Hc iY eY ig F) (xw fun _ _ _ _ _ _ _ _=>rfl);have mP:=DF.df X G DE (fun _ F=>A9 (P:=l.prog) (w:=w) (base:=base) T F) (Cj fun _ _ _ _ _ _ _=>rfl);have il:=vx.df X G vw (fun _ F=>ui (P:=l.prog) (w:=w) (base:=base) T Tc mP eC F) (Qu fun _ _ _ _ _ _ _ _ _ _=>rfl);have gE:=xP.df X G xO (fun _ F=>uX (P:=l.prog) (w:=w) (base:=base) T Tc ft Rc mQ ij gD F) (xw fun _ _ _ _ _ _ _ _=>rfl);have iZ:=xR.df X G xQ (fun _ F=>uY (P:=l.prog) (w:=w) (base:=base) T Fc F) (xw fun _ _ _ _ _ _ _ _=>rfl);have mR:=DH.df X G DG (fun _ F=>A_ (P:=l.prog) (w:=w) (base:=base) T ju eG il gE iZ lh kC F) (zS fun _ _ _ _ _ _ _ _ _=>rfl);have a_:=DJ.df X G DI (fun _ F=>Bb (P:=l.prog) (w:=w) (base:=base) T F) (xw fun _ _ _ _ _ _ _ _=>rfl);have cJ:=xT.df X G xS (fun _ F=>u0 (P:=l.prog) (w:=w) (base:=base) T F) (Cj fun _ _ _ _ _ _ _=>rfl);have jK:=zo.df X G zm (fun _ F=>xA (P:=l.prog) (w:=w) (base:=base) T F) (zS fun _ _ _ _ _ _ _ _ _=>rfl);have jL:=zq.df X G zp (fun _ F=>xB (P:=l.prog) (w:=w) (base:=base) T a_ F) (U7 fun _ _ _ _ _ _ _ _ _ _ _=>rfl);have i4:=xV.df X G xU (fun _ F=>u7 (P:=l.prog) (w:=w) (base:=base) T a_ F) (XB fun _ _ _ _ _ _ _ _ _ _ _ _=>rfl);have gG:=uE.df X G uD (fun _ F=>sk (P:=l.prog) (w:=w) (base:=base) T a_ F) (xw fun _ _ _ _ _ _ _ _=>rfl);have jM:=zt.df X G zr (fun _ F=>xC (P:=l.prog) (w:=w) (base:=base) T F) (zS fun _ _ _ _ _ _ _ _ _=>rfl);have jN:=zv.df X G zu (fun _ F=>xD (P:=l.prog) (w:=w) (base:=base) T a_ jK jL i4 gG jM F) (xw fun _ _ _ _ _ _ _ _=>rfl);have bo:=zx.df X G zw (fun _ F=>xE (P:=l.prog) (w:=w) (base:=base) T F) (Qu fun _ _ _ _ _ _ _ _ _ _=>rfl);have i8:=xX.df X G xW (fun _ F=>u9 (P:=l.prog) (w:=w) (base:=base) T bo F) (xw fun _ _ _ _ _ _ _ _=>rfl);have cw:=xZ.df X G xY (fun _ F=>u_ (P:=l.prog) (w:=w) (base:=base) T bo F) (xw fun _ _ _ _ _ _ _ _=>rfl);have gH:=ya.df X G x_ (fun _ F=>va (P:=l.prog) (w:=w) (base:=base) T cJ F) (Cj fun _ _ _ _ _ _ _=>rfl);have i7:=yc.df X G yb (fun _ F=>vc (P:=l.prog) (w:=w) (base:=base) T pB F) (Cj fun _ _ _ _ _ _ _=>rfl);have jO:=zA.df X G zy (fun _ F=>xF (P:=l.prog) (w:=w) (base:=base) T bo F) (Cj fun _ _ _ _ _ _ _=>rfl);have gJ:=uG.df X G uF (fun _ F=>so (P:=l.prog) (w:=w) (base:=base) T Fc cJ gH F) (Cj fun _ _ _ _ _ _ _=>rfl);have ip:=vz.df X G vy (fun _ F=>uk (P:=l.prog) (w:=w) (base:=base) T bo F) (xw fun _ _ _ _ _ _ _ _=>rfl);have i6:=ye.df X G yd (fun _ F=>ve (P:=l.prog) (w:=w) (base:=base) T bo F) (xw fun _ _ _ _ _ _ _ _=>rfl);have iq:=vB.df X G vA (fun _ F=>um (P:=l.prog) (w:=w) (base:=base) T Fc gJ ip cw i6 F) (xw fun _ _ _ _ _ _ _ _=>rfl);have i9:=yg.df X G yf (fun _ F=>vh (P:=l.prog) (w:=w) (base:=base) T mR i7 F) (Cj fun _ _ _ _ _ _ _=>rfl);have dY:=zC.df X G zB (fun _ F=>xG (P:=l.prog) (w:=w) (base:=base) T Fc cw F) (zS fun _ _ _ _ _ _ _ _ _=>rfl);have i_:=yi.df X G yh (fun _ F=>vi (P:=l.prog) (w:=w) (base:=base) T Fc cw dY F) (Qu fun _ _ _ _ _ _ _ _ _ _=>rfl);exact L7 T a_ dY jN jO i8 i9 iq i_ (Ex (st:=ud) l9 c9 k9)
theorem walk{l:W.OpenLaw}{q:Program}{loose:List Str}{XP:(Str→Option Value)→Heap→Prop}{YP:World→Heap→Prop}{d:DefRec}{K:Params→W.Frag}(hn:l.most=some 63)(NJ:d.params.defaults=[])
  (hY:∀(w:World)(h:Heap),YP w h→(K w.params).In h)
  (F:∀(w:World)(mg:Str→Option Value)(fa:Addr)(h:Heap),(K w.params).In h→h.Ns mainGlobals mg→mg d.name=some (.ref fa)→
   ∃fd:FuncData,(∀(s:Shared)(u:Value),BindsTo s fd ⟨[u],[]⟩ [("_law_script",u)])∧∀base:Heap,(K w.params).In base→base.Ns mainGlobals mg→a8 l.prog w (K w.params) mg base (cV l.prog w) true 10 fa fd ["_law_script"] (BK (K w.params))):
  W.WalkO q loose XP YP l.row.toRowW d [] (fun f vs=>PySem.call f vs):=
 L2.G6 (n:=63) (k:=10) (x:="_law_script") (CX:=fun w=>cV l.prog w) (sp:=fun w=>BK (K w.params)) hn (WD) NJ ⟨(fun _=>rfl),WD,WD⟩ hY F (fun _ _ a ns hl _ hS=>⟨a,ns,rfl,hS,hl,fun _=>rfl⟩) fun _ _ _ _ _ z=>by obtain⟨_,_,_,_,_,_,_,_,_,_,_,_,_,z⟩:=z;exact z
end SM
open PySem PySem.W PyProof.Rows
set_option maxRecDepth 100000 in
set_option maxHeartbeats 0 in
theorem PySem.Challenge.cw_quotefind_k20_none_better_holds : PySem.Challenge.rw_quotefind_k20_none_better.Holds := by
 w_on;refine holds_law HD.ws fun said=>?_;k_head
 (case hw=>w_witness2)
 refine SM.walk (l:=PySem.Challenge.rw_quotefind_k20_none_better) rfl rfl (fun w h Y=>PySem.W.kIn_of Y) ?F
 case F=>
  intro w mg fa h KX G NK
  refine' SM.all_mk KX G NK ?_ ?_ ?_ ?_ ?_ ?_ ?_ ?_ ?_ ?_ ?_ ?_ ?_ ?_ ?_ ?_ ?_ ?_ ?_ ?_ ?_ ?_ ?_ ?_ ?_ ?_ ?_ ?_ ?_ ?_ ?_ ?_ ?_ ?_ ?_ ?_ ?_ ?_ ?_ ?_ ?_ ?_ ?_ ?_ ?_ ?_ ?_ ?_ ?_ ?_ ?_ ?_ ?_ ?_ ?_ ?_ ?_ ?_ ?_ ?_ ?_ ?_ ?_ ?_ ?_ ?_ ?_ ?_ ?_ ?_ ?_ ?_ ?_ ?_ ?_ ?_ ?_ ?_ ?_ ?_ ?_ ?_ ?_ ?_ ?_ ?_ ?_ ?_ ?_ ?_ ?_ ?_ ?_ ?_ ?_ ?_ ?_ ?_ ?_ ?_ ?_ ?_ ?_ ?_ ?_ ?_ ?_ ?_ ?_ ?_ ?_ ?_ ?_ ?_ ?_ ?_ ?_ ?_ ?_ ?_ ?_ ?_ ?_ ?_ ?_ ?_ ?_ ?_ ?_ ?_ ?_ ?_ ?_ ?_ ?_ ?_ ?_ ?_ ?_ ?_ ?_ ?_ ?_ ?_ ?_ ?_ ?_ ?_ ?_ ?_ ?_ ?_ ?_ ?_ ?_ ?_ ?_ ?_ ?_
  all_goals first|k_is|(show(_:Prop);constructor<;>first|(show _=_;k_is)|k_exc|(constructor<;>(show _=_;k_is)))|skip
#print axioms PySem.Challenge.cw_quotefind_k20_none_better_holds
