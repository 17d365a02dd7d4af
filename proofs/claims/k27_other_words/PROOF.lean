import PyProof.Rows.All
import Wide.All
import OpenK.AllK
import Wide.FinOn
import Lean
import PyProof.EqAt
import PyProof.EqKinds
import PyProof.TupleCall
import PySem.Challenge.RW_quotefind_k27_other_words
set_option Elab.async false
set_option linter.all false
set_option maxRecDepth 100000
set_option hygiene false in
local macro_rules
|`(tactic|o_head $H)=>`(tactic|refine holds_open (q:=HD.q HD.pw) (loose:=HD.loose) (Xt:=HD.Xt HD.pw []) (XP:=XL (HD.q HD.pw) []) (Yf:=Hook.obs $H) (Ya:=Hook.val $H) (YP:=Hook.says $H) (d:=HD.d) (kwd:=[]) (N:=HD.JQ) (HD.left HD.pw HD.Ww $H fun w os=>by kernel_rfl) (Hook.of $H) (Hook.keeps $H) (fun s e=>xl_of s (Bool.and_eq_true_iff.mp e).1) XL.keeps (by kernel_rfl) (by kernel_rfl) (by kernel_rfl) (fun s e=>recFacts_of (Bool.and_eq_true_iff.mp e).2) (by rfl) (by assumption) (by decide+kernel) ⟨rfl,rfl,rfl,rfl,rfl,by decide+kernel⟩ ?hw ?hc)
|`(Z0 $a $b $c)=>`(@aG _ _ $a _ _ _ _ $b (by exact rfl) (Or.inl rfl) $c (by rfl) (by exact .inl rfl))
|`(Z1 $a $b)=>`(@aJ _ _ $a _ $b (by exact rfl) (Or.inl rfl) (by first|exact .inl rfl|exact .inr rfl|assumption))
|`(Z2 $a)=>`(@aj _ _ _ _ _ $a af (by rfl))
|`(Z5 $a $b $c)=>`(@aK _ _ _ _ _ _ _ _ _ _ _ _ $a (hr.mono (by decide)) $b $c (by rfl) (by decide) (by rfl) (by rfl))
|`(Z6 $a $b)=>`(@aB _ _ _ _ _ _ _ (aq K) $a $b (fun _ _=>rfl))
|`(Z7 $a $b $c)=>`(@aP _ _ _ _ _ _ _ _ _ $a (by exact rfl) $b PyProof.Rows.Boot.«len» $c (by decide) (by decide) (by rfl) (by rfl))
|`(Z9 $a $b)=>`(@aK _ _ _ _ _ _ _ _ _ _ _ _ $a (hr.mono (by decide)) $b (@aj _ _ _ _ _ (pv 0) (@aj _ _ _ _ _ ai af (by rfl)) (by rfl)) (by rfl) (by decide) (by rfl) (by rfl))
|`(Z_ $a $b)=>`(@aj _ _ _ _ _ $a $b (by rfl))
|`(Z' $a)=>`(List.getElem?_eq_some_iff.mp $a)
|`(ZW $a)=>`(@aD _ $a _ _ _ _ (pv 0) (by rfl) (by rfl))
|`(Λ $a $b $c $d $e $f)=>`(@dE _ $a _ _ _ _ _ _ _ _ _ _ _ PySem.F.plainAttrs_list $b $c $d $e $f (by rfl) (by rfl) (by rfl) (by rfl) (by rfl) (by rfl))
|`(XI $a $b $c)=>`(@aH _ _ _ _ _ _ _ _ $a $b $c)
|`(Υ $a)=>`(@aB _ _ _ _ _ _ _ (aq K) (@aB _ _ _ _ _ _ _ (aq K) (pv 0) ai (fun _ _=>rfl)) $a (fun _ _=>rfl))
|`(Ρ $a $b $c $d)=>`(@bL _ _ _ _ _ _ _ _ _ _ _ _ _ _ _ _ $a $b (hr.mono (by decide)) $c $d (by rfl) (by rfl) (by rfl))
|`(Α $a $b $c $d)=>`(@bG _ _ _ _ _ _ _ _ $a (by exact rfl) $b $c $d (by intro _;rfl))
|`(Xc $a $b)=>`(@av _ _ _ _ _ $a $b)
|`(Χ $a)=>`(@eE _ _ _ _ _ _ $a (by first|exact bo _ (by decide) (by decide)|rfl))
|`(WX $a)=>`(@ao _ _ _ $a)
|`(ZO $a)=>`(List.mem_of_getElem? $a)
|`(ς $a)=>`(@aj _ _ _ _ _ $a (@aj _ _ _ _ _ ai af (by rfl)) (by rfl))
|`(γ $a $b $c $d)=>`(@aP _ _ _ _ _ _ _ _ _ $a (by exact rfl) $b $c $d (by decide) (by decide) (by rfl) (by rfl))
|`(YM $a $b)=>`(@aC _ _ _ _ _ $a $b)
|`(Ξ $a $b)=>`(@a_ _ _ _ _ _ _ _ _ $a (@ao _ _ _ (@aN _ _ _ _ dU)) $b)
|`(Sn $a)=>`(if_neg $a)
|`(Zp $a)=>`(Heap.get?_push_of_some _ $a)
|`(U6 $a)=>`(if_pos $a)
|`(Zk $a $b $c $d)=>`(@aS _ _ _ _ _ _ _ _ $a $b $c $d)
|`(Μ $a $b $c)=>`(@cn _ $a _ _ _ _ _ _ _ $b $c (by rfl) (by rfl))
|`(Ζ $a $b $c)=>`(@aB _ _ _ _ _ _ _ $a $b $c (fun _ _=>rfl))
|`(ZV $a)=>`(Option.some.inj $a)
|`(ZS $a)=>`(@aN _ _ _ _ $a)
|`(ο $a)=>`(@aj _ _ _ _ _ $a (@aj _ _ _ _ _ (@ju _ _ (.ty "list") _ _ (by exact rfl) T.jW PyProof.Rows.Boot.«list» (by exact rfl) (by decide) (by decide)) af (by rfl)) (by rfl))
|`(Γ $a)=>`(@bY _ _ _ $a (by intro _;rfl))
|`(Zy $a)=>`(List.getElem?_append_left $a)
|`(θ $a $b)=>`(@aH _ _ _ _ _ _ _ _ $a (@aB _ _ _ _ _ _ _ (aq K) (pv 2) ai (fun _ _=>rfl)) $b)
|`(ε $a)=>`(@aj _ _ _ _ _ $a (@aj _ _ _ _ _ (pv 3) af (by rfl)) (by rfl))
|`(δ $a)=>`(s.heap.update $a (Obj.mapSeq fun _=>(#[]:Array Value)))
|`(Zt $a)=>`(@a8 _ _ _ _ $a (by rfl))
|`(Δ $a)=>`(List.getElem?_append_right $a)
|`(Zr $a $b $c)=>`(@a_ _ _ _ _ _ _ _ _ $a $b $c)
|`(Ψ $a $b $c $d)=>`(PyProof.Rows.envOfC $a $b s.heap.objs.size $c $d)
|`(μ $a)=>`(@aj _ _ _ _ _ $a (@aj _ _ _ _ _ (pv 2) af (by rfl)) (by rfl))
|`(Ν $a $b)=>`(@aD _ $a _ _ _ _ $b (by rfl) (by rfl))
|`(χ $a $b $c)=>`(@aG _ _ $a _ _ _ _ $b (by exact rfl) $c (@aK _ _ _ _ _ _ _ _ _ _ _ _ dW (hr.mono (by decide)) aO (@aj _ _ _ _ _ (@aK _ _ _ _ _ _ _ _ _ _ _ _ aW (hr.mono (by decide)) aO (@aj _ _ _ _ _ (pv 0) (@aj _ _ _ _ _ ai af (by rfl)) (by rfl)) (by rfl) (by decide) (by rfl) (by rfl)) (@aj _ _ _ _ _ (@aK _ _ _ _ _ _ _ _ _ _ _ _ aW (hr.mono (by decide)) aO (@aj _ _ _ _ _ (pv 0) (@aj _ _ _ _ _ ai af (by rfl)) (by rfl)) (by rfl) (by decide) (by rfl) (by rfl)) (@aj _ _ _ _ _ (pv 2) af (by rfl)) (by rfl)) (by rfl)) (by rfl) (by decide) (by rfl) (by rfl)) (by rfl) (by exact .inl rfl))
|`(WJ $a)=>`(arrOf $a)
|`(τ $a $b $c)=>`(@bG _ _ _ _ _ _ _ _ $a (by exact rfl) (@eD _ _ _ _ _ _ (by exact rfl) T.fO (@aj _ _ _ _ _ (@aP _ _ _ _ _ _ _ _ _ (aL K) (by exact rfl) T.cX PyProof.Rows.Boot.«len» (@aj _ _ _ _ _ (pv 1) af (by rfl)) (by decide) (by decide) (by rfl) (by rfl)) af (by rfl)) (by rfl)) $b $c (by intro _;rfl))
|`(Zz $a $b)=>`(@aZ _ _ _ _ _ $a $b (by rfl))
|`(Ε $a)=>`(List.mem_append_right _ $a)
|`(ZL $a)=>`(wpAny_pure $a)
|`(Θ $a)=>`(List.getElem?_eq_getElem $a)
|`(Β $a $b)=>`(@ba _ $a _ _ _ $b (by rfl))
|`(ZJ $a)=>`(pendingOf $a)
|`(ZX $a)=>`(wpAny_bind $a)
|`(Η $a)=>`(List.mem_cons_of_mem _ $a)
|`(ι $a $b $c)=>`(@iJ _ _ _ _ _ _ $a (@aD _ K _ _ _ _ (pv 0) (by rfl) (by rfl)) $b $c)
|`(Zm $a)=>`(Heap.lt_size $a)
|`(ρ $a)=>`(@aj _ _ _ _ _ $a (@aj _ _ _ _ _ (@aB _ _ _ _ _ _ _ (aq K) (pv 0) ai (fun _ _=>rfl)) af (by rfl)) (by rfl))
|`(ω $a $b)=>`(@eD _ _ _ _ _ _ $a $b (@aj _ _ _ _ _ (@aP _ _ _ _ _ _ _ _ _ (aL K) (by exact rfl) T.cX PyProof.Rows.Boot.«len» (@aj _ _ _ _ _ (pv 1) af (by rfl)) (by decide) (by decide) (by rfl) (by rfl)) af (by rfl)) (by rfl))
|`(η $a $b $c $d)=>`(@fN _ $a _ _ _ $b _ $c $d (by rfl) (by rfl) (by rfl))
|`(ν $a $b $c $d $e)=>`(@fZ _ _ _ _ _ _ _ _ _ $a $b $c $d $e (by decide) (by decide) (by rfl) (by rfl))
|`(Τ $a)=>`(absurd $a Bool.false_ne_true)
|`(Zj $a)=>`(List.range $a)
|`(Κ $a $b)=>`(@pw_or _ _ _ _ _ _ _ $a $b)
|`(YL $a)=>`(au $a rfl)
|`(ζ $a)=>`(@fM _ _ _ _ $a (by rfl) (by decide))
|`(ZU $a)=>`(wpS_pure $a)
|`(υ $a)=>`(seqEpoch_at $a rfl (wpAny_bind (wpAny_newTuple (wpAny_bind (wpAny_newList (wpAny_holding ?_) (Nat.zero_le _))) (by show vs.length≤_;rw[sizeLine_eq];lia))))
|`(ZE $a $b)=>`(absurd $a $b)
|`(Ω $a)=>`(List.mem_append_left _ $a)
set_option hygiene false in
local macro_rules
|`(ZF $a)=>`(ax.upd $a)
set_option hygiene false in
local macro_rules
|`(Mm)=>`((by lia))
|`(V9)=>`((by simp))
|`(ZQ)=>`((fun vs H Q E h=>?_))
|`(Zn)=>`((Nat.le_refl _))
|`(Xd)=>`((pv 0))
|`(Zv)=>`((by exact rfl))
|`(ξ)=>`((gf X scope (ls++cs) s3 H3 s3.heap.objs.size fp (X.pn++pins)))
|`(Ι)=>`((bH I q (by simp)))
|`(ZC)=>`((pv 1))
|`(Ο)=>`((beq_iff_eq.mpr z))
|`(Zi)=>`((WJ st))
|`(Zq)=>`(by omega)
|`(U7)=>`(by decide)
|`(ZA)=>`(by rfl)
|`(Wv)=>`(by simp)
set_option maxHeartbeats 4000000
namespace HD
open PySem PySem.W PyProof.Rows
noncomputable section
noncomputable abbrev pw:Program:=PySem.Challenge.pw_quotefind_k27_other_words
noncomputable abbrev pq:Program:=pw
theorem Ww:pw=pq:=rfl
def z0:Str:=⟨⟨[60,109,111,100,117,108,101,62]⟩⟩
def z1:Str:=⟨⟨[95,95,109,97,105,110,95,95]⟩⟩
def UK:Str:=⟨⟨[47,99,108,97,105,109,47,99,117,116,46,112,121]⟩⟩
noncomputable abbrev y0:String:=PySem.W.SL.s658472552662922059x5
noncomputable abbrev Wx:String:=PySem.W.SL.s5856160107412720595x4
noncomputable abbrev R(a:Addr):Value:= .ref a
noncomputable abbrev I(i:Int):Value:= .int i 0
noncomputable abbrev N:Value:= .none
noncomputable abbrev U(v:Value):Option Value:=some v
noncomputable abbrev B:=BT.node
noncomputable abbrev L:=BT.nil
noncomputable abbrev tu(l:List Value):Obj:=⟨.type "tuple",none, .seq ⟨l⟩ 0,⟨[]⟩⟩
noncomputable abbrev fi(l:List Value):Obj:=⟨.none,none, .fields ⟨l⟩,⟨[]⟩⟩
noncomputable abbrev cd(n:Str)(t:Nat)(l a f:Int)(r8:Addr)(b:Bool)(Wz:Addr)(WA WB WC:Value)(t3:Int)(t4:Nat):Obj:=⟨.type Wx,none, .fields ⟨[.str n t, .str n (t+1), .str UK (t+2),I l,I a,I 0,I 0,I f,R r8, .bool b,I 181,R Wz,N,WA,WB,WC,I t3,I l, .str UK t4]⟩,⟨[]⟩⟩
noncomputable def tp(p:Program)(i:Nat):Stmt:=p.main.body.getD i (.Pass ⟨0,0,0,0⟩)
noncomputable def b0(_:Program)(P:Params):Obj:=PySem.W.boot_o_0 P
noncomputable def b1(_:Program)(P:Params):Obj:=PySem.W.boot_o_1 P
noncomputable def b2(_:Program)(P:Params):Obj:=PySem.W.boot_o_2 P
noncomputable def b3(_:Program)(P:Params):Obj:=PySem.W.boot_o_3 P
noncomputable def b4(_:Program)(P:Params):Obj:=PySem.W.boot_o_4 P
noncomputable def b5(_:Program)(P:Params):Obj:=PySem.W.boot_o_5 P
noncomputable def b6(_:Program)(P:Params):Obj:=PySem.W.boot_o_6 P
noncomputable def b7(_:Program)(P:Params):Obj:=PySem.W.boot_o_7 P
noncomputable def b8(_:Program)(P:Params):Obj:=PySem.W.boot_o_8 P
noncomputable def b9(_:Program)(P:Params):Obj:=PySem.W.boot_o_9 P
noncomputable def UL(_:Program)(P:Params):Obj:=PySem.W.boot_o_10 P
noncomputable def UM(p:Program)(P:Params):Obj:=tu []
noncomputable def UN(p:Program)(P:Params):Obj:=fi []
noncomputable def UO(p:Program)(P:Params):Obj:=cd z0 182 1 0 0 11 false 12 N N N 185 186
noncomputable def UP(p:Program)(P:Params):Obj:=⟨(.type y0),none,.plain,⟨[U (R 13),U (R 3),U (R 3),none,U (.str z1 164),none,U (R 0)]⟩⟩
noncomputable def La(p:Program)(P:Params):List Obj:=[b0 p P,b1 p P,b2 p P,b3 p P,b4 p P,b5 p P,b6 p P,b7 p P,b8 p P,b9 p P,UL p P,UM p P,UN p P,UO p P,UP p P]
noncomputable def Ta(p:Program)(P:Params):BT:=(B (b0 p P) (B (b1 p P) (B (b3 p P) (B (b7 p P) L L) (B (UM p P) L L)) (B (b5 p P) (B (b9 p P) L L) (B (UO p P) L L))) (B (b2 p P) (B (b4 p P) (B (b8 p P) L L) (B (UN p P) L L)) (B (b6 p P) (B (UL p P) L L) (B (UP p P) L L))))
noncomputable def keep:List Nat:=[0,2,3,4,5,7,8,9,11,12,13,14,16,17,19,20,21,22,23,24,25,27,28,29,31,32,33,34,35,36,37,38,40,41,42,43,44,45,46,47,48,49,50,51,52,53,54,55,56,57,58,59]
noncomputable def loose:List Str:=[]
noncomputable def env(p:Program):Env:={scope:=p.main.scope,locals:=mainNs,globals:=mainNs,cells:=[],code:=(R 13),frame:=some 14}
noncomputable def cE(p:Program):Code:= .body (behindTheImports p) (env p)
noncomputable def qP:Pos:=⟨0,0,0,0⟩
noncomputable def pP:Pos:=⟨0,0,0,0⟩
noncomputable def bP:Pos:=⟨0,0,0,0⟩
noncomputable def fP:Pos:=⟨425,0,442,47⟩
noncomputable def an:Option Value:=(some (R 6))
noncomputable abbrev M5:Nat:=59
noncomputable abbrev m0:Nat:=11
noncomputable abbrev M6:Nat:=12
noncomputable abbrev M7:Nat:=1
noncomputable abbrev JO:Nat:=3768
noncomputable abbrev JP:Nat:=2
noncomputable abbrev JQ:Nat:=8260
noncomputable abbrev nA:Nat:=15
noncomputable abbrev WD:Nat:=187
noncomputable abbrev WE:Nat:=187
end
end HD
namespace HD
open PySem PySem.W PyProof.Rows
noncomputable section
abbrev S0(w:World)(os:OsState):Shared:=⟨boot_heap w.params,⟨[]⟩,boot_drawn,boot_toks,os⟩
abbrev Sa(p:Program)(w:World)(os:OsState):Shared:=⟨⟨⟨La p w.params⟩,{}⟩,⟨[]⟩,{},WD,os⟩
abbrev Sb(p:Program)(w:World)(os:OsState):SharedT:=⟨Ta p w.params,nA,{},⟨[]⟩,{},WE,os⟩
abbrev q(p:Program):Program:=view p keep
abbrev Xt(p:Program)(R:WRecords):Shared→Bool:=fun s=>xlAt (q p) [] s&&recOk R s
theorem M8(w:World)(os:OsState):topGo treeTable pq w m0 an M6 (S0 w os) (topStub pq)=some (Sa pq w os,⟨denote treeTable (cE pq),cE pq,pP,[topFrame qP]⟩):=by
 rewrite[Fast.te15667345088766844465,Fast.te14364793385576792824,Fast.te11892475500146522536];kernel_rfl
theorem M9(w:World)(os:OsState):segRun treeTable pq w m0 an 1 M7 (Sa pq w os) (blockOf (behindTheImports pq) (env pq) (cE pq) pP [topFrame qP])=some (.next,(Sb pq w os).abs,cE pq,bP):=by
 rewrite[Fast.te14374325043358763698,Fast.te14364793385576792824];kernel_rfl
def Rm(w:World)(os:OsState):=Fast.tw10110043849684766642 Fast.tw14364793385576792824 pq w m0 an 1 JO (Sb pq w os) (piecesOf (behindTheImports pq) (env pq) (cE pq) bP [topFrame qP])
def Sm(w:World)(os:OsState):SharedT:=match Rm w os with|some (_,s,_,_)=>s|none=>Sb pq w os
theorem M_(w:World)(os:OsState):segRunT treeTable pq w m0 an 1 JO (Sb pq w os) (piecesOf (behindTheImports pq) (env pq) (cE pq) bP [topFrame qP])=some (.next,Sm w os,cE pq,fP):=by
 rewrite[Fast.te10110043849684766642,Fast.te14364793385576792824];kernel_rfl
def Rf(w:World)(os:OsState):=Fast.tw14082659384304107361 Fast.tw14364793385576792824 pq w m0 an JP (Sm w os).abs ⟨doneF .next,cE pq,fP,[topFrame qP]⟩
def Sf(w:World)(os:OsState):Shared:=match Rf w os with|some s=>s|none=>S0 w os
theorem Na(w:World)(os:OsState):topRun treeTable pq w m0 an JP (Sm w os).abs ⟨doneF .next,cE pq,fP,[topFrame qP]⟩=some (Sf w os):=by
 rewrite[Fast.te14082659384304107361,Fast.te14364793385576792824];kernel_rfl
theorem JR(w:World):((boot_heap w.params).isNs mainGlobals&&(⟨[]⟩:Array GenState).size==0,(boot_heap w.params).objs.size,(boot_heap w.params).nsMap mainGlobals "__annotations__")=(true,m0,an):=by
 rewrite[Fast.te8920871248978507458];kernel_rfl
theorem JS:∀w:World,(fencedOpening treeTable pq w JQ).map (fun s=>(s.heap,s.gens,s.drawn,s.toks))=some (boot_heap w.params,⟨[]⟩,boot_drawn,boot_toks):=
 boot_open (by kernel_rfl) (by kernel_rfl) (fun s=>by kernel_rfl)
theorem Nb(w:World)(os:OsState):topRun treeTable pq w m0 an (M6+(M7+(JO+JP))) (S0 w os) (topStub pq)=some (Sf w os):=by
 refine go_top (M8 w os) (piece_block (M9 w os) ?_);have h:=piece_app (rest:=[]) (segRun_of (M_ w os)) (piece_nil (env:=env pq) (Na w os));rw[List.append_nil]at h;exact h
theorem DQ(w:World)(os:OsState):
 (staticsOk (importedModules pq.main.body) (boot_heap w.params) (Sf w os).heap&&namesBound pq (Sf w os).heap&&gensDone (Sf w os)&&laidKept (boot_heap w.params) (Sf w os).heap)=true
 ∧seen ((recsOf (q pq)).map (·.name)) (ownsOf (q pq)) [] {Sf w os with gens:=#[]}=expectedOf (q pq)
 ∧(Sf w os).heap.bltView=bltViewBooted:=by
 refine⟨?_,?_,?_⟩
 ·rewrite[Fast.te5923862056798008813];kernel_rfl
 ·rewrite[Fast.te5160383126252970620,Fast.te3399658132070893891,Fast.te5991557255702980513];kernel_rfl
 ·kernel_rfl
theorem JT(w:World)(os:OsState):
 ((Sf w os).heap.keysOk (looseW (q pq) loose) ((recsOf (q pq)).map (·.name)) ((litsOf (q pq)).map (·.1)) ((clssOf (q pq) (looseW (q pq) loose)).map (·.name))&&(Sf w os).heap.accountedOkI (importedModules pq.main.body)&&(Sf w os).heap.isNs mainGlobals&&(Sf w os).heap.isNs builtinsNs&&tablesOk (q pq) (Sf w os).heap&&Xt pq [] (Sf w os)&&(if true then(Sf w os).gens.size==0 else !leftWithCleanup (Sf w os).gens))=true:=by
 rewrite[Fast.te10880121769531294198,Fast.te821141287760084731,Fast.te3399658132070893891,Fast.te7409074990110511671,Fast.te13664370479719496447,Fast.te14722251495701143533,Fast.te5923862056798008813,Fast.te10994771534591457954];kernel_rfl
theorem JU(w:World)(os:OsState):
 tabsOk (q pq) (Sf w os)=true
 ∧pinSeenD (q pq) (drecsOf (q pq)) (Sf w os)=pinGoodD (drecsOf (q pq))
 ∧plainSeenE (q pq) (looseW (q pq) loose) (Sf w os)=plainGoodE (q pq) (looseW (q pq) loose)
 ∧plainSeenD (q pq) loose (Sf w os)=plainGoodD (q pq) loose
 ∧wideSeen (q pq) (Sf w os)=wideGood (q pq)
 ∧clsSeenW (q pq) loose (Sf w os)=clsGoodW (q pq) loose:=by
 refine⟨?_,?_,?_,?_,?_,?_⟩
 ·rewrite[Fast.te479339242167458305];kernel_rfl
 ·rewrite[Fast.te16090120013241838585,Fast.te3247288618530077131];kernel_rfl
 ·rewrite[Fast.te2386780881361962483,Fast.te821141287760084731];kernel_rfl
 ·rewrite[Fast.te11698064438423848299];kernel_rfl
 ·rewrite[Fast.te7317090234206586261];kernel_rfl
 ·rewrite[Fast.te7369524293546568484];kernel_rfl
theorem lx{p q:Program}{lo:List Str}{Xt:Shared→Bool}{α:Type}{Yf:Shared→α}{a:α}{w:World}{N M n:Nat}{h:Heap}{gs:Array GenState}{dr:Drawn}{k:Nat}{an:Option Value}{g:OsState→Shared}
  (o:(fencedOpening treeTable p w N).map (fun s=>(s.heap,s.gens,s.drawn,s.toks))=some (h,gs,dr,k)) (z:(h.isNs mainGlobals&&gs.size==0,h.objs.size,h.nsMap mainGlobals "__annotations__")=(true,n,an))
  (r:∀os,topRun treeTable p w n an M ⟨h,gs,dr,k,os⟩ (topStub p)=some (g os)) (le:M≤N) (x1:∀os,(staticsOk (importedModules p.main.body) h (g os).heap&&namesBound p (g os).heap&&gensDone (g os)&&laidKept h (g os).heap)=true)
  (x2:∀os,openSeen q lo (importedModules p.main.body) Xt true (g os)=openGood q lo) (x3:∀os,Yf (g os)=a):(openEnds treeTable p w N).map (fun s=>(openSeen q lo (importedModules p.main.body) Xt true s,Yf s))=some (openGood q lo,a):=by
 obtain⟨⟨h,gs,dr,k,os⟩,e1,e2⟩:=Option.map_eq_some_iff.mp o;cases e2;obtain⟨y1,y2⟩:=Prod.mk.inj z;obtain⟨y2,y3⟩:=Prod.mk.inj y2;have t:=topRun_mono (N-M) _ _ _ _ (r os);rw[Nat.add_sub_cancel' le]at t;have f:topFrom treeTable p w N ⟨h,gs,dr,k,os⟩=some (g os):=by
  unfold topFrom;dsimp only;rw[y1,y2,y3,t];show(match staticsOk _ h (g os).heap&&namesBound p (g os).heap&&gensDone (g os)&&laidKept h (g os).heap with|true=>_|false=>_)=_;rw[x1 os]
 unfold openEnds;rw[e1,Option.bind_some,f];exact congrArg some (Prod.ext (x2 os) (x3 os))
theorem left(p:Program)(e:p=pq)(H:Hook)(hk:∀w os,H.obs (Sf w os)=H.val w):LeftO p (q p) loose (Xt p []) H.obs H.val JQ:=by
 subst e;intro w;exact lx (g:=Sf w) (JS w) (JR w) (Nb w) (U7) (fun os=>(DQ w os).1) (fun os=>let ⟨_,x2,x3⟩:=DQ w os;let ⟨x5,x6,x7,x8,x9,x0⟩:=JU w os;looks_pair x2 (looks_pair x3 (looks_pair (JT w os) (looks_pair x5 (looks_pair x6 (looks_pair x7 (looks_pair x8 (looks_pair x9 x0)))))))) (hk w)
def d:DefRec:=match tp pw M5 with
 | .FunctionDef n a b _ _ _ sc _ _ ps=>⟨n,a,b,sc,ps⟩
 | _=>⟨Str.empty,default,[],default,default⟩
end
end HD
namespace HD
theorem ws:PySem.W.OpenLaw.wellSaid PySem.Challenge.rw_quotefind_k27_other_words=true:=by
 rewrite[PySem.W.Fast.te9446332074065402090];kernel_rfl
end HD
namespace L2
open PySem PySem.Spec PyProof.Rows
abbrev Key:=Sum Int Str
def vt:Key→Value→Bool
 | .inl k,v=>Value.isInt k v
 | .inr x,v=>Value.isStrOf x v
def Rk(w:World):Key→Int
 | .inl k=>hashInt k
 | .inr x=>hashStr w x
theorem cU:∀{k:Key}{v:Value},vt k v=true→(∃i t,k=Sum.inl i∧v=Value.int i t)∨(∃x t,k=Sum.inr x∧v=Value.str x t)
 | .inl i,v,h=>by
  obtain⟨t,e⟩:=Value.isInt_shape (k:=i) (v:=v) h;exact .inl ⟨i,t,rfl,e⟩
 | .inr x,v,h=>by
  obtain⟨t,e⟩:=Value.isStrOf_shape (x:=x) (v:=v) h;exact .inr ⟨x,t,rfl,e⟩
theorem Ca(i:Int)(t:Tok):vt (.inl i) (.int i t)=true:=by simp[vt,Value.isInt]
theorem Cb(x:Str)(t:Tok):vt (.inr x) (.str x t)=true:=by simp[vt,Value.isStrOf]
theorem JV(a b:Int):decide ((Sum.inl a:Key)=Sum.inl b)=(a==b):=by
 by_cases e:a=b
 ·subst e;simp
 ·have h:¬(Sum.inl a:Key)=Sum.inl b:=fun q=>e (Sum.inl.inj q)
  rw[decide_eq_false h];exact(beq_eq_false_iff_ne.mpr e).symm
theorem JW(a b:Str):decide ((Sum.inr a:Key)=Sum.inr b)=decide (a=b):=by
 by_cases e:a=b
 ·subst e;simp
 ·have h:¬(Sum.inr a:Key)=Sum.inr b:=fun q=>e (Sum.inr.inj q)
  rw[decide_eq_false h,decide_eq_false e]
theorem JX(a:Int)(b:Str):decide ((Sum.inl a:Key)=Sum.inr b)=false:=decide_eq_false (fun q=>nomatch q)
theorem JY(a:Str)(b:Int):decide ((Sum.inr a:Key)=Sum.inl b)=false:=decide_eq_false (fun q=>nomatch q)
def cV(prog:Program)(w:World):PySem.KeyKind prog w Key where
 is:=vt
 hash:=Rk w
 inj:=fun v a b ha hb=>by
  rcases cU ha with⟨i,t,rfl,rfl⟩|⟨x,t,rfl,rfl⟩
  ·rcases cU hb with⟨j,u,rfl,e⟩|⟨y,u,rfl,e⟩
   ·injection e with e1 _;rw[e1]
   ·exact nomatch e
  ·rcases cU hb with⟨j,u,rfl,e⟩|⟨y,u,rfl,e⟩
   ·exact nomatch e
   ·injection e with e1 _;rw[e1]
 byValue:=fun k v h=>by
  rcases cU h with⟨i,t,rfl,rfl⟩|⟨x,t,rfl,rfl⟩<;>rfl
 pyHash:=fun hv h=>by
  rcases cU hv with⟨i,t,rfl,rfl⟩|⟨x,t,rfl,rfl⟩
  ·exact wpAny_pyHash_int h
  ·exact wpAny_pyHash_str h
 eqBool:=fun hu hv h=>by
  rcases cU hu with⟨i,t,rfl,rfl⟩|⟨x,t,rfl,rfl⟩
  ·rcases cU hv with⟨j,u,rfl,rfl⟩|⟨y,u,rfl,rfl⟩
   ·rw[JV]at h;exact wpAny_eqBool_int h
   ·rw[JX]at h;exact SeqAt.EqAt.int_str i t y u _ _ _ _ h
  ·rcases cU hv with⟨j,u,rfl,rfl⟩|⟨y,u,rfl,rfl⟩
   ·rw[JY]at h;exact SeqAt.EqAt.str_int x t j u _ _ _ _ h
   ·rw[JW]at h;exact wpAny_eqBool_str h
 «strs»:=fun k x t v h=>by
  rcases cU h with⟨i,u,rfl,e⟩|⟨y,u,rfl,e⟩
  ·exact nomatch e
  ·injection e with e1 _;subst e1;cases v<;>rfl
theorem yi(prog:Program)(w:World)(i:Int)(t:Tok):(cV prog w).is (.inl i) (.int i t)=true:=Ca i t
theorem yj(prog:Program)(w:World)(x:Str)(t:Tok):(cV prog w).is (.inr x) (.str x t)=true:=Cb x t
inductive V where
 |cK|bl (b:Bool)|int (i:Int)|str (x:Str)|Cc (b:Array UInt8)|IB (b:UInt64)|ref (a:Addr)|ty (n:String)
 deriving DecidableEq
def RelV:V→Value→Prop
 | .cK,u=>u=Value.none
 | .bl b,u=>u=Value.bool b
 | .int i,u=>∃t,u=Value.int i t
 | .str x,u=>∃t,u=Value.str x t
 | .Cc b,u=>∃t,u=Value.bytes b t
 | .IB b,u=>∃t,u=Value.float b t
 | .ref a,u=>u=Value.ref a
 | .ty n,u=>u=Value.type n
abbrev Vals:List V→List Value→Prop:=Paired RelV
theorem Vals.length{xs:List V}{us:List Value}(r:Vals xs us):xs.length=us.length:=Paired.length r
theorem Vals.get:∀{xs:List V}{us:List Value}{i:Nat}{x:V},Vals xs us→xs[i]?=some x→∃u,us[i]?=some u∧RelV x u
 | _,_,_,_, .nil,e=>by simp at e
 | _,_,0,_, .cons r _,e=>by simp at e;subst e;exact⟨_,rfl,r⟩
 | _,_,i+1,x, .cons _ t,e=>by
  obtain⟨u,h1,h2⟩:=Vals.get (i:=i) (x:=x) t (by simpa using e);exact⟨u,by simpa using h1,h2⟩
theorem Vals.set{x:V}{u:Value}(r:RelV x u):∀{xs:List V}{us:List Value}(i:Nat),Vals xs us→Vals (xs.set i x) (us.set i u)
 | _,_,_, .nil=> .nil
 | _,_,0, .cons _ t=> .cons r t
 | _,_,i+1, .cons q t=> .cons q (Vals.set r i t)
theorem Vals.append:∀{xs ys:List V}{us ws:List Value},Vals xs us→Vals ys ws→Vals (xs++ys) (us++ws)
 | _,_,_,_, .nil,s=>s
 | _,_,_,_, .cons r t,s=> .cons r (Vals.append t s)
theorem Vals.take:∀{xs:List V}{us:List Value}(n:Nat),Vals xs us→Vals (xs.take n) (us.take n)
 | _,_,0,_=> .nil
 | _,_,_+1, .nil=> .nil
 | _,_,n+1, .cons r t=> .cons r (Vals.take n t)
theorem Vals.drop:∀{xs:List V}{us:List Value}(n:Nat),Vals xs us→Vals (xs.drop n) (us.drop n)
 | _,_,0,r=>r
 | _,_,_+1, .nil=> .nil
 | _,_,n+1, .cons _ t=>Vals.drop n t
def ky:Option V→Option Value→Prop
 |some v,some u=>RelV v u
 |none,none=>True
 | _,_=>False
def KV{κ:Type}:List (κ×V)→List (κ×Value)→Prop:=Paired fun(p:κ×V)(q:κ×Value)=>p.1=q.1∧RelV p.2 q.2
def kV:Key→V
 | .inl i=> .int i
 | .inr x=> .str x
inductive HO where
 |lst (xs:List V)
 |tup (xs:List V)
 |dK (kvs:List (Key×V))|dT (kvs:List (List Key×V))
 |set (S:Int→Bool) (n:Nat)
 |ins (C dx:Addr) (fs:List (Str×V))
 |own (x:Addr)
 |xd (fs:List (Str×V))
 |met (f x:Addr)
 |PZ (lo hi:Int)
 |so (o:Obj) (u:HO)
 |Gz (ps:Array Value)
 |ext (φ:Heap→Prop)
abbrev Hp:=Addr→Option HO
def upd(H:Hp)(a:Addr)(o:HO):Hp:=fun b=>if b=a then some o else H b
theorem ae{H:Hp}{a:Addr}{o:HO}:upd H a o a=some o:=by unfold upd;rw[if_pos rfl]
theorem ak{H:Hp}{a b:Addr}{o:HO}(h:b≠a):upd H a o b=H b:=by unfold upd;rw[Sn h]
theorem gc{H:Hp}{a:Addr}{o u:HO}:upd (upd H a o) a u=upd H a u:=by
 funext b;unfold upd;split<;>rfl
theorem i5{H:Hp}{a b:Addr}{o u:HO}(h:H a=some o)(h':H b=some u)(d:o≠u):a≠b:=by
 intro e;subst e;rw[h]at h';exact d (ZV h')
theorem aE{H:Hp}{a b:Addr}{o:HO}(h:H a=some o)(h':H b=none):a≠b:=by
 intro e;subst e;rw[h]at h';cases h'
section
variable(P:Program)(w:World)
def cQ(H:Hp)(h:Heap)(a:Addr):HO→Prop
 | .lst xs=>xs.length≤sizeLine∧∃(its:List Value)(n:Nat),Vals xs its∧h.get? a=some {cls:= .type "list",data:= .seq its.toArray n}
 | .tup xs=>xs.length≤sizeLine∧∃its:List Value,Vals xs its∧IsTup h a its.toArray
 | .dK kvs=>kvs.length≤sizeLine∧(a==sysModules)=false∧∃vs,KV kvs vs∧h.DictOf (cV P w) a vs
 | .dT kvs=>kvs.length≤sizeLine∧(a==sysModules)=false∧∃xs:List (List Key×Addr×Value),
   Paired (fun(p:List Key×V)(q:List Key×Addr×Value)=>p.1=q.1∧H q.2.1=some (.tup (p.1.map kV))∧RelV p.2 q.2.2) kvs xs∧
   ∃o es ep,h.get? a=some o∧o.ExactDict∧o.data= .dict es ep∧es.toList=xs.map (entryOfKey (tupleKind (cV P w)))∧(xs.map (·.1)).Nodup
 | .set S n=>h.SetOf (intKind P w) a S n
 | .ins C dx fs=>H dx=some (.own a)∧fs.length≤1000∧dx≠a∧h.get? a=some (PySem.W.instObj C dx)∧
   ∃mA,h.Ns1 dx mA∧(∀f,ky (fs.lookup f) (mA f))∧PySem.Within mA (fs.map (·.1))
 | .own _=>∃o,h.get? a=some o
 | .xd fs=>∃mA,h.Ns1 a mA∧∀f,ky (fs.lookup f) (mA f)
 | .PZ lo hi=>∃t u v,h.get? a=some {cls:= .type "range",data:= .fields #[.int lo t, .int hi u, .int 1 v]}
 | .so o u=>h.get? a=some o∧cQ H h a u
 | .Gz ps=>h.get? a=some {cls:= .none,data:= .fields ps}
 | .met f x=>h.get? a=some (PySem.W.methodObj (.ref f) (.ref x))
 | .ext φ=>φ h∧(∃o,h.get? a=some o)∧∀h1 h2:Heap,φ h1→(∀o,h1.get? a=some o→h2.get? a=some o)→φ h2
def lD(H:Hp)(h:Heap):Prop:=∀a o,H a=some o→cQ P w H h a o
end
section
variable{P:Program}{w:World}{H H':Hp}{h h':Heap}{a:Addr}{o:HO}
theorem cQ.lt(x:cQ P w H h a o):a<h.objs.size:=by
 cases o with
 |lst xs=>obtain⟨_,_,_,_,e⟩:=x;exact Zm e
 |tup xs=>obtain⟨_,_,_,p⟩:=x;exact p.lt
 |dK kvs=>obtain⟨_,_,_,_,o,_,_,e,_⟩:=x;exact Zm e
 |dT kvs=>obtain⟨_,_,_,_,o,_,_,e,_⟩:=x;exact Zm e
 |set S n=>obtain⟨o,_,_,_,e,_⟩:=x;exact Zm e
 |ins C dx fs=>obtain⟨_,_,_,e,_⟩:=x;exact Zm e
 |own y=>obtain⟨_,e⟩:=x;exact Zm e
 |xd fs=>obtain⟨_,⟨_,_,_,e,_⟩,_⟩:=x;exact Zm e
 |PZ lo hi=>obtain⟨_,_,_,e⟩:=x;exact Zm e
 |so ob u=>obtain⟨e,_⟩:=x;exact Zm e
 |Gz ps=>exact Zm (show h.get? a=some _ from x)
 |met f y=>exact Zm (show h.get? a=some _ from x)
 |ext φ=>obtain⟨_,⟨_,e⟩,_⟩:=x;exact Zm e
theorem Paired.JZ{α β:Type}{F G:α→β→Prop}:∀{l₁:List α}{l₂:List β},Paired F l₁ l₂→(∀a b,F a b→G a b)→Paired G l₁ l₂
 | _,_, .nil,_=> .nil
 | _,_, .cons r t,f=> .cons (f _ _ r) (Paired.JZ t f)
theorem cQ.wc(x:cQ P w H h a o)(k:∀b u,(b=a∨H b=some (.own a))→h.get? b=some u→h'.get? b=some u)
  (ho:∀b,H b=some (.own a)→H' b=some (.own a)) (ht:∀b xs,H b=some (.tup xs)→H' b=some (.tup xs)):cQ P w H' h' a o:=by
 induction o with
 |lst xs=>obtain⟨z,its,n,r,e⟩:=x;exact⟨z,its,n,r,k _ _ (.inl rfl) e⟩
 |tup xs=>obtain⟨z,its,r,ob,e,c⟩:=x;exact⟨z,its,r,ob,k _ _ (.inl rfl) e,c⟩
 |dK kvs=>obtain⟨z,y,vs,r,ob,es,ep,e,c⟩:=x;exact⟨z,y,vs,r,ob,es,ep,k _ _ (.inl rfl) e,c⟩
 |dT kvs=>
  obtain⟨z,y,xs,r,ob,es,ep,e,c⟩:=x;exact⟨z,y,xs,Paired.JZ r fun p q z=>⟨z.1,ht _ _ z.2.1,z.2.2⟩,ob,es,ep,k _ _ (.inl rfl) e,c⟩
 |set S n=>obtain⟨ob,es,ep,t,e,c⟩:=x;exact⟨ob,es,ep,t,k _ _ (.inl rfl) e,c⟩
 |ins C dx fs=>
  obtain⟨d,z,ne,e,mA,⟨od,es,ep,e2,c⟩,r⟩:=x;exact⟨ho _ d,z,ne,k _ _ (.inl rfl) e,mA,⟨od,es,ep,k _ _ (.inr d) e2,c⟩,r⟩
 |own y=>obtain⟨ob,e⟩:=x;exact⟨ob,k _ _ (.inl rfl) e⟩
 |xd fs=>obtain⟨mA,⟨od,es,ep,e,c⟩,r⟩:=x;exact⟨mA,⟨od,es,ep,k _ _ (.inl rfl) e,c⟩,r⟩
 |PZ lo hi=>obtain⟨t,u,v,e⟩:=x;exact⟨t,u,v,k _ _ (.inl rfl) e⟩
 |so ob u ih=>obtain⟨e,q⟩:=x;exact⟨k _ _ (.inl rfl) e,ih q⟩
 |Gz ps=>
  have e:h.get? a=some {cls:= .none,data:= .fields ps}:=x;show h'.get? a=some {cls:= .none,data:= .fields ps};exact k a _ (.inl rfl) e
 |met f y=>
  have e:h.get? a=some (PySem.W.methodObj (.ref f) (.ref y)):=x;show h'.get? a=some (PySem.W.methodObj (.ref f) (.ref y));exact k a _ (.inl rfl) e
 |ext φ=>obtain⟨p,⟨o,e⟩,st⟩:=x;exact⟨st _ _ p fun o q=>k _ _ (.inl rfl) q,⟨o,k _ _ (.inl rfl) e⟩,st⟩
theorem lD.lt(x:lD P w H h)(e:H a=some o):a<h.objs.size:=(x a o e).lt
theorem lD.fresh(x:lD P w H h)(e:h.objs.size≤a):H a=none:=by
 cases q:H a with
 |none=>rfl
 |some u=>exact ZE (Nat.lt_of_lt_of_le (x.lt q) e) (Nat.lt_irrefl _)
theorem lD.kept(x:lD P w H h)(k:∀b u,h.get? b=some u→h'.get? b=some u):lD P w H h':=fun a o e=>
 (x a o e).wc (fun b u _ q=>k b u q) (fun _ q=>q) fun _ _ q=>q
theorem lD.laid(x:lD P w H h)(k:∀b u,h.get? b=some u→h'.get? b=some u)(hp:h.objs.size≤a)(new:cQ P w (upd H a o) h' a o):lD P w (upd H a o) h':=fun b u e=>by
 have hn:=x.fresh hp;by_cases hb:b=a
 ·subst hb;rw[ae]at e;cases e;exact new
 ·rw[ak hb]at e;exact(x b u e).wc (fun c v _ q=>k c v q) (fun c q=>by rw[ak (aE q hn)];exact q) fun c xs q=>by rw[ak (aE q hn)];exact q
end
def Rd(H:Hp)(a:Addr)(u:HO):Prop:=H a=some u∨∃o,H a=some (.so o u)
theorem Rd.of{H:Hp}{a:Addr}{u:HO}(h:H a=some u):Rd H a u:= .inl h
theorem Rd.ok{P:Program}{w:World}{H:Hp}{h:Heap}{a:Addr}{u:HO}(r:Rd H a u)(x:lD P w H h):cQ P w H h a u:=by
 rcases r with r|⟨o,r⟩
 ·exact x a u r
 ·obtain⟨_,q⟩:=x a _ r;exact q
def Nc:Option HO→Prop
 |some (.lst _)=>True
 |some (.dK _)=>True
 |some (.dT _)=>True
 |some (.set _ _)=>True
 |some (.ins _ _ _)=>True
 |some (.ext _)=>True
 | _=>False
section
variable{P:Program}{w:World}{H:Hp}{h h':Heap}{x e:Addr}{o':HO}
theorem lD.write(ok:lD P w H h)(mu:Nc (H x))(he:e=x∨H e=some (.own x))(k:∀b u,b≠e→h.get? b=some u→h'.get? b=some u)(Mn:∃u,h'.get? e=some u)
  (new:cQ P w (upd H x o') h' x o'):lD P w (upd H x o') h':=fun b u q=>by
 have Nd:∀c y,H c=some (.own y)→c≠x:=fun c y r z=>by subst z;rw[r]at mu;exact mu
 have Rl:∀c xs,H c=some (.tup xs)→c≠x:=fun c xs r z=>by subst z;rw[r]at mu;exact mu
 by_cases hb:b=x
 ·subst hb;rw[ae]at q;cases q;exact new
 ·rw[ak hb]at q;by_cases J0:b=e
  ·have q':H b=some (.own x):=by
    rcases he with z|z
    ·exact ZE (J0.trans z) hb
    ·rw[J0];exact z
   rw[q]at q';cases q';obtain⟨v,hv⟩:=Mn;exact⟨v,by rw[J0];exact hv⟩
  ·refine(ok b u q).wc (fun c v hc r=>k c v ?_ r) (fun c r=>by rw[ak (Nd c b r)];exact r) fun c xs r=>by rw[ak (Rl c xs r)];exact r
   rcases hc with rfl|hc
   ·exact J0
   ·rintro rfl;rcases he with z|z
    ·exact Nd c b hc z
    ·rw[hc]at z;cases z;exact hb rfl
end
structure Un(fs ex:List Addr)(H H':Hp)(h h':Heap):Prop where
 keep:∀b o,h.get? b=some o→H b=none→b∉fs→b∉ex→h'.get? b=some o
 slot:∀b o,h.get? b=some o→H b=none→b∈fs→b∉ex→∃sl,h'.get? b=some {o with slots:=sl}
 free:∀b o,h.get? b=some o→H b=none→b∉ex→H' b=none
 there:∀b o,h.get? b=some o→b∉ex→∃o',h'.get? b=some o'
 cC:∀b xs,H b=some (.tup xs)→H' b=some (.tup xs)
 ow:∀b o u,H b=some (.so o u)→H' b=some (.so o u)
 rO:∀b ps,H b=some (.Gz ps)→∃more,H' b=some (.Gz (ps++more))
section
variable{fs WG ex aaI:List Addr}{H H1 H2:Hp}{h h1 h2 h':Heap}{a x e:Addr}{o:HO}
theorem Un.any(u:Un fs ex H H1 h h1){b:Addr}{ob:Obj}(q:h.get? b=some ob)(n:H b=none)(hx:b∉ex):∃sl,h1.get? b=some {ob with slots:=sl}:=by
 by_cases hb:b∈fs
 ·exact u.slot b ob q n hb hx
 ·exact⟨ob.slots,u.keep b ob q n hb hx⟩
theorem Un.kept(k:∀b u,h.get? b=some u→h'.get? b=some u):Un fs ex H H h h':=
 ⟨fun b ob q _ _ _=>k b ob q,fun b ob q _ _ _=>⟨ob.slots,k b ob q⟩,fun _ _ _ n _=>n,fun b ob q _=>⟨ob,k b ob q⟩,fun _ _ q=>q,fun _ _ _ q=>q,fun _ ps q=>⟨#[],by rw[q];simp⟩⟩
theorem Un.refl:Un fs ex H H h h:=Un.kept fun _ _ q=>q
theorem Un.laid(k:∀b u,h.get? b=some u→h'.get? b=some u)(hp:h.objs.size≤a)(hn:H a=none):Un fs ex H (upd H a o) h h' where
 keep:=fun b u q _ _ _=>k b u q
 slot:=fun b u q _ _ _=>⟨u.slots,k b u q⟩
 free:=fun b u q n _=>by rw[ak (Nat.ne_of_lt (Nat.lt_of_lt_of_le (Zm q) hp))];exact n
 there:=fun b u q _=>⟨u,k b u q⟩
 cC:=fun b xs q=>by rw[ak (aE q hn)];exact q
 ow:=fun b u xs q=>by rw[ak (aE q hn)];exact q
 rO:=fun b ps q=>⟨#[],by rw[ak (aE q hn),q];simp⟩
theorem Un.write(mu:Nc (H x))(he:e=x∨H e=some (.own x))(k:∀b u,b≠e→h.get? b=some u→h'.get? b=some u)(Mn:∃u,h'.get? e=some u):Un fs ex H (upd H x o) h h':=by
 have hx:∀b,H b=none→b≠x:=fun b n z=>by subst z;rw[n]at mu;exact mu
 have hb:∀b,H b=none→b≠e:=fun b n z=>by
  subst z;rcases he with r|r
  ·exact hx b n r
  ·rw[n]at r;cases r
 have hm:∀b u,H b=some u→¬Nc (some u)→b≠x:=fun b u q nm z=>by subst z;rw[q]at mu;exact nm mu
 refine⟨fun b u q n _ _=>k b u (hb b n) q,fun b u q n _ _=>⟨u.slots,k b u (hb b n) q⟩,fun b u q n _=>by rw[ak (hx b n)];exact n,fun b u q _=>?_,
  fun b xs q=>by rw[ak (hm b _ q fun z=>z)];exact q,fun b u xs q=>by rw[ak (hm b _ q fun z=>z)];exact q,fun b ps q=>⟨#[],by rw[ak (hm b _ q fun z=>z),q];simp⟩⟩
 by_cases J0:b=e
 ·subst J0;exact Mn
 ·exact⟨u,k b u J0 q⟩
end
def P0(h:Heap)(H:Hp):List Addr:=(Zj h.objs.size).filter fun a=>(H a).isSome
def we(h:Heap)(H:Hp):Heap:=PySem.W.hideAll h (P0 h H)
theorem Cd(h:Heap)(H:Hp):(we h H).objs.size=h.objs.size:=PySem.W.hideAll_size _ _
theorem DR{h:Heap}{H:Hp}{b:Addr}{o:Obj}(e:h.get? b=some o)(n:H b=none):(we h H).get? b=some o:=
 PySem.W.hideAll_get _ e fun hm=>by
  have q:(H b).isSome=true:=(List.mem_filter.mp hm).2;rw[n]at q;simp at q
theorem GA{h:Heap}{H:Hp}{b:Addr}{o:Obj}(e:(we h H).get? b=some o):h.get? b=some o∧H b=none:=by
 have e':h.get? b=some o:=PySem.W.of_hideAll (P0 h H) e;refine⟨e',?_⟩;cases q:H b with
 |none=>rfl
 |some x=>
  have hm:b∈P0 h H:=List.mem_filter.mpr ⟨List.mem_range.mpr (Zm e'),by simp[q]⟩;have z:(we h H).get? b=none:=PySem.W.hideAll_none (P0 h H) hm;rw[z]at e;cases e
def GB(g h:Heap)(L:Addr):List (Addr×Obj):=(Zj h.objs.size).filterMap fun a=>if a=L∨(g.get? a).isSome=true then none else(h.get? a).map fun o=>(a,o)
def rest(g h:Heap)(L d:Addr):List (Addr×Obj):=(GB g h L).filter fun p=>decide (p.1≠d)
structure Mod(K:PySem.W.Frag)(mg:Str→Option Value)(base:Heap):Prop where
 Mo:K.In base
 glob:base.Ns mainGlobals mg
 blt:∃mb,base.Ns builtinsNs mb∧∀x:Str,x≠"__name__"→mb x=bootBuiltins x
 nolimit:base.NoLimit
structure Cx where
 prog:Program
 w:World
 K:PySem.W.Frag
 mg:Str→Option Value
 base:Heap
 A:Around
 N:List Str
 dD:Shared
 eY:Hp
 env:Env
 outer:List Env
 stack:List Env
 ex:List Addr
 fn:Str→Bool
 calm:Bool
 pn:List (Addr×Obj)
 xe:Value→Shared→Prop
def ot(l:List Env):List Addr:=l.filterMap (·.frame)
abbrev Cx.fs(X:Cx):List Addr:=ot X.outer
def Ro(sc:Scope)(x:Str):Prop:=sc.names.lookup x=some .local∨sc.names.lookup x=some .cell∨sc.names.lookup x=some .free
def Loc(sc:Scope)(x:Str):Prop:=sc.names.lookup x=some .local∨sc.names.lookup x=some .cell
def Look(env:Env)(h:Heap)(m:Str→Option Value)(x:Str)(u:Value):Prop:=
 (env.kindOf x=some .local∧m x=some u)∨((env.kindOf x=some .cell∨env.kindOf x=some .free)∧∃c,env.cells.lookup x=some c∧h.IsCell c (some u))
structure Cx.Ok(X:Cx):Prop where
 mod:Mod X.K X.mg X.base
 kind:X.env.scope.kind= .function
 glob:X.env.globals=mainGlobals
 blt:X.env.builtins=builtinsNs
 above:X.dD.heap.objs.size≤X.env.locals
 inj:∀x y c,X.env.cells.lookup x=some c→X.env.cells.lookup y=some c→x=y
 has:∀x,(X.env.kindOf x=some .cell∨X.env.kindOf x=some .free)→∃c,X.env.cells.lookup x=some c
 Rp:∀x c,X.fn x=true→X.env.cells.lookup x=some c→X.dD.heap.objs.size≤c
 hd:X.calm=true→X.A.handled=none
 frames:X.A.frames=some X.stack
 UQ:X.stack=X.outer∨(X.stack=X.env::X.outer∧X.env.frame=some X.env.locals)
 aaT:∀b∈X.ex,b≠X.env.locals∧∀x c,X.env.cells.lookup x=some c→c≠b
 bs:∀b o,X.base.get? b=some o→X.dD.heap.get? b=some o∧X.eY b=none
 J1:X.base.objs.size≤X.dD.heap.objs.size
 J2:∀b o,X.base.get? b=some o→b∉X.ex
 Nf:∀b∈X.ex,b∉X.fs
 uG:X.dD.heap.FunFrames X.base X.outer
 Ng:∀b∈X.fs,X.eY b=none
structure Inv(X:Cx)(pins:List (Addr×Obj))(σ:List (Option V))(H:Hp)(s:Shared):Prop where
 ok:X.Ok
 os:s.os=X.dD.os
 bare:AllBare s.gens
 base:Un X.fs X.ex X.eY H X.dD.heap s.heap
 loc:∃m,s.heap.Ns X.env.locals m∧∀(i:Nat)(x:Str)(v:V),X.N[i]?=some x→σ[i]?=some (some v)→Ro X.env.scope x→∃u,RelV v u∧Look X.env s.heap m x u
 cell:∀x c,X.env.cells.lookup x=some c→∃v,s.heap.IsCell c v
 free:H X.env.locals=none
 mW:∀x c,X.env.cells.lookup x=some c→H c=none
 pin:∀p∈X.pn++pins,s.heap.get? p.1=some p.2∧H p.1=none∧p.1≠X.env.locals∧p.1∉X.fs∧∀v,p.2.data≠ .cell v
 bX:lD X.prog X.w H s.heap
 len:σ.length=X.N.length
section
variable{X:Cx}{pins:List (Addr×Obj)}{σ:List (Option V)}{H H':Hp}{s:Shared}{h':Heap}
theorem Cx.Ok.Rq(ok:X.Ok){b:Addr}{o:Obj}(e:X.base.get? b=some o):b∉X.fs:=fun hb=>by
 have:=(ok.uG.mem hb).1;rw[e]at this;cases this
theorem Inv.bs(I:Inv X pins σ H s):∀b o,X.base.get? b=some o→s.heap.get? b=some o∧H b=none:=fun b o e=>
 ⟨I.base.keep b o (I.ok.bs b o e).1 (I.ok.bs b o e).2 (I.ok.Rq e) (I.ok.J2 b o e),I.base.free b o (I.ok.bs b o e).1 (I.ok.bs b o e).2 (I.ok.J2 b o e)⟩
theorem Inv.bk(I:Inv X pins σ H s):∀b o,X.base.get? b=some o→s.heap.get? b=some o:=fun b o e=>(I.bs b o e).1
theorem Inv.mod(I:Inv X pins σ H s):Mod X.K X.mg X.base:=I.ok.mod
theorem Inv.qd(I:Inv X pins σ H s):X.K.In s.heap:=I.ok.mod.Mo.keeps I.bk
theorem Inv.lt(I:Inv X pins σ H s):X.env.locals<s.heap.objs.size:=let ⟨_,hn,_⟩:=I.loc;hn.lt
theorem Inv.sz(I:Inv X pins σ H s):X.dD.heap.objs.size≤s.heap.objs.size:=Nat.le_trans I.ok.above (Nat.le_of_lt I.lt)
theorem Inv.Rr(I:Inv X pins σ H s){a:Addr}(h:s.heap.objs.size≤a):a∉X.fs:=fun hb=>by
 obtain⟨_,o,ho,_⟩:=I.ok.uG.mem hb;exact ZE (Nat.lt_of_lt_of_le (Zm ho) (Nat.le_trans I.sz h)) (Nat.lt_irrefl _)
theorem Inv.J3(I:Inv X pins σ H s):∀x c,X.env.cells.lookup x=some c→c≠X.env.locals:=fun x c e z=>by
 obtain⟨v,o,ho,hd⟩:=I.cell x c e;obtain⟨m,⟨o',es,ep,J4,Mp,_⟩,_⟩:=I.loc;rw[z,J4]at ho;cases ho;rw[Mp]at hd;cases hd
theorem Inv.uG(I:Inv X pins σ H s):s.heap.FunFrames X.base X.outer:=by
 have all:∀(l:List Env),(∀b∈ot l,b∈X.fs)→X.dD.heap.FunFrames X.base l→s.heap.FunFrames X.base l:=by
  intro l
  induction l with
  |nil=>intro _ _;trivial
  |cons env r ih=>
   intro hs hl;obtain⟨hk,⟨L,o,hf,hn,ho,hd⟩,hr⟩:=hl;have hL:L∈X.fs:=hs L (by unfold ot;rw[List.filterMap_cons,hf];exact List.mem_cons_self);obtain⟨sl,e⟩:=I.base.slot L o ho (I.ok.Ng L hL) hL fun z=>I.ok.Nf L z hL
   exact⟨hk,⟨L,_,hf,hn,e,hd⟩,ih (fun b hb=>hs b (by unfold ot;rw[List.filterMap_cons,hf];exact Η hb)) hr⟩
 exact all X.outer (fun _ hb=>hb) I.ok.uG
theorem Inv.stack(I:Inv X pins σ H s):s.heap.FunFrames X.base X.stack:=by
 rcases I.ok.UQ with e|⟨e,hf⟩
 ·rw[e];exact I.uG
 ·rw[e];obtain⟨m,hn,_⟩:=I.loc;refine .cons (by rw[I.ok.kind];decide) hf hn ?_ I.uG;exact Heap.get?_none_of_le (Nat.le_trans I.ok.J1 I.ok.above)
theorem Inv.sL(I:Inv X pins σ H s):∀b∈ot X.stack,b∈X.env.locals::X.fs:=fun b hb=>by
 rcases I.ok.UQ with e|⟨e,hf⟩
 ·rw[e]at hb;exact Η hb
 ·rw[e]at hb;unfold ot at hb;rw[List.filterMap_cons,hf]at hb;exact hb
theorem Inv.wg(I:Inv X pins σ H s):∀b∈ot X.stack,H b=none:=fun b hb=>by
 rcases List.mem_cons.mp (I.sL b hb)with e|hb
 ·rw[e];exact I.free
 ·obtain⟨_,o,ho,_⟩:=I.ok.uG.mem hb;exact I.base.free b o ho (I.ok.Ng b hb) fun z=>I.ok.Nf b z hb
theorem Inv.step{g':Array GenState}{t':Nat}{d':Drawn}{ch:List Addr}(I:Inv X pins σ H s)
  (Gg:∀b∈ch,(b∈X.ex∨X.dD.heap.objs.size≤b)∧b≠X.env.locals∧(∀x c,X.env.cells.lookup x=some c→c≠b)∧∀p∈X.pn++pins,p.1≠b)
  (keep:∀b o,b≠X.env.locals→b∉X.fs→b∉ch→s.heap.get? b=some o→H b=none→h'.get? b=some o)
  (slot:∀b o,b≠X.env.locals→b∈X.fs→b∉ch→s.heap.get? b=some o→H b=none→∃sl,h'.get? b=some {o with slots:=sl}) (free:∀b o,b∉ch→s.heap.get? b=some o→H b=none→H' b=none)
  (there:∀b o,b∉ch→s.heap.get? b=some o→∃o',h'.get? b=some o')
  (cC:∀b xs,H b=some (.tup xs)→H' b=some (.tup xs)) (ow:∀b o u,H b=some (.so o u)→H' b=some (.so o u)) (rO:∀b ps,H b=some (.Gz ps)→∃more,H' b=some (.Gz (ps++more)))
  (ns:∀m,s.heap.Ns X.env.locals m→h'.Ns X.env.locals m) (bX:lD X.prog X.w H' h') (hg:AllBare g'):
  Inv X pins σ H' {s with heap:=h',gens:=g',drawn:=d',toks:=t'}:=by
 have UR:∀b o,X.dD.heap.get? b=some o→b≠X.env.locals:=fun b o e=>Nat.ne_of_lt (Nat.lt_of_lt_of_le (Zm e) I.ok.above)
 have P6:∀b o,X.dD.heap.get? b=some o→b∉X.ex→b∉ch:=fun b o e hx hb=>by
  rcases(Gg b hb).1 with z|z
  ·exact hx z
  ·exact ZE (Nat.lt_of_lt_of_le (Zm e) z) (Nat.lt_irrefl _)
 have cellK:∀x c,X.env.cells.lookup x=some c→∀v,s.heap.IsCell c v→h'.IsCell c v:=fun x c e v ⟨o,ho,hd⟩=>by
  have Nh:c∉ch:=fun z=>(Gg c z).2.2.1 x c e rfl
  by_cases hc:c∈X.fs
  ·obtain⟨sl,q⟩:=slot c o (I.J3 x c e) hc Nh ho (I.mW x c e);exact⟨_,q,hd⟩
  ·exact⟨o,keep c o (I.J3 x c e) hc Nh ho (I.mW x c e),hd⟩
 refine⟨I.ok,I.os,hg,⟨fun b o e n hb hx=>?_,fun b o e n hb hx=>?_,fun b o e n hx=>?_,fun b o e hx=>?_,fun b xs e=>cC b xs (I.base.cC b xs e),fun b o xs e=>ow b o xs (I.base.ow b o xs e),fun b ps e=>?_⟩,?_,fun x c e=>?_,?_,fun x c e=>?_,fun p hp=>?_,bX,I.len⟩
 ·exact keep b o (UR b o e) hb (P6 b o e hx) (I.base.keep b o e n hb hx) (I.base.free b o e n hx)
 ·obtain⟨sl,e1⟩:=I.base.slot b o e n hb hx;obtain⟨Rt,e2⟩:=slot b _ (UR b o e) hb (P6 b o e hx) e1 (I.base.free b o e n hx);exact⟨Rt,e2⟩
 ·obtain⟨o',e1⟩:=I.base.there b o e hx;exact free b o' (P6 b o e hx) e1 (I.base.free b o e n hx)
 ·obtain⟨o',e1⟩:=I.base.there b o e hx;exact there b o' (P6 b o e hx) e1
 ·obtain⟨m1,e1⟩:=I.base.rO b ps e;obtain⟨m2,e2⟩:=rO b _ e1;exact⟨m1++m2,by rw[e2,Array.append_assoc]⟩
 ·obtain⟨m,hn,hl⟩:=I.loc;refine⟨m,ns m hn,fun i x v e1 e2 e3=>?_⟩;obtain⟨u,r,l⟩:=hl i x v e1 e2 e3;refine⟨u,r,?_⟩;rcases l with l|⟨k,c,e,z⟩
  ·exact .inl l
  ·exact .inr ⟨k,c,e,cellK x c e _ z⟩
 ·obtain⟨v,z⟩:=I.cell x c e;exact⟨v,cellK x c e v z⟩
 ·obtain⟨m,⟨o,_,_,ho,_⟩,_⟩:=I.loc;exact free _ o (fun z=>(Gg _ z).2.1 rfl) ho I.free
 ·obtain⟨v,o,ho,hd⟩:=I.cell x c e;exact free c o (fun z=>(Gg c z).2.2.1 x c e rfl) ho (I.mW x c e)
 ·obtain⟨e,n,ne,nf,d⟩:=I.pin p hp;have Nh:p.1∉ch:=fun z=>(Gg p.1 z).2.2.2 p hp rfl
  exact⟨keep p.1 p.2 ne nf Nh e n,free p.1 p.2 Nh e n,ne,nf,d⟩
theorem Inv.un{t':Nat}(I:Inv X pins σ H s)(u:Un X.fs [] H H' s.heap h')(bX:lD X.prog X.w H' h'):Inv X pins σ H' {s with heap:=h',toks:=t'}:=by
 obtain⟨m,⟨o,es,ep,ho,r⟩,_⟩:=id I.loc;obtain⟨sl,hL⟩:=u.any ho I.free V9;exact I.step (g':=s.gens) (d':=s.drawn) (ch:=[]) (fun _ z=>nomatch z) (fun b o _ hb _ e n=>u.keep b o e n hb V9) (fun b o _ hb _ e n=>u.slot b o e n hb V9) (fun b o _ e n=>u.free b o e n (Wv)) (fun b o _ e=>u.there b o e V9) u.cC u.ow u.rO (fun m' hm=>by
  obtain⟨o',yk,P7,J4,r'⟩:=hm;rw[ho]at J4;cases J4;exact⟨_,yk,P7,hL,r'⟩) bX I.bare
theorem Inv.call{g':Array GenState}{t':Nat}{d':Drawn}{ch:List Addr}(I:Inv X pins σ H s)(u:Un (ot X.stack) ch H H' s.heap h')(bX:lD X.prog X.w H' h')(hg:AllBare g')
  (Gg:∀b∈ch,(b∈X.ex∨X.dD.heap.objs.size≤b)∧b≠X.env.locals∧(∀x c,X.env.cells.lookup x=some c→c≠b)∧∀p∈X.pn++pins,p.1≠b):
  Inv X pins σ H' {s with heap:=h',gens:=g',drawn:=d',toks:=t'}:=by
 obtain⟨m,⟨o,es,ep,ho,r⟩,_⟩:=id I.loc;obtain⟨sl,hL⟩:=u.any ho I.free fun z=>(Gg _ z).2.1 rfl
 exact I.step (ch:=ch) Gg (fun b o hL hb hc e n=>u.keep b o e n (fun z=>(List.mem_cons.mp (I.sL b z)).elim hL hb) hc) (fun b o _ _ hc e n=>u.any e n hc) (fun b o hc e n=>u.free b o e n hc) (fun b o hc e=>u.there b o e hc) u.cC u.ow u.rO (fun m' hm=>by
  obtain⟨o',yk,P7,J4,r'⟩:=hm;rw[ho]at J4;cases J4;exact⟨_,yk,P7,hL,r'⟩) bX hg
theorem Inv.turned{t':Nat}{it:Addr}(I:Inv X pins σ H s)(k:∀b o,b≠it→s.heap.get? b=some o→h'.get? b=some o)(hn:H it=none)(hL:it≠X.env.locals)
  (h1:it∈X.ex∨X.dD.heap.objs.size≤it) (h2:∀x c,X.env.cells.lookup x=some c→c≠it) (h3:∀p∈X.pn++pins,p.1≠it):Inv X pins σ H {s with heap:=h',toks:=t'}:=by
 have IC:∀b u,H b=some u→b≠it:=fun b u e z=>by rw[z,hn]at e;cases e
 refine I.step (g':=s.gens) (d':=s.drawn) (ch:=[it]) (fun b hb=>?_) (fun b o _ _ hc e _=>k b o (fun z=>hc (by simp[z])) e) (fun b o _ _ hc e _=>⟨o.slots,k b o (fun z=>hc (by simp[z])) e⟩) (fun _ _ _ _ n=>n)
  (fun b o hc e=>⟨o,k b o (fun z=>hc (by simp[z])) e⟩) (fun _ _ e=>e) (fun _ _ _ e=>e) (fun b ps e=>⟨#[],by rw[e];simp⟩) (fun m hm=>?_) (fun b u e=>?_) I.bare
 ·have e:b=it:=by simpa using hb
  subst e;exact⟨h1,hL,h2,h3⟩
 ·obtain⟨o,es,ep,ho,r⟩:=hm;exact⟨o,es,ep,k _ o (Ne.symm hL) ho,r⟩
 ·refine(I.bX b u e).wc (fun c v hc q=>k c v ?_ q) (fun _ q=>q) fun _ _ q=>q
  rcases hc with z|z
  ·rw[z];exact IC b u e
  ·exact IC c _ z
theorem Inv.tok(I:Inv X pins σ H s)(t:Nat):Inv X pins σ H {s with toks:=t}:=I.un (h':=s.heap) (t':=t) Un.refl I.bX
theorem Inv.kept{t':Nat}(I:Inv X pins σ H s)(k:∀b u,s.heap.get? b=some u→h'.get? b=some u):Inv X pins σ H {s with heap:=h',toks:=t'}:=I.un (Un.kept k) (I.bX.kept k)
theorem Inv.laid{a:Addr}{o:HO}{t':Nat}(I:Inv X pins σ H s)(k:∀b u,s.heap.get? b=some u→h'.get? b=some u)(hp:s.heap.objs.size≤a)(new:cQ X.prog X.w (upd H a o) h' a o):
  Inv X pins σ (upd H a o) {s with heap:=h',toks:=t'}:=I.un (Un.laid k hp (I.bX.fresh hp)) (I.bX.laid k hp new)
theorem Inv.write{x e:Addr}{o:HO}{t':Nat}(I:Inv X pins σ H s)(mu:Nc (H x))(he:e=x∨H e=some (.own x))(k:∀b u,b≠e→s.heap.get? b=some u→h'.get? b=some u)(Mn:∃u,h'.get? e=some u)
  (new:cQ X.prog X.w (upd H x o) h' x o):Inv X pins σ (upd H x o) {s with heap:=h',toks:=t'}:=I.un (Un.write mu he k Mn) (I.bX.write mu he k Mn new)
theorem Inv.A9{ID:List (Addr×Obj)}(I:Inv X pins σ H s)(h:∀p∈ID,s.heap.get? p.1=some p.2∧H p.1=none∧p.1≠X.env.locals∧p.1∉X.fs∧∀v,p.2.data≠ .cell v):Inv X ID σ H s:=
 ⟨I.ok,I.os,I.bare,I.base,I.loc,I.cell,I.free,I.mW,fun p hp=>(List.mem_append.mp hp).elim (fun z=>I.pin p (Ω z)) (h p),I.bX,I.len⟩
theorem yl{N:List Str}(hN:N.Nodup){i j:Nat}{x:Str}(a:N[i]?=some x)(b:N[j]?=some x):i=j:=by
 obtain⟨h1,e1⟩:=Z' a;obtain⟨h2,e2⟩:=Z' b;exact(List.getElem_inj hN).mp (e1.trans e2.symm)
theorem vw{M:Model}{A:Around}{E:Value→Shared→Prop}{i:Nat}{x:Str}{v:V}{u:Value}{Q:Unit→Shared→Prop}(I:Inv X pins σ H s)(hN:X.N.Nodup)(hi:X.N[i]?=some x)(hx:Loc X.env.scope x)(r:RelV v u)
  (h:∀s',Inv X pins (σ.set i (some v)) H s'→(∃a,Heap.SameBut a s.heap s'.heap∧(a=X.env.locals∨X.env.cells.lookup x=some a))→Q () s') (hf:X.fn x=true∨X.env.scope.names.lookup x=some .local:=by first|exact .inl rfl|exact .inr rfl|assumption):wpAny M A (storeName X.env x u) Q E s:=by
 obtain⟨m,hn,hl⟩:=id I.loc;have Ru:(X.env.scope.kind== .class||(X.env.scope.kind== .module&&X.env.locals !=X.env.globals))=false:=by rw[I.ok.kind];rfl
 have Ni:i<σ.length:=by rw[I.len];exact(Z' hi).1
 have J3:=I.J3;have tracked:∀{a:Addr}{h':Heap},(∃o,s.heap.get? a=some o∧H a=none)→Heap.SameBut a s.heap h'→lD X.prog X.w H h':=fun{a h'} ha hs b ob e=>by
  obtain⟨_,_,A_⟩:=ha;refine(I.bX b ob e).wc (fun c w' hc q=>(hs.2 c ?_).trans q) (fun _ q=>q) fun _ _ q=>q
  rintro rfl;rcases hc with rfl|hc
  ·rw[A_]at e;cases e
  ·rw[A_]at hc;cases hc
 rcases hx with hk|hk
 ·refine wpAny_storeName_local hk hn (fun h' DS hs=>?_) Ru;obtain⟨oL,_,_,IE,_⟩:=id hn;refine h _ ⟨I.ok,I.os,I.bare,⟨fun b o e n hb hx=>?_,fun b o e n hb hx=>?_,I.base.free,fun b o e hx=>?_,I.base.cC,I.base.ow,I.base.rO⟩,⟨_,DS,fun j y v' e1 e2 e3=>?_⟩,fun y c e=>?_,I.free,I.mW,fun p hp=>?_,tracked ⟨oL,IE,I.free⟩ hs,by simpa using I.len⟩ ⟨_,hs, .inl rfl⟩
  ·exact(hs.2 b (Nat.ne_of_lt (Nat.lt_of_lt_of_le (Zm e) I.ok.above))).trans (I.base.keep b o e n hb hx)
  ·obtain⟨sl,e1⟩:=I.base.slot b o e n hb hx;exact⟨sl,(hs.2 b (Nat.ne_of_lt (Nat.lt_of_lt_of_le (Zm e) I.ok.above))).trans e1⟩
  ·obtain⟨o',e1⟩:=I.base.there b o e hx;exact⟨o',(hs.2 b (Nat.ne_of_lt (Nat.lt_of_lt_of_le (Zm e) I.ok.above))).trans e1⟩
  ·by_cases hj:j=i
   ·subst hj;rw[hi]at e1;cases e1;rw[List.getElem?_set_self Ni]at e2;cases e2;exact⟨u,r, .inl ⟨hk,Wv⟩⟩
   ·rw[List.getElem?_set_ne (Ne.symm hj)]at e2;obtain⟨u',r',q⟩:=hl j y v' e1 e2 e3;refine⟨u',r',?_⟩;rcases q with⟨k,e⟩|⟨k,c,e,z⟩
    ·refine .inl ⟨k,?_⟩;have:y≠x:=fun e=>hj (yl hN e1 (e▸hi))
     simp[this,e]
    ·exact .inr ⟨k,c,e,z.sameBut hs (J3 y c e)⟩
  ·obtain⟨w',z⟩:=I.cell y c e;exact⟨w',z.sameBut hs (J3 y c e)⟩
  ·obtain⟨e,n,ne,nf,d⟩:=I.pin p hp;exact⟨(hs.2 p.1 ne).trans e,n,ne,nf,d⟩
 ·have Nj:X.fn x=true:=by
   rcases hf with z|z
   ·exact z
   ·rw[z]at hk;cases hk
  obtain⟨c,hc⟩:=I.ok.has x (.inl hk);obtain⟨w',z⟩:=I.cell x c hc;refine wpAny_storeName_cell I.ok.kind hk hc z (fun h' J5 hs=>?_);obtain⟨oc,US,Rv⟩:=id z;refine h {s with heap:=h'} ⟨I.ok,I.os,I.bare,⟨fun b o e n hb hx=>?_,fun b o e n hb hx=>?_,I.base.free,fun b o e hx=>?_,I.base.cC,I.base.ow,I.base.rO⟩,⟨m,hn.sameBut hs (Ne.symm (J3 x c hc)),fun j y v' e1 e2 e3=>?_⟩,fun y c' e=>?_,I.free,I.mW,fun p hp=>?_,tracked ⟨oc,US,I.mW x c hc⟩ hs,by simpa using I.len⟩ ⟨c,hs, .inr hc⟩
  ·exact(hs.2 b (Nat.ne_of_lt (Nat.lt_of_lt_of_le (Zm e) (I.ok.Rp x c Nj hc)))).trans (I.base.keep b o e n hb hx)
  ·obtain⟨sl,e1⟩:=I.base.slot b o e n hb hx;exact⟨sl,(hs.2 b (Nat.ne_of_lt (Nat.lt_of_lt_of_le (Zm e) (I.ok.Rp x c Nj hc)))).trans e1⟩
  ·obtain⟨o',e1⟩:=I.base.there b o e hx;exact⟨o',(hs.2 b (Nat.ne_of_lt (Nat.lt_of_lt_of_le (Zm e) (I.ok.Rp x c Nj hc)))).trans e1⟩
  ·by_cases hj:j=i
   ·subst hj;rw[hi]at e1;cases e1;rw[List.getElem?_set_self Ni]at e2;cases e2;exact⟨u,r, .inr ⟨.inl hk,c,hc,J5⟩⟩
   ·rw[List.getElem?_set_ne (Ne.symm hj)]at e2;obtain⟨u',r',q⟩:=hl j y v' e1 e2 e3;refine⟨u',r',?_⟩;rcases q with q|⟨k,c',e,z'⟩
    ·exact .inl q
    ·refine .inr ⟨k,c',e,z'.sameBut hs ?_⟩;rintro rfl;exact hj (yl hN e1 (I.ok.inj _ _ _ e hc▸hi))
  ·by_cases UT:c'=c
   ·subst UT;exact⟨_,J5⟩
   ·obtain⟨w2,z2⟩:=I.cell y c' e;exact⟨w2,z2.sameBut hs UT⟩
  ·obtain⟨e,n,ne,nf,d⟩:=I.pin p hp;refine⟨(hs.2 p.1 ?_).trans e,n,ne,nf,d⟩;intro q;rw[q,US]at e;have q':oc=p.2:=ZV e;exact d w' (by rw[←q'];exact Rv)
theorem ym{M:Model}{A:Around}{E:Value→Shared→Prop}{i:Nat}{x:Str}{v:V}{u:Value}{Q:Unit→Shared→Prop}(I:Inv X pins σ H s)(hN:X.N.Nodup)(hi:X.N[i]?=some x)(hx:Loc X.env.scope x)(r:RelV v u)
  (h:∀s',Inv X pins (σ.set i (some v)) H s'→Q () s') (hf:X.fn x=true∨X.env.scope.names.lookup x=some .local:=by first|exact .inl rfl|exact .inr rfl|assumption):wpAny M A (storeName X.env x u) Q E s:=
 vw I hN hi hx r (fun s' I' _=>h s' I') hf
theorem Inv.Nk{s':Shared}{ch:List Addr}(I:Inv X pins σ H s)(ho:s'.os=s.os)(u:Un (ot X.stack) ch H H' s.heap s'.heap)(bX:lD X.prog X.w H' s'.heap)(hg:AllBare s'.gens)
  (Gg:∀b∈ch,(b∈X.ex∨X.dD.heap.objs.size≤b)∧b≠X.env.locals∧(∀x c,X.env.cells.lookup x=some c→c≠b)∧∀p∈X.pn++pins,p.1≠b):Inv X pins σ H' s':=by
 obtain⟨h',g',d',t',o'⟩:=s';have e:o'=s.os:=ho;subst e;exact I.call (g':=g') (t':=t') (d':=d') u bX hg Gg
end
abbrev XK:=Value→Option Addr→Hp→Prop
abbrev St:=List (Option V)
abbrev VK:=V→Hp→Prop
abbrev TE:=St→Hp→VK→Prop
abbrev TT:=St→Hp→(Bool→Hp→Prop)→Prop
abbrev TA:=St→Hp→(List V→Hp→Prop)→Prop
structure Ends where
 nx:St→Hp→Prop
 rt:VK
 bk:St→Hp→Prop:=fun _ _=>False
 ct:St→Hp→Prop:=fun _ _=>False
abbrev TS:=Ends→St→Hp→Prop
def EP(X:Cx)(pins:List (Addr×Obj))(σ:St)(Q:VK)(u:Value)(s':Shared):Prop:=∃v H',Inv X pins σ H' s'∧RelV v u∧Q v H'
def TP(X:Cx)(pins:List (Addr×Obj))(σ:St)(Q:Bool→Hp→Prop)(b:Bool)(s':Shared):Prop:=∃H',Inv X pins σ H' s'∧Q b H'
def AP(X:Cx)(pins:List (Addr×Obj))(σ:St)(Q:List V→Hp→Prop)(us:List Value)(s':Shared):Prop:=∃vs H',Inv X pins σ H' s'∧Vals vs us∧Q vs H'
def SP(X:Cx)(pins:List (Addr×Obj))(D:Ends)(f:Flow)(s':Shared):Prop:=
 match f with
 | .next=>∃bj H',Inv X pins bj H' s'∧D.nx bj H'
 | .brk=>∃bj H',Inv X pins bj H' s'∧D.bk bj H'
 | .cont=>∃bj H',Inv X pins bj H' s'∧D.ct bj H'
 | .ret u=>∃v bj H',Inv X pins bj H' s'∧RelV v u∧D.rt v H'
def PE(X:Cx)(e:Expr)(t:TE):Prop:=
 ∀(pins:List (Addr×Obj))(s:Shared)(σ:St)(H:Hp)(Q:VK),Inv X pins σ H s→t σ H Q→wpAny (model X.prog X.w) X.A (eval e X.env) (EP X pins σ Q) X.xe s
def PT(X:Cx)(e:Expr)(t:TT):Prop:=
 ∀(pins:List (Addr×Obj))(s:Shared)(σ:St)(H:Hp)(Q:Bool→Hp→Prop),Inv X pins σ H s→t σ H Q→wpAny (model X.prog X.w) X.A (isTrue e X.env (eval e X.env)) (TP X pins σ Q) X.xe s
def PW(X:Cx)(e:Expr)(t:TT):Prop:=
 ∀(whole:Sem Value)(pins:List (Addr×Obj))(s:Shared)(σ:St)(H:Hp)(Q:Bool→Hp→Prop),Inv X pins σ H s→t σ H Q→wpAny (model X.prog X.w) X.A (isTrue e X.env whole) (TP X pins σ Q) X.xe s
theorem PW.pt{X:Cx}{e:Expr}{t:TT}(h:PW X e t):PT X e t:=h _
def PA(X:Cx)(es:List Expr)(t:TA):Prop:=
 ∀(pos:Pos)(pins:List (Addr×Obj))(s:Shared)(σ:St)(H:Hp)(Q:List V→Hp→Prop),Inv X pins σ H s→t σ H Q→wpAny (model X.prog X.w) X.A (spliced (backTo pos (starEach es X.env))) (AP X pins σ Q) X.xe s
def PS(X:Cx)(st:Stmt)(t:TS):Prop:=
 ∀(pins:List (Addr×Obj))(s:Shared)(σ:St)(H:Hp)(D:Ends),Inv X pins σ H s→t D σ H→wpAny (model X.prog X.w) X.A (exec st X.env) (SP X pins D) X.xe s
def Ce(X:Cx)(st:List Stmt)(t:TS):Prop:=
 ∀(pins:List (Addr×Obj))(s:Shared)(σ:St)(H:Hp)(D:Ends),Inv X pins σ H s→t D σ H→wpAny (model X.prog X.w) X.A (execs st X.env) (SP X pins D) X.xe s
theorem cH{α:Type}{t:Sem α}{Q Q':α→Shared→Prop}{M:Model}{A:Around}{E:Value→Shared→Prop}{s:Shared}(h:wpAny M A t Q E s)(hQ:∀a s,Q a s→Q' a s):wpAny M A t Q' E s:=wpAny_mono h hQ fun _ _ x=>x
section
variable{X:Cx}
theorem bin{a b:Expr}{ta tb:TE}(ha:PE X a ta)(hb:PE X b tb){pins:List (Addr×Obj)}{s:Shared}{σ:St}{H:Hp}{R:V→V→Hp→Prop}(I:Inv X pins σ H s)(h:ta σ H fun x H1=>tb σ H1 fun y H2=>R x y H2)
  {α:Type} {Q:α→Shared→Prop} {f:Value→Value→Sem α}
  (hf:∀v u s2 x y H2,Inv X pins σ H2 s2→RelV x v→RelV y u→R x y H2→wpAny (model X.prog X.w) X.A (f v u) Q X.xe s2):
  wpAny (model X.prog X.w) X.A (eval a X.env) (fun v ck=>wpAny (model X.prog X.w) X.A (eval b X.env) (fun u qe=>wpAny (model X.prog X.w) X.A (f v u) Q X.xe qe) X.xe ck) X.xe s:=by
 refine cH (ha pins s σ H _ I h) fun v s1 ⟨x,H1,I1,r1,q1⟩=>?_
 refine cH (hb pins s1 σ H1 _ I1 q1) fun u s2 ⟨y,H2,I2,r2,q2⟩=>?_
 exact hf v u s2 x y H2 I2 r1 r2 q2
inductive J6(i:Nat)(σ:St)(H:Hp)(Q:VK):Prop
 |mk (v:_) (_:σ[i]?=some (some v)) (_:Q v H):J6 i σ H Q
def tC(v:V):TE:=fun _ H Q=>Q v H
theorem J7{i:Nat}{x:Str}{pos:Pos}(hN:X.N[i]?=some x)(hv:Ro X.env.scope x)(hd:(x==("__debug__":Str))=false:=by decide)(Cf:(x==("__classdict__":Str))=false:=by decide):PE X (.Name x pos) (J6 i):=by
 intro pins s σ H Q I h;obtain⟨v,e,h⟩:=h;obtain⟨m,hn,hl⟩:=I.loc;obtain⟨u,r,l⟩:=hl i x v hN e hv;have fin:EP X pins σ Q u s:=⟨v,H,I,r,h⟩
 rcases l with⟨hk,hm⟩|⟨hk,c,hc,IF⟩
 ·exact wpAny_Name (wpAny_loadName_local I.ok.kind hk hn hm fin) hd
 ·rcases hk with hk|hk
  ·exact wpAny_Name (wpAny_loadName_cell I.ok.kind hk hc IF fin) hd
  ·exact wpAny_Name (wpAny_loadName_free I.ok.kind hk hc IF fin Cf) hd
theorem ai{i j pos}:PE X (.Constant (.int i) j pos) (tC (.int i)):=fun _ _ _ H _ I h=>wpAny_Constant_int ⟨.int i,H,I.tok _,⟨_,rfl⟩,h⟩
theorem dU{b j pos}:PE X (.Constant (.bool b) j pos) (tC (.bl b)):=fun _ _ _ H _ I h=>Constant_bool ⟨.bl b,H,I,rfl,h⟩
theorem jU{j pos}:PE X (.Constant .none j pos) (tC .cK):=fun _ _ _ H _ I h=>Constant_none ⟨.cK,H,I,rfl,h⟩
theorem dX{x j pos}:PE X (.Constant (.str x) j pos) (tC (.str x)):=fun _ _ _ H _ I h=>Calls.Constant_str ⟨.str x,H,I.tok _,⟨_,rfl⟩,h⟩
def Gl(X:Cx)(x:Str):Prop:=X.env.kindOf x=some .globalImplicit
theorem oz{E:Value→Shared→Prop}{pins:List (Addr×Obj)}{s:Shared}{σ:St}{H:Hp}{x:Str}{u:Value}{pos:Pos}{Q:Value→Shared→Prop}(I:Inv X pins σ H s)(hg:Gl X x)(hm:X.mg x=some u)(h:Q u s)
  (hd:(x==("__debug__":Str))=false:=by decide):wpAny (model X.prog X.w) X.A (eval (.Name x pos) X.env) Q E s:=
 Calls.Name_function_global I.ok.kind hg (Calls.loadGlobal_global (by rw[I.ok.glob];exact I.mod.glob.keeps I.bk) hm h) hd
theorem lE{E:Value→Shared→Prop}{pins:List (Addr×Obj)}{s:Shared}{σ:St}{H:Hp}{x:Str}{u:Value}{pos:Pos}{Q:Value→Shared→Prop}(I:Inv X pins σ H s)(hg:Gl X x)(hm:X.mg x=none)(hv:bootBuiltins x=some u)(h:Q u s)
  (hn:x≠"__name__":=by decide) (hd:(x==("__debug__":Str))=false:=by decide):wpAny (model X.prog X.w) X.A (eval (.Name x pos) X.env) Q E s:=by
 obtain⟨mb,h1,h2⟩:=I.mod.blt;exact Calls.Name_function_global I.ok.kind hg (Calls.loadGlobal_builtin (by rw[I.ok.glob];exact I.mod.glob.keeps I.bk) hm (by rw[I.ok.blt];exact h1.keeps I.bk) ((h2 x hn).trans hv) h) hd
theorem Ba{x:Str}{v:V}{u:Value}{pos:Pos}(hg:Gl X x)(hm:X.mg x=some u)(r:RelV v u)(hd:(x==("__debug__":Str))=false:=by decide):PE X (.Name x pos) (tC v):=
 fun _ _ _ H _ I h=>oz I hg hm ⟨v,H,I,r,h⟩ hd
theorem ju{x:Str}{v:V}{u:Value}{pos:Pos}(hg:Gl X x)(hm:X.mg x=none)(hv:bootBuiltins x=some u)(r:RelV v u)(hn:x≠"__name__":=by decide)(hd:(x==("__debug__":Str))=false:=by decide):PE X (.Name x pos) (tC v):=
 fun _ _ _ H _ I h=>lE I hg hm hv ⟨v,H,I,r,h⟩ hn hd
variable{a b:Expr}{ta tb:TE}{pos:Pos}
def PC(X:Cx)(op:CmpOp)(a b:Expr)(t:TE):Prop:=
 ∀(pins:List (Addr×Obj))(s:Shared)(σ:St)(H:Hp)(Q:VK),Inv X pins σ H s→t σ H Q→
  wpAny (model X.prog X.w) X.A (eval a X.env) (fun v ck=>wpAny (model X.prog X.w) X.A (eval b X.env) (fun u qe=>wpAny (model X.prog X.w) X.A (compareOp op v u) (EP X pins σ Q) X.xe qe) X.xe ck) X.xe s
theorem bo(b:Expr){op:CmpOp}(h:op≠ .In)(h2:op≠ .NotIn):behindInMarks op b=false:=by
 have e1:(op==CmpOp.In)=false:=by cases op<;>first|rfl|exact absurd rfl h
 have e2:(op==CmpOp.NotIn)=false:=by cases op<;>first|rfl|exact absurd rfl h2
 cases b<;>simp[behindInMarks,e1,e2]
def Rw(ta:TE):TE:=fun σ H Q=>ta σ H fun x H1=>Q (.bl (decide (x= .cK))) H1
def Nl(ta:TE):TE:=fun σ H Q=>ta σ H fun x H1=>Q (.bl (!decide (x= .cK))) H1
theorem RelV.yn{x:V}{v:Value}(r:RelV x v):(v==Value.none)=decide (x= .cK):=by
 cases x with
 |cK=>cases r;rfl
 |bl _=>cases r;rfl
 |int _=>obtain⟨t,rfl⟩:=r;rfl
 |str _=>obtain⟨t,rfl⟩:=r;rfl
 |Cc _=>obtain⟨t,rfl⟩:=r;rfl
 |IB _=>obtain⟨t,rfl⟩:=r;rfl
 |ref _=>cases r;rfl
 |ty _=>cases r;rfl
theorem lF{j pos'}(ha:PE X a ta):PC X .Is a (.Constant .none j pos') (Rw ta):=by
 intro pins s σ H Q I h;refine cH (ha pins s σ H _ I h) fun v s1 ⟨x,H1,I1,r1,q1⟩=>?_
 exact Constant_none (is_none_gen ⟨.bl _,H1,I1,by rw[r1.yn];rfl,q1⟩)
theorem oA{j pos'}(ha:PE X a ta):PC X .IsNot a (.Constant .none j pos') (Nl ta):=by
 intro pins s σ H Q I h;refine cH (ha pins s σ H _ I h) fun v s1 ⟨x,H1,I1,r1,q1⟩=>?_
 exact Constant_none (isnot_none_gen ⟨.bl _,H1,I1,by rw[r1.yn];rfl,q1⟩)
inductive Nm(x:V)(H:Hp)(Q:Bool→Hp→Prop):Prop
 |mk (c:Bool) (_:x= .bl c) (_:Q c H):Nm x H Q
def tB(t:TE):TT:=fun σ H Q=>t σ H fun x H1=>Nm x H1 Q
theorem zN{op:CmpOp}{t:TE}(h:PC X op a b t)(h1:behindInMarks op b=false:=by first|exact bo _ (U7) (U7)|rfl):PE X (.Compare a [op] [b] pos) t:=fun pins s σ H Q I hw=>wpAny_Compare1 (h pins s σ H Q I hw) h1
theorem eE{op:CmpOp}{t:TE}(h:PC X op a b t)(h1:behindInMarks op b=false:=by first|exact bo _ (U7) (U7)|rfl):PT X (.Compare a [op] [b] pos) (tB t):=by
 intro pins s σ H Q I hw;refine wpAny_isTrue_Compare1 (cH (h pins s σ H _ I hw) fun v s1 h1=>cH h1 fun u s2 h2=>cH h2 fun c s3 ⟨x,H1,I1,r1,q1⟩=>?_) h1;obtain⟨d,rfl,q⟩:=q1;cases r1;exact wpAny_truthy_bool ⟨H1,I1,q⟩
theorem bY{e:Expr}{t:TE}(h:PE X e t)(he:∀whole,isTrue e X.env whole=(do let v←whole;standAt e.pos;holding [v] (truthy v)):=by intro _;rfl):PT X e (tB t):=by
 intro pins s σ H Q I hw;refine isTrue_plain (cH (h pins s σ H _ I hw) fun v s1 ⟨x,H1,I1,r1,q1⟩=>?_) (he _);obtain⟨d,rfl,q⟩:=q1;cases r1;exact wpAny_truthy_bool ⟨H1,I1,q⟩
variable{tA P8:TT}{rest:List Expr}
def Rx(t u:TT):TT:=fun σ H Q=>t σ H fun c H1=>if c=true then u σ H1 Q else Q false H1
def WH(t u:TT):TT:=fun σ H Q=>t σ H fun c H1=>if c=true then Q true H1 else u σ H1 Q
def Ry(t:TT):TT:=fun σ H Q=>t σ H fun c H1=>Q (!c) H1
theorem pw_and1(ha:PT X a tA):PW X (.BoolOp .And [a] pos) tA:=by
 intro wh pins s σ H Q I h;refine isTrue_and (cH (ha pins s σ H Q I h) fun c s1 e=>?_);cases c with
 |true=>exact isTrue_and_nil e
 |false=>exact e
theorem pw_or1(ha:PT X a tA):PW X (.BoolOp .Or [a] pos) tA:=by
 intro wh pins s σ H Q I h;refine isTrue_or (cH (ha pins s σ H Q I h) fun c s1 e=>?_);cases c with
 |false=>exact isTrue_or_nil e
 |true=>exact e
theorem pw_and(ha:PT X a tA)(hb:PW X (.BoolOp .And (b::rest) pos) P8):PW X (.BoolOp .And (a::b::rest) pos) (Rx tA P8):=by
 intro wh pins s σ H Q I h;refine isTrue_and (cH (ha pins s σ H _ I h) fun c s1 ⟨H1,I1,q1⟩=>?_);cases c with
 |true=>exact hb wh pins s1 σ H1 Q I1 q1
 |false=>exact⟨H1,I1,q1⟩
theorem pw_or(ha:PT X a tA)(hb:PW X (.BoolOp .Or (b::rest) pos) P8):PW X (.BoolOp .Or (a::b::rest) pos) (WH tA P8):=by
 intro wh pins s σ H Q I h;refine isTrue_or (cH (ha pins s σ H _ I h) fun c s1 ⟨H1,I1,q1⟩=>?_);cases c with
 |true=>exact⟨H1,I1,q1⟩
 |false=>exact hb wh pins s1 σ H1 Q I1 q1
theorem cL(ha:PT X a tA):PT X (.UnaryOp .Not a pos) (Ry tA):=by
 intro pins s σ H Q I h;exact isTrue_not (ha pins s σ H (fun c H1=>Q (!c) H1) I h)
def Nn(ta tb:TE):TE:=fun σ H Q=>ta σ H fun x H1=>∃c,x= .bl c∧if c=true then tb σ H1 Q else Q (.bl false) H1
def Np(ta:TE):TE:=fun σ H Q=>ta σ H fun x H1=>∃c,x= .bl c∧Q (.bl (!c)) H1
theorem wj{op}{t:TE}(h:PE X a t):PE X (.BoolOp op [a] pos) t:=fun pins s σ H Q I hw=>BoolOp_one (h pins s σ H Q I hw)
theorem wk(ha:PE X a ta)(hb:PE X (.BoolOp .And (b::rest) pos) tb):PE X (.BoolOp .And (a::b::rest) pos) (Nn ta tb):=by
 intro pins s σ H Q I h;refine BoolOp_and (cH (ha pins s σ H _ I h) fun v s1 ⟨x,H1,I1,r1,q1⟩=>?_);obtain⟨c,rfl,q1⟩:=q1;cases r1;refine wpAny_truthy_bool ?_;cases c with
 |true=>exact hb pins s1 σ H1 Q I1 q1
 |false=>exact⟨.bl false,H1,I1,rfl,q1⟩
theorem J8(ha:PE X a ta):PE X (.UnaryOp .Not a pos) (Np ta):=by
 intro pins s σ H Q I h;refine UnaryOp_ (cH (ha pins s σ H _ I h) fun v s1 ⟨x,H1,I1,r1,q1⟩=>?_);obtain⟨c,rfl,q1⟩:=q1;cases r1;exact not_of (wpAny_truthy_bool ⟨.bl (!c),H1,I1,rfl,q1⟩)
def WI(t:TT)(ta tb:TE):TE:=fun σ H Q=>t σ H fun c H1=>if c=true then ta σ H1 Q else tb σ H1 Q
theorem oB{c:Expr}(hc:PT X c tA)(ha:PE X a ta)(hb:PE X b tb):PE X (.IfExp c a b pos) (WI tA ta tb):=by
 intro pins s σ H Q I h;refine wpAny_IfExp (cH (hc pins s σ H _ I h) fun d s1 ⟨H1,I1,q1⟩=>?_);cases d with
 |true=>exact ha pins s1 σ H1 Q I1 q1
 |false=>exact hb pins s1 σ H1 Q I1 q1
end
def iE(K:PySem.W.Frag)(H:Hp)(a:Addr)(xs:List V):Prop:=
 Rd H a (.lst xs)∨
  ∃(o:Obj)(its:Array Value)(n:Nat),K.lookup a=some o∧o.cls= .type "list"∧o.dict=none∧o.data= .seq its n∧its.size≤sizeLine∧Vals xs its.toList
def DT(K:PySem.W.Frag)(H:Hp)(a:Addr)(xs:List V):Prop:=
 Rd H a (.tup xs)∨
  ∃(o:Obj)(its:Array Value)(n:Nat),K.lookup a=some o∧o.cls= .type "tuple"∧o.data= .seq its n∧its.size≤sizeLine∧Vals xs its.toList
def Rz:Value→Option V
 | .none=>some .cK
 | .bool b=>some (.bl b)
 | .int i _=>some (.int i)
 | .str x _=>some (.str x)
 | .bytes b _=>some (.Cc b)
 | .float b _=>some (.IB b)
 | .ref a=>some (.ref a)
 | .type n=>some (.ty n)
 | _=>none
theorem RelV.abs{x:V}{u:Value}(r:RelV x u):Rz u=some x:=by
 cases x with
 |cK=>cases r;rfl
 |bl _=>cases r;rfl
 |int _=>obtain⟨t,rfl⟩:=r;rfl
 |str _=>obtain⟨t,rfl⟩:=r;rfl
 |Cc _=>obtain⟨t,rfl⟩:=r;rfl
 |IB _=>obtain⟨t,rfl⟩:=r;rfl
 |ref _=>cases r;rfl
 |ty _=>cases r;rfl
theorem RelV.inj{x y:V}{u:Value}(r:RelV x u)(q:RelV y u):x=y:=ZV (r.abs.symm.trans q.abs)
theorem Vals.inj:∀{xs ys:List V}{us:List Value},Vals xs us→Vals ys us→xs=ys
 | _,_,_, .nil, .nil=>rfl
 | _,_,_, .cons r t, .cons r' t'=>by rw[r.inj r',Vals.inj t t']
section
variable{X:Cx}{pins:List (Addr×Obj)}{σ:St}{H:Hp}{s:Shared}{a:Addr}{xs ys:List V}
theorem iE.of{K:PySem.W.Frag}(h:H a=some (.lst xs)):iE K H a xs:= .inl (.inl h)
theorem DT.of{K:PySem.W.Frag}(h:H a=some (.tup xs)):DT K H a xs:= .inl (.inl h)
theorem Inv.list(I:Inv X pins σ H s)(h:iE X.K H a xs):∃its:List Value,Vals xs its∧PlainL s.heap a its.toArray∧xs.length≤sizeLine:=by
 rcases h with h|⟨o,its,n,hk,hc,hd,hs,hz,r⟩
 ·obtain⟨z,its,n,r,e⟩:=h.ok I.bX;exact⟨its,r,⟨_,n,e,rfl,rfl,rfl⟩,z⟩
 ·refine⟨its.toList,r,⟨o,n,I.qd a o hk,hc,hd,by simpa using hs⟩,?_⟩;have e:=r.length;simp only[Array.length_toList]at e;omega
theorem Inv.tuple(I:Inv X pins σ H s)(h:DT X.K H a xs):∃its:List Value,Vals xs its∧IsTup s.heap a its.toArray∧xs.length≤sizeLine:=by
 rcases h with h|⟨o,its,n,hk,hc,hs,hz,r⟩
 ·obtain⟨z,its,r,p⟩:=h.ok I.bX;exact⟨its,r,p,z⟩
 ·refine⟨its.toList,r,⟨o,I.qd a o hk,hc,n,by simpa using hs⟩,?_⟩;have e:=r.length;simp only[Array.length_toList]at e;omega
theorem Inv.yo(I:Inv X pins σ H s)(h:iE X.K H a xs)(h':iE X.K H a ys):xs=ys:=by
 obtain⟨its,r,⟨o,n,e,_,_,d⟩,_⟩:=I.list h;obtain⟨its',r',⟨o',n',e',_,_,d'⟩,_⟩:=I.list h';rw[e]at e';cases e';rw[d]at d';injection d' with d1 _;have:its=its':=by simpa using congrArg Array.toList d1
 subst this;exact r.inj r'
end
abbrev Cx.aaN(X:Cx)(E:Value→Shared→Prop):Cx:={X with xe:=E}
section
variable{X:Cx}{pins:List (Addr×Obj)}{σ:St}{H:Hp}{s:Shared}{E:Value→Shared→Prop}
end
section
variable{X:Cx}{st:Stmt}{rest:List Stmt}{t u:TS}{e:Expr}{te:TE}{pos:Pos}
def Nq:TS:=fun D σ H=>D.nx σ H
def RA(t u:TS):TS:=fun D σ H=>t {D with nx:=u D} σ H
theorem aQ:Ce X [] Nq:=fun _ _ σ H _ I h=>wpAny_execs_nil ⟨σ,H,I,h⟩
theorem av(h1:PS X st t)(h2:Ce X rest u):Ce X (st::rest) (RA t u):=by
 intro pins s σ H D I h;refine wpAny_execs_cons (cH (h1 pins s σ H {D with nx:=u D} I h) fun f s1 q=>?_);cases f with
 |next=>
  obtain⟨bj,H',I',q⟩:=q;exact h2 pins s1 bj H' D I' q
 |ret v=>exact q
 |brk=>exact q
 |cont=>exact q
theorem ao(h1:PS X st t):Ce X [st] t:=by
 intro pins s σ H D I h;refine wpAny_execs_cons (cH (h1 pins s σ H D I h) fun f s1 q=>?_);cases f with
 |next=>exact wpAny_execs_nil q
 |ret v=>exact q
 |brk=>exact q
 |cont=>exact q
theorem Inv.quiet{pins:List (Addr×Obj)}{σ:St}{H:Hp}{s:Shared}(I:Inv X pins σ H s):interactive X.env=false:=by simp[interactive,I.ok.kind]
def Nr(te:TE):TS:=fun D σ H=>te σ H fun _ H1=>D.nx σ H1
theorem a8(he:PE X e te)(hs:swapsWith e none pos.line X.env=pure false:=by rfl):PS X (.Expr e pos) (Nr te):=by
 intro pins s σ H D I h;exact wpAny_Expr_any (cH (he pins s σ H _ I h) fun v s1 ⟨x,H1,I1,r1,q1⟩=>⟨σ,H1,I1,q1⟩) I.quiet hs
def RB(te:TE):TS:=fun D σ H=>te σ H D.rt
theorem aN(he:PE X e te):PS X (.Return (some e) pos) (RB te):=by
 intro pins s σ H D I h;exact wpAny_Return_some (cH (he pins s σ H _ I h) fun v s1 ⟨x,H1,I1,r1,q1⟩=>⟨x,σ,H1,I1,r1,q1⟩)
def RD(c:TT)(t u:TS):TS:=fun D σ H=>c σ H fun b H1=>if b=true then t D σ H1 else u D σ H1
theorem a_{c:Expr}{a b:List Stmt}{tc:TT}(hc:PT X c tc)(ha:Ce X a t)(hb:Ce X b u):PS X (.If c a b pos) (RD tc t u):=by
 intro pins s σ H D I h;refine wpAny_If (cH (hc pins s σ H _ I h) fun d s1 ⟨H1,I1,q1⟩=>?_);cases d with
 |true=>exact ha pins s1 σ H1 D I1 q1
 |false=>exact hb pins s1 σ H1 D I1 q1
end
abbrev TG:=V→St→Hp→(St→Hp→Prop)→Prop
abbrev IG:=List V→St→Hp→(St→Hp→Prop)→Prop
def PG(X:Cx)(target:Expr)(t:TG):Prop:=
 ∀(pins:List (Addr×Obj))(s:Shared)(σ:St)(H:Hp)(v:V)(u:Value)(Q:St→Hp→Prop),Inv X pins σ H s→RelV v u→t v σ H Q→
  wpAny (model X.prog X.w) X.A (assign target X.env u) (fun _ s'=>∃bj H',Inv X pins bj H' s'∧Q bj H') X.xe s
def Nt(X:Cx)(ts:List Expr)(t:IG):Prop:=
 ∀(pins:List (Addr×Obj))(s:Shared)(σ:St)(H:Hp)(vs:List V)(us:List Value)(Q:St→Hp→Prop),Inv X pins σ H s→Vals vs us→t vs σ H Q→
  wpAny (model X.prog X.w) X.A (assignInOrder ((assignEach ts X.env).map (·.2)) us) (fun _ s'=>∃bj H',Inv X pins bj H' s'∧Q bj H') X.xe s
abbrev J9:=V→V→V→Hp→(Hp→Prop)→Prop
def Nu(X:Cx)(t:J9):Prop:=
 ∀(pins:List (Addr×Obj))(s:Shared)(σ:St)(H:Hp)(o i v:V)(ov iv u:Value)(Q:Hp→Prop),Inv X pins σ H s→RelV o ov→RelV i iv→RelV v u→t o i v H Q→
  wpAny (model X.prog X.w) X.A (setItem ov iv u) (fun _ s'=>∃H',Inv X pins σ H' s'∧Q H') X.xe s
section
variable{X:Cx}{pos:Pos}
def Bb(i:Nat):TG:=fun v σ H Q=>Q (σ.set i (some v)) H
theorem aJ{i:Nat}{x:Str}(hN:X.N.Nodup)(hi:X.N[i]?=some x)(hx:Loc X.env.scope x)(hf:X.fn x=true∨X.env.scope.names.lookup x=some .local:=by first|exact .inl rfl|exact .inr rfl|assumption):PG X (.Name x pos) (Bb i):=by
 intro pins s σ H v u Q I r h;exact wpAny_assign_Name (ym I hN hi hx r (fun s' I'=>⟨_,H,I',h⟩) hf)
def RE:IG:=fun vs σ H Q=>vs=[]∧Q σ H
def Nv(t:TG)(u:IG):IG:=fun vs σ H Q=>∃v r,vs=v::r∧t v σ H fun bj H'=>u r bj H' Q
theorem fJ:Nt X [] RE:=by
 intro pins s σ H vs us Q I r h;obtain⟨e,h⟩:=h;subst e;cases r;exact assignInOrder_nil ⟨σ,H,I,h⟩
theorem aZ{e:Expr}{es:List Expr}{t:TG}{u:IG}(h1:PG X e t)(h2:Nt X es u)
  (hs:(assignEach (e::es) X.env).map (·.2)=assign e X.env::(assignEach es X.env).map (·.2):=by rfl):Nt X (e::es) (Nv t u):=by
 intro pins s σ H vs us Q I r h;obtain⟨v,vr,e1,h⟩:=h;subst e1;cases r with
 |cons r rr=>
  rw[hs];refine assignInOrder_cons (cH (h1 pins s σ H _ _ _ I r h) fun _ s1 ⟨Mq,H1,I1,q1⟩=>?_);exact h2 pins s1 Mq H1 _ _ Q I1 rr q1
inductive J_(K:PySem.W.Frag)(n:Nat)(t:IG)(v:V)(σ:St)(H:Hp)(Q:St→Hp→Prop):Prop
 |mk (a:_) (xs:_) (_:v= .ref a) (_:DT K H a xs) (_:xs.length=n) (_:t xs σ H Q):J_ K n t v σ H Q
theorem J'{es:List Expr}{k:Nat}{t:IG}{n:Nat}(hc:X.calm=true)(h:Nt X es t)
  (hn:(assignEach es X.env).length=n:=by rfl) (vx:(assignEach es X.env).findIdx? (·.1)=none:=by rfl):PG X (.Tuple es k pos) (J_ X.K n t):=by
 intro pins s σ H v u Q I r hw;obtain⟨a,xs,e1,hq,hl,hw⟩:=hw;subst e1;cases r;obtain⟨its,rv,ht,hz⟩:=I.tuple hq;refine assign_Tuple_tuple (I.ok.hd hc) ht (by simp[hn,←hl,rv.length]) vx fun h' hx=>?_
 have I1:Inv X pins σ H {s with heap:=h'}:=I.kept (t':=s.toks) fun b o e=>hx b o (Nat.ne_of_lt (Zm e)) e
 exact h pins _ σ H xs _ Q I1 (by simpa using rv) hw
def RF(to ti:TE)(t:J9):TG:=fun v σ H Q=>to σ H fun o H1=>ti σ H1 fun i H2=>t o i v H2 fun H3=>Q σ H3
theorem Ka{o i:Expr}{to ti:TE}{t:J9}(ho:PE X o to)(hi:PE X i ti)(hs:Nu X t)
  (ha:∀v,assign (.Subscript o i pos) X.env v=(do
   let ov←holding [v] (eval o X.env)
   let iv←holding [v,ov] (eval i X.env)
   standAt pos
   holding [v,ov,iv] (setItem ov iv v)
   release [v,ov,iv] []):=by intro _;rfl):PG X (.Subscript o i pos) (RF to ti t):=by
 intro pins s σ H v u Q I r h;rw[ha];refine wpAny_bind (wpAny_holding (cH (ho pins s σ H _ I h) fun ov s1 ⟨x,H1,I1,r1,q1⟩=>?_));refine wpAny_bind (wpAny_holding (cH (hi pins s1 σ H1 _ I1 q1) fun iv s2 ⟨y,H2,I2,r2,q2⟩=>?_));refine wpAny_bind (wpAny_standAt (ZX (wpAny_holding (cH (hs pins s2 σ H2 x y v ov iv u _ I2 r1 r2 r q2) fun _ s3 ⟨H3,I3,q3⟩=>?_))));exact wpAny_release ⟨σ,H3,I3,q3⟩
def Kb(te:TE)(g:TG):TS:=fun D σ H=>te σ H fun x H1=>g x σ H1 D.nx
theorem zO{tg e:Expr}{te:TE}{g:TG}(he:PE X e te)(hg:PG X tg g)(hs:swapsWithSole [tg] e pos.line X.env=pure false:=by rfl)(hw:swappedStores [tg] e X.env=pure none:=by rfl)
  (h1:(assignEach [tg] X.env).map (·.2)=[assign tg X.env]:=by rfl):PS X (.Assign [tg] e pos) (Kb te g):=by
 intro pins s σ H D I h;refine wpAny_Assign_stores (cH (he pins s σ H _ I h) fun v s1 ⟨x,H1,I1,r1,q1⟩=>?_) hs hw;rw[h1];exact cH (hg pins s1 σ H1 x v _ I1 r1 q1) fun _ s2 q=>q
theorem aG{i:Nat}{x:Str}{e:Expr}{te:TE}{pos':Pos}(hN:X.N.Nodup)(hi:X.N[i]?=some x)(hx:Loc X.env.scope x)(he:PE X e te)(hs:swapsWith e (some (.Name x pos')) pos.line X.env=pure false:=by rfl)(hf:X.fn x=true∨X.env.scope.names.lookup x=some .local:=by first|exact .inl rfl|exact .inr rfl|assumption):
  PS X (.Assign [.Name x pos'] e pos) (Kb te (Bb i)):=by
 intro pins s σ H D I h;refine wpAny_Assign_Name (cH (he pins s σ H _ I h) fun v s1 ⟨y,H1,I1,r1,q1⟩=>?_) hs;exact ym I1 hN hi hx r1 (fun s2 I2=>⟨_,H1,I2,q1⟩) hf
end
section
variable{X:Cx}{pos:Pos}
def Kc(c:TT)(tb:TS):TS:=fun D σ H=>∃W:Nat→St→Hp→Prop,(∃m,W m σ H)∧∀m σ H,W m σ H→
 c σ H fun b H1=>if b=true then ∃N:St→Hp→Prop,(∀bj H',N bj H'→∃m',m'<m∧W m' bj H')∧tb {D with nx:=N,ct:=N,bk:=D.nx} σ H1 else D.nx σ H1
theorem sM{c:Expr}{body:List Stmt}{tc:TT}{tb:TS}(hp:PassesOwn (model X.prog X.w) X.A X.env X.xe)(hc:PT X c tc)(hb:Ce X body tb):PS X (.While c body [] pos) (Kc tc tb):=by
 intro pins s σ H D I h;obtain⟨W,⟨m0,w0⟩,turn⟩:=h;refine wpAny_While (codeAny_whileLoop (fun n s'=>∃bj H',Inv X pins bj H' s'∧W n bj H') ?_ m0 ⟨σ,H,I,w0⟩);rintro n s1 ⟨Mq,H1,I1,w1⟩;refine wpAny_passesOwn hp (cH (hc pins s1 Mq H1 _ I1 (turn n Mq H1 w1)) fun b s2 ⟨H2,I2,q2⟩=>?_);cases b with
 |true=>
  obtain⟨N,hN,q2⟩:=q2;rw[if_pos rfl];refine wpAny_passesOwn hp (cH (hb pins s2 Mq H2 _ I2 q2) fun f s3 q3=>?_);cases f with
  |next=>
   obtain⟨DV,H3,I3,n3⟩:=q3;obtain⟨m',hm,w3⟩:=hN DV H3 n3;exact⟨m',hm,DV,H3,I3,w3⟩
  |cont=>
   obtain⟨DV,H3,I3,n3⟩:=q3;obtain⟨m',hm,w3⟩:=hN DV H3 n3;exact⟨m',hm,DV,H3,I3,w3⟩
  |brk=>exact q3
  |ret v=>exact q3
 |false=>
  rw[Sn Bool.false_ne_true];exact wpAny_execs_nil ⟨Mq,H2,I2,q2⟩
end
structure It where
 go:Nat→Hp→Prop
 GC:Nat→Hp→V→Hp→Prop
 stop:Nat→Hp→Prop
def iA(X:Cx)(pins:List (Addr×Obj))(H:Hp)(b:Addr):Prop:=
 H b=none∧b≠X.env.locals∧b∉X.fs∧(b∈X.ex∨X.dD.heap.objs.size≤b)∧(∀x c,X.env.cells.lookup x=some c→c≠b)∧∀p∈X.pn++pins,p.1≠b
theorem Inv.uH{X:Cx}{pins:List (Addr×Obj)}{σ:St}{H H':Hp}{s:Shared}{b:Addr}(I:Inv X pins σ H s)(hb:s.heap.objs.size≤b)(hn:H' b=none):iA X pins H' b:=by
 refine⟨hn,Nat.ne_of_gt (Nat.lt_of_lt_of_le I.lt hb),I.Rr hb, .inr (Nat.le_trans I.sz hb),fun x c e z=>?_,fun p hp z=>?_⟩
 ·obtain⟨v,q⟩:=I.cell x c e;exact ZE (Nat.lt_of_lt_of_le q.lt (by rw[z];exact hb)) (Nat.lt_irrefl _)
 ·exact ZE (Nat.lt_of_lt_of_le (Zm (I.pin p hp).1) (by rw[z];exact hb)) (Nat.lt_irrefl _)
structure Turn(P:Program)(w:World)(K:PySem.W.Frag)(tg:Expr)(J:It)(fp:List Addr)(it:Addr)(tn:Nat→Heap→Prop):Prop where
 mem:it∈fp
 obj:∀i h,tn i h→∀b∈fp,∃o,h.get? b=some o∧∀v,o.data≠ .cell v
 keep:∀i h h',tn i h→(∀b∈fp,∀o,h.get? b=some o→h'.get? b=some o)→tn i h'
 item:∀(X:Cx),X.prog=P→X.w=w→X.K=K→X.calm=true→∀(i:Nat)(pins:List (Addr×Obj))(s:Shared)(σ:St)(H:Hp)(E:Value→Shared→Prop),Inv X pins σ H s→(∀b∈fp,iA X pins H b)→tn i s.heap→J.go i H→
  wpAny (model P w) X.A (pyNext (.ref it)) (fun r s1=>∃u,r=some u∧
   wpAny (model P w) X.A (letOwnedTupleGo tg (.ref it) u) (fun _ s2=>∃x H',Inv X pins σ H' s2∧RelV x u∧J.GC i H x H'∧tn (i+1) s2.heap∧∀b∈fp,H' b=none) E s1) E s
 done:∀(X:Cx),X.prog=P→X.w=w→X.K=K→X.calm=true→∀(i:Nat)(pins:List (Addr×Obj))(s:Shared)(σ:St)(H:Hp)(E:Value→Shared→Prop),Inv X pins σ H s→(∀b∈fp,iA X pins H b)→tn i s.heap→J.stop i H→
  wpAny (model P w) X.A (pyNext (.ref it)) (fun r s1=>r=none∧Inv X pins σ H s1) E s
 self:∀(A:Around)(i:Nat)(s:Shared)(Q:Value→Shared→Prop)(E:Value→Shared→Prop),tn i s.heap→Q (.ref it) s→wpAny (model P w) A (pyIter (.ref it)) Q E s
abbrev TI:=St→Hp→(It→Hp→Prop)→Prop
def RG(X:Cx)(pins:List (Addr×Obj))(σ:St)(tg:Expr)(R:It→Hp→Prop)(RH:Value)(s2:Shared):Prop:=
 ∃(it:Addr)(fp:List Addr)(tn:Nat→Heap→Prop)(J:It)(H':Hp),RH= .ref it∧Inv X pins σ H' s2∧Turn X.prog X.w X.K tg J fp it tn∧tn 0 s2.heap∧(∀b∈fp,iA X pins H' b)∧R J H'
def PI(X:Cx)(tg iter:Expr)(wi:TI):Prop:=
 ∀(pins:List (Addr×Obj))(s:Shared)(σ:St)(H:Hp)(R:It→Hp→Prop),Inv X pins σ H s→wi σ H R→
  wpAny (model X.prog X.w) X.A (eval iter X.env) (fun v s1=>wpAny (model X.prog X.w) X.A (pyIter v) (RG X pins σ tg R) X.xe s1) X.xe s
theorem yp{M:Model}{A:Around}{E:Value→Shared→Prop}{s:Shared}{tg:Expr}{it:Addr}{u:Value}{o:Obj}{n:String}{vs:Array Value}{Q:Unit→Shared→Prop}(ho:s.heap.get? it=some o)(hc:o.cls= .type n)(hd:o.data= .fields vs)
  (hn:["enumerate","zip","dict_itemiterator","dict_reverseitemiterator","odict_iterator","itertools.zip_longest","itertools.pairwise"].contains n=false) (hQ:Q () s):wpAny M A (letOwnedTupleGo tg (.ref it) u) Q E s:=by
 unfold letOwnedTupleGo;cases tg<;>first
  |exact ZL hQ
  |(cases u<;>first
    |exact ZL hQ
    |(refine wpAny_bind (wpAny_load ho ?_)
      rw[hc,hd];show wpAny M A (if (["enumerate","zip","dict_itemiterator","dict_reverseitemiterator","odict_iterator","itertools.zip_longest","itertools.pairwise"].contains n&&vs[0]?==some (rawInt _))=true then _ else _) Q E s;rw[Sn (by intro h;rw[hn,Bool.false_and]at h;cases h)];exact ZL hQ))
def Mr(K:PySem.W.Frag)(a:Addr):It:=
 ⟨fun i H=>∃xs x,iE K H a xs∧xs[i]?=some x,fun i H x H'=>H'=H∧∀xs,iE K H a xs→xs[i]?=some x,fun i H=>∃xs,iE K H a xs∧xs.length≤i⟩
def Kd(lo:Int)(n:Nat):It:=⟨fun i _=>i<n,fun i H x H'=>H'=H∧x= .int (lo+i),fun i _=>n≤i⟩
theorem Cg{P:Program}{w:World}{K:PySem.W.Frag}{tg:Expr}(a it:Addr):Turn P w K tg (Mr K a) [it] it (fun i h=>h.IsListIter it a i) where
 mem:=Wv
 obj:=fun i h st b hb=>by
  have e:b=it:=by simpa using hb
  subst e;obtain⟨o,e,c,d⟩:=st;exact⟨o,e,fun v z=>by rw[d]at z;cases z⟩
 keep:=fun i h h' st k=>st.at fun o e=>k it (Wv) o e
 item:=by
  intro X hP hw hK hc i pins s σ H E I hf st hg;subst hP hw hK;obtain⟨xs,x,hq,hx⟩:=hg;obtain⟨its,rv,p,hz⟩:=I.list hq;obtain⟨u,hu,ru⟩:=rv.get hx;obtain⟨f0,f1,f2,f3,f4,f5⟩:=hf it (Wv);refine wpAny_pyNext_list_item st p.isList (x:=u) (by simpa using hu) fun h' aT sb=>?_
  have I1:Inv X pins σ H {s with heap:=h'}:=I.turned (t':=s.toks) (fun b o hb e=>(sb.2 b hb).trans e) f0 f1 f3 f4 f5;obtain⟨o,e,c,d⟩:=id aT;exact⟨u,rfl,yp (s:={s with heap:=h'}) e c d (U7) ⟨x,H,I1,ru,⟨rfl,fun ys hy=>by rw[I.yo hy hq];exact hx⟩,aT,fun b hb=>(hf b hb).1⟩⟩
 done:=by
  intro X hP hw hK hc i pins s σ H E I hf st hg;subst hP hw hK;obtain⟨xs,hq,hx⟩:=hg;obtain⟨its,rv,p,hz⟩:=I.list hq;obtain⟨f0,f1,f2,f3,f4,f5⟩:=hf it (Wv);have hl:=rv.length;exact wpAny_pyNext_list_end (I.ok.hd hc) st p.isList (by simp;omega) fun h' eb=>⟨rfl,I.turned (t':=s.toks) (fun b o hb e=>eb b o hb e) f0 f1 f3 f4 f5⟩
 self:=fun _ _ _ _ _ st h=>wpAny_pyIter_listiter st h
theorem zP{P:Program}{w:World}{K:PySem.W.Frag}{tg:Expr}(it:Addr)(lo:Int)(n:Nat):Turn P w K tg (Kd lo n) [it] it (fun i h=>IsRangeIter h it (lo+(i:Nat)*1) ((n:Int)-(i:Nat)) 1) where
 mem:=Wv
 obj:=fun i h st b hb=>by
  have e:b=it:=by simpa using hb
  subst e;exact⟨_,st,fun v z=>by
   have z':Data.fields _=Data.cell v:=z;cases z'⟩
 keep:=fun i h h' st k=>k it (Wv) _ st
 item:=by
  intro X hP hw hK hc i pins s σ H E I hf st hg;subst hP hw hK;obtain⟨f0,f1,f2,f3,f4,f5⟩:=hf it (Wv);have W:=Walks.range (prog:=X.prog) (w:=X.w) (I.ok.hd hc) it lo 1 n;refine W.item i s _ _ hg st fun v h' tk hv aT kk=>?_
  obtain⟨t,rfl⟩:=hv;have I1:Inv X pins σ H {s with heap:=h',toks:=tk}:=I.turned (fun b o hb e=>kk b o (by simpa using hb) e) f0 f1 f3 f4 f5;refine⟨_,rfl,yp (s:={s with heap:=h',toks:=tk}) (n:="range_iterator") aT rfl rfl (U7) ⟨.int (lo+i),H,I1,⟨t,?_⟩,⟨rfl,rfl⟩,aT,fun b hb=>(hf b hb).1⟩⟩;rw[Int.mul_one]
 done:=by
  intro X hP hw hK hc i pins s σ H E I hf st hg;subst hP hw hK;obtain⟨f0,f1,f2,f3,f4,f5⟩:=hf it (Wv);exact wpAny_pyNext_range_end (I.ok.hd hc) st (by have:n≤i:=hg;omega) fun h' eb=>⟨rfl,I.turned (t':=s.toks) (fun b o hb e=>eb b o hb e) f0 f1 f3 f4 f5⟩
 self:=fun _ _ _ _ _ st h=>wpAny_pyIter_rangeiter st h
section
variable{X:Cx}{tg:Expr}
def IH(K:PySem.W.Frag)(tl:TE):TI:=fun σ H R=>tl σ H fun x H1=>∃a,x= .ref a∧(∃xs,iE K H1 a xs)∧R (Mr K a) H1
theorem GD{l:Expr}{tl:TE}(hl:PE X l tl):PI X tg l (IH X.K tl):=by
 intro pins s σ H R I h;refine cH (hl pins s σ H _ I h) fun v s1 ⟨x,H1,I1,r1,q1⟩=>?_
 obtain⟨a,e,⟨xs,hq⟩,q⟩:=q1;subst e;cases r1;obtain⟨its,rv,p,hz⟩:=I1.list hq;refine wpAny_pyIter_list p.isList ?_;refine⟨s1.heap.objs.size,[s1.heap.objs.size],_,_,H1,rfl,I1.kept (t':=s1.toks) fun b o e=>Zp e,Cg a _,⟨_,Heap.get?_push_size _ rfl,rfl,rfl⟩,fun b hb=>?_,q⟩;have e:b=s1.heap.objs.size:=by simpa using hb
 subst e;exact I1.uH Zn (I1.bX.fresh Zn)
theorem DW{pins:List (Addr×Obj)}{σ:St}{H:Hp}{s:Shared}{R:It→Hp→Prop}{E:Value→Shared→Prop}{lo hi:Int}{t u v:Tok}{tk:Nat}(I:Inv X pins σ H s)(h1:-(2^62)≤lo)(h2:lo<2^62)(h3:-(2^62)≤hi)(h4:hi<2^62)
  (q:R (Kd lo (hi-lo).toNat) H):wpAny (model X.prog X.w) X.A (pyIter (.ref s.heap.objs.size)) (RG X pins σ tg R) E {s with heap:=s.heap.push {cls:= .type "range",data:= .fields #[.int lo t, .int hi u, .int 1 v]},toks:=tk}:=by
 refine wpAny_pyIter_range (IsRange.new ..) (small_one h1 h2 h3 h4) ?_;have I1:Inv X pins σ H {s with heap:=s.heap.push {cls:= .type "range",data:= .fields #[.int lo t, .int hi u, .int 1 v]},toks:=tk}:=I.kept fun b o e=>Zp e
 refine⟨(s.heap.push {cls:= .type "range",data:= .fields #[.int lo t, .int hi u, .int 1 v]}).objs.size,[(s.heap.push {cls:= .type "range",data:= .fields #[.int lo t, .int hi u, .int 1 v]}).objs.size],_,_,H,rfl,
  I1.kept (t':=tk) fun b o e=>Zp e,zP _ lo (hi-lo).toNat,?_,fun b hb=>?_,q⟩
 ·have e1:lo+((0:Nat):Int)*1=lo:=Wv;have e2:(((hi-lo).toNat:Nat):Int)-((0:Nat):Int)=Builtin.Range.rangeSize lo hi 1:=by rw[rangeSize_one];split<;>omega
  show IsRangeIter _ _ (lo+((0:Nat):Int)*1) ((((hi-lo).toNat:Nat):Int)-((0:Nat):Int)) 1;rw[e1,e2];exact Heap.get?_push_size _ rfl
 ·have e:b=(s.heap.push {cls:= .type "range",data:= .fields #[.int lo t, .int hi u, .int 1 v]}).objs.size:=by simpa using hb
  subst e;exact I1.uH Zn (I1.bX.fresh Zn)
def Nw(ta:TA):TI:=fun σ H R=>ta σ H fun vs H1=>∃j:Int,vs=[.int j]∧-(2^62)≤j∧j<2^62∧R (Kd 0 j.toNat) H1
theorem eD{a:Expr}{ta:TA}{p pos:Pos}(hg:Gl X "range")(hm:X.mg "range"=none)(ha:PA X [a] ta)(hs:starEach [a] X.env=[(false,eval a X.env)]:=by rfl):PI X tg (.Call (.Name "range" p) [a] [] pos) (Nw ta):=by
 intro pins s σ H R I h;refine Call_ (lE I hg hm boot_range (PyProof.Rows.callWith_type1 (cH (ha pos pins s σ H _ I h) fun us s1 ⟨vs,H1,I1,r1,q1⟩=>?_) hs rfl));obtain⟨j,e,q1,q2,q⟩:=q1;subst e;cases r1 with
 |cons r rr=>
  cases rr;obtain⟨t,rfl⟩:=r;exact call_range_1 (DW I1 (Zq) (Zq) q1 q2 (by simpa using q))
def RJ(wi:TI)(g:TG)(tb:TS):TS:=fun D σ H=>wi σ H fun J H1=>∃W:Nat→Nat→St→Hp→Prop,(∃m,W 0 m σ H1)∧∀i m σ H,W i m σ H→
 (J.stop i H∧D.nx σ H)∨(J.go i H∧∃N:St→Hp→Prop,(∀bj H',N bj H'→∃m',m'<m∧W (i+1) m' bj H')∧∀x H',J.GC i H x H'→g x σ H' fun f' H2=>tb {D with nx:=N,ct:=N,bk:=D.nx} f' H2)
def sN(fp:List Addr)(h:Heap):List (Addr×Obj):=fp.filterMap fun b=>(h.get? b).map fun o=>(b,o)
theorem gQ{fp:List Addr}{h:Heap}{b:Addr}{o:Obj}(hb:b∈fp)(e:h.get? b=some o):(b,o)∈sN fp h:=List.mem_filterMap.mpr ⟨b,hb,by rw[e];rfl⟩
theorem Ci{fp:List Addr}{h:Heap}{p:Addr×Obj}(hp:p∈sN fp h):p.1∈fp∧h.get? p.1=some p.2:=by
 obtain⟨b,hb,e⟩:=List.mem_filterMap.mp hp;cases q:h.get? b with
 |none=>rw[q]at e;cases e
 |some o=>
  rw[q]at e;have e':(b,o)=p:=ZV e;subst e';exact⟨hb,q⟩
theorem Inv.pinned{pins:List (Addr×Obj)}{σ:St}{H:Hp}{s:Shared}{fp:List Addr}(I:Inv X pins σ H s)(hf:∀b∈fp,iA X pins H b)(ho:∀b∈fp,∃o,s.heap.get? b=some o∧∀v,o.data≠ .cell v):Inv X (pins++sN fp s.heap) σ H s:=
 I.A9 fun p hp=>(List.mem_append.mp hp).elim (fun z=>I.pin p (Ε z)) fun z=>by
  obtain⟨hb,e⟩:=Ci z;obtain⟨f0,f1,f2,_⟩:=hf p.1 hb;obtain⟨o,e',d⟩:=ho p.1 hb;rw[e]at e';cases e';exact⟨e,f0,f1,f2,d⟩
theorem Inv.lG{pins pl:List (Addr×Obj)}{σ:St}{H:Hp}{s:Shared}(I:Inv X (pins++pl) σ H s):Inv X pins σ H s:=I.A9 fun p hp=>I.pin p (Ε (Ω hp))
theorem bG{iter:Expr}{body:List Stmt}{wi:TI}{g:TG}{tb:TS}{pos:Pos}(hp:PassesOwn (model X.prog X.w) X.A X.env X.xe)(hc:X.calm=true)(hi:PI X tg iter wi)(hg:PG X tg g)(hb:Ce X body tb)
  (hs:∀x,foldedSetIterable iter X.env x=pure x:=by intro _;rfl):PS X (.For tg iter body [] pos) (RJ wi g tb):=by
 intro pins s σ H D I h;refine wpAny_For (cH (hi pins s σ H _ I h) fun v s1 h1=>cH h1 fun RH s2 h2=>?_) hs;obtain⟨it,fp,tn,J,H2,e,I2,T,dR,f2,W,⟨m0,w0⟩,turn⟩:=h2;subst e;have zQ:∀{H':Hp},(∀b∈fp,H' b=none)→∀b∈fp,iA X pins H' b:=fun hn b hb=>⟨hn b hb,(f2 b hb).2⟩
 refine codeAny_forLoop_any (fun n s'=>∃i bj H',Inv X pins bj H' s'∧tn i s'.heap∧(∀b∈fp,H' b=none)∧W i n bj H') ?_ m0 ⟨0,σ,H2,I2,dR,fun b hb=>(f2 b hb).1,w0⟩;rintro n s3 ⟨i,DV,H3,I3,DX,Ms,w3⟩;rcases turn i n DV H3 w3 with⟨stop,qn⟩|⟨go,N,hN,step⟩
 ·refine wpAny_passesOwn hp (cH (T.done X rfl rfl rfl hc i pins s3 DV H3 X.xe I3 (zQ Ms) DX stop) fun r s4 ⟨hr,I4⟩=>?_);subst hr;exact wpAny_execs_nil ⟨DV,H3,I4,qn⟩
 ·refine wpAny_passesOwn hp (cH (T.item X rfl rfl rfl hc i pins s3 DV H3 X.xe I3 (zQ Ms) DX go) fun r s4 ⟨u,hr,h4⟩=>?_);subst hr;refine wpAny_passesOwn hp (cH h4 fun _ s5 ⟨x,H5,I5,r5,y5,Mt,P9⟩=>?_);have WK:=I5.pinned (zQ P9) (T.obj _ _ Mt);refine wpAny_passesOwn hp (cH (hg _ s5 DV H5 x u _ WK r5 (step x H5 y5)) fun _ s6 ⟨WL,H6,I6,q6⟩=>?_);refine wpAny_passesOwn hp (cH (hb _ s6 WL H6 _ I6 q6) fun f s7 q7=>?_);have again:∀{DY:St}{H7:Hp},Inv X (pins++sN fp s5.heap) DY H7 s7→N DY H7→∃m,m<n∧∃i bj H',Inv X pins bj H' s7∧tn i s7.heap∧(∀b∈fp,H' b=none)∧W i m bj H':=fun{DY H7} I7 n7=>by
   obtain⟨m',hm,w7⟩:=hN DY H7 n7;refine⟨m',hm,i+1,DY,H7,I7.lG,T.keep _ _ _ Mt fun b hb o e=>(I7.pin (b,o) (Ε (Ε (gQ hb e)))).1,fun b hb=>?_,w7⟩;obtain⟨o,e,d⟩:=T.obj _ _ Mt b hb;exact(I7.pin (b,o) (Ε (Ε (gQ hb e)))).2.1
  cases f with
  |next=>obtain⟨DY,H7,I7,n7⟩:=q7;exact again I7 n7
  |cont=>obtain⟨DY,H7,I7,n7⟩:=q7;exact again I7 n7
  |brk=>obtain⟨DY,H7,I7,q7⟩:=q7;exact⟨DY,H7,I7.lG,q7⟩
  |ret v=>obtain⟨x7,DY,H7,I7,r7,q7⟩:=q7;exact⟨x7,DY,H7,I7.lG,r7,q7⟩
end
theorem bU{K:PySem.W.Frag}{a:Addr}{xs:List V}{g:TG}{tb:TS}{D:Ends}{σ:St}{H:Hp}(Pv:Nat→St→Hp→Prop)(h0:Pv 0 σ H)(hl:∀i σ H,i≤xs.length→Pv i σ H→iE K H a xs)
  (hs:∀i x σ H,xs[i]?=some x→Pv i σ H→g x σ H fun f' H2=>tb {D with nx:=Pv (i+1),ct:=Pv (i+1),bk:=D.nx} f' H2) (hd:∀σ H,Pv xs.length σ H→D.nx σ H):
  ∃W:Nat→Nat→St→Hp→Prop,(∃m,W 0 m σ H)∧∀i m σ H,W i m σ H→
   ((Mr K a).stop i H∧D.nx σ H)∨((Mr K a).go i H∧∃N:St→Hp→Prop,(∀bj H',N bj H'→∃m',m'<m∧W (i+1) m' bj H')∧∀x H',(Mr K a).GC i H x H'→g x σ H' fun f' H2=>tb {D with nx:=N,ct:=N,bk:=D.nx} f' H2):=by
 refine⟨fun i m σ H=>m=xs.length-i∧i≤xs.length∧Pv i σ H,⟨xs.length,Wv,Nat.zero_le _,h0⟩,?_⟩;rintro i m σ H ⟨rfl,hi,p⟩;have q:=hl i σ H hi p;by_cases gR:i<xs.length
 ·refine .inr ⟨⟨xs,xs[i],q,by simp[gR]⟩,Pv (i+1),fun bj H' p'=>⟨xs.length-(i+1),Zq,rfl,gR,p'⟩,fun x H' y=>?_⟩;obtain⟨e,y⟩:=y;subst e;exact hs i x σ _ (y xs q) p
 ·have e:i=xs.length:=Zq;subst e;exact .inl ⟨⟨xs,q,Nat.le_refl _⟩,hd σ H p⟩
theorem ft{lo:Int}{n:Nat}{g:TG}{tb:TS}{D:Ends}{σ:St}{H:Hp}(Pv:Nat→St→Hp→Prop)(h0:Pv 0 σ H)
  (hs:∀i σ H,i<n→Pv i σ H→g (.int (lo+i)) σ H fun f' H2=>tb {D with nx:=Pv (i+1),ct:=Pv (i+1),bk:=D.nx} f' H2) (hd:∀σ H,Pv n σ H→D.nx σ H):
  ∃W:Nat→Nat→St→Hp→Prop,(∃m,W 0 m σ H)∧∀i m σ H,W i m σ H→
   ((Kd lo n).stop i H∧D.nx σ H)∨((Kd lo n).go i H∧∃N:St→Hp→Prop,(∀bj H',N bj H'→∃m',m'<m∧W (i+1) m' bj H')∧∀x H',(Kd lo n).GC i H x H'→g x σ H' fun f' H2=>tb {D with nx:=N,ct:=N,bk:=D.nx} f' H2):=by
 refine⟨fun i m σ H=>m=n-i∧i≤n∧Pv i σ H,⟨n,Wv,Nat.zero_le _,h0⟩,?_⟩;rintro i m σ H ⟨rfl,hi,p⟩;by_cases gR:i<n
 ·refine .inr ⟨gR,Pv (i+1),fun bj H' p'=>⟨n-(i+1),Zq,rfl,gR,p'⟩,fun x H' y=>?_⟩;obtain⟨e,y⟩:=y;subst e y;exact hs i σ _ gR p
 ·have e:i=n:=Zq;subst e;exact .inl ⟨Nat.le_refl _,hd σ H p⟩
abbrev R2:=V→V→Hp→VK→Prop
def rl(X:Cx)(f:Value→Value→Sem Value)(r:R2):Prop:=
 ∀(pins:List (Addr×Obj))(s:Shared)(σ:St)(H:Hp)(x y:V)(v u:Value)(Q:VK),Inv X pins σ H s→RelV x v→RelV y u→r x y H Q→
  wpAny (model X.prog X.w) X.A (f v u) (EP X pins σ Q) X.xe s
def RK(X:Cx)(f:Value→Sem Value)(r:V→Hp→VK→Prop):Prop:=
 ∀(pins:List (Addr×Obj))(s:Shared)(σ:St)(H:Hp)(x:V)(v:Value)(Q:VK),Inv X pins σ H s→RelV x v→r x H Q→
  wpAny (model X.prog X.w) X.A (f v) (EP X pins σ Q) X.xe s
def i6(X:Cx)(f:Value)(r:List V→Hp→VK→Prop):Prop:=
 ∀(pins:List (Addr×Obj))(s:Shared)(σ:St)(H:Hp)(xs:List V)(us:List Value)(Q:VK),Inv X pins σ H s→Vals xs us→r xs H Q→
  wpAny (model X.prog X.w) X.A (call f us) (EP X pins σ Q) X.xe s
def P_(r:R2)(ta tb:TE):TE:=fun σ H Q=>ta σ H fun x H1=>tb σ H1 fun y H2=>r x y H2 Q
def WM(r:V→Hp→VK→Prop)(ta:TE):TE:=fun σ H Q=>ta σ H fun x H1=>r x H1 Q
inductive rI(C:Int→Int→Prop)(g:Int→Int→V)(x:V)(y:V)(H:Hp)(Q:VK):Prop
 |mk (i:_) (j:_) (_:x= .int i) (_:y= .int j) (_:C i j) (_:Q (g i j) H):rI C g x y H Q
inductive GF(g:Int→Int→V)(x:V)(y:V)(H:Hp)(Q:VK):Prop
 |mk (i:_) (j:_) (_:x= .int i) (_:y= .int j) (_:Q (g i j) H):GF g x y H Q
inductive rU(g:Int→V)(x:V)(H:Hp)(Q:VK):Prop
 |mk (i:_) (_:x= .int i) (_:Q (g i) H):rU g x H Q
section
variable{X:Cx}{a b c:Expr}{ta tb tc:TE}{pos:Pos}
theorem Ke(ha:PE X a ta)(hb:PE X b tb){pins:List (Addr×Obj)}{s:Shared}{σ:St}{H:Hp}{R:V→V→Hp→Prop}(I:Inv X pins σ H s)
  (h:ta σ H fun x H1=>tb σ H1 fun y H2=>R x y H2) {Q:Value→Shared→Prop} {f:Value→Value→Sem Value}
  (hf:∀v u s2 x y H2,Inv X pins σ H2 s2→RelV x v→RelV y u→R x y H2→wpAny (model X.prog X.w) X.A (f v u) Q X.xe s2):
  wpAny (model X.prog X.w) X.A (eval a X.env) (fun v ck=>wpAny (model X.prog X.w) X.A (eval b X.env) (fun u qe=>wpAny (model X.prog X.w) X.A (f v u) Q X.xe qe) X.xe ck) X.xe s:=by
 refine cH (ha pins s σ H _ I h) fun v s1 ⟨x,H1,I1,r1,q1⟩=>?_
 refine cH (hb pins s1 σ H1 _ I1 q1) fun u s2 ⟨y,H2,I2,r2,q2⟩=>?_
 exact hf v u s2 x y H2 I2 r1 r2 q2
theorem aH{op:Operator}{r:R2}(ho:rl X (binaryOp op) r)(ha:PE X a ta)(hb:PE X b tb):PE X (.BinOp a op b pos) (P_ r ta tb):=by
 intro pins s σ H Q I h;exact wpAny_BinOp (Ke ha hb I h fun v u s2 x y H2 I2 rx ry q=>ho pins s2 σ H2 x y v u Q I2 rx ry q)
theorem rm{op:UnaryOp}{r:V→Hp→VK→Prop}(ho:RK X (unaryOp op) r)(ha:PE X a ta):PE X (.UnaryOp op a pos) (WM r ta):=by
 intro pins s σ H Q I h;exact UnaryOp_ (cH (ha pins s σ H _ I h) fun v s1 ⟨x,H1,I1,r1,q1⟩=>ho pins s1 σ H1 x v Q I1 r1 q1)
theorem RL{f:Value→Value→Sem Value}{C:Int→Int→Prop}{g:Int→Int→Int}
  (rule:∀(i j:Int)(t u:Tok)(s:Shared)(Q:Value→Shared→Prop)(E:Value→Shared→Prop),C i j→Q (.int (g i j) s.toks) {s with toks:=s.toks+1}→wpAny (model X.prog X.w) X.A (f (.int i t) (.int j u)) Q E s):
  rl X f (rI C fun i j=> .int (g i j)):=by
 intro pins s σ H x y v u Q I rx ry h;obtain⟨i,j,rfl,rfl,hc,q⟩:=h;obtain⟨t,rfl⟩:=rx;obtain⟨t',rfl⟩:=ry;exact rule i j t t' s _ _ hc ⟨.int (g i j),H,I.tok _,⟨_,rfl⟩,q⟩
theorem Nx{f:Value→Value→Sem Value}{g:Int→Int→Int}
  (rule:∀(i j:Int)(t u:Tok)(s:Shared)(Q:Value→Shared→Prop)(E:Value→Shared→Prop),Q (.int (g i j) s.toks) {s with toks:=s.toks+1}→wpAny (model X.prog X.w) X.A (f (.int i t) (.int j u)) Q E s):
  rl X f (GF fun i j=> .int (g i j)):=by
 intro pins s σ H x y v u Q I rx ry h;obtain⟨i,j,rfl,rfl,q⟩:=h;obtain⟨t,rfl⟩:=rx;obtain⟨t',rfl⟩:=ry;exact rule i j t t' s _ _ ⟨.int (g i j),H,I.tok _,⟨_,rfl⟩,q⟩
theorem GG{f:Value→Value→Sem Value}{g:Int→Int→Bool}
  (rule:∀(i j:Int)(t u:Tok)(s:Shared)(Q:Value→Shared→Prop)(E:Value→Shared→Prop),Q (.bool (g i j)) s→wpAny (model X.prog X.w) X.A (f (.int i t) (.int j u)) Q E s):
  rl X f (GF fun i j=> .bl (g i j)):=by
 intro pins s σ H x y v u Q I rx ry h;obtain⟨i,j,rfl,rfl,q⟩:=h;obtain⟨t,rfl⟩:=rx;obtain⟨t',rfl⟩:=ry;exact rule i j t t' s _ _ ⟨.bl (g i j),H,I,rfl,q⟩
def Kf(i j:Int):Prop:=0<j∧j<1073741824
def Kg(i j:Int):Prop:=(-(2^64)<i∧i<2^64)∨(-(2^64)<j∧j<2^64)
theorem Kg.ok{i j:Int}(h:Kg i j):IntMulOk i j:=by
 rcases h with⟨h1,h2⟩|⟨h1,h2⟩
 ·exact .of_left (intBits_le_64 h1 h2)
 ·exact .of_right (intBits_le_64 h1 h2)
theorem bA:rl X (binaryOp .Add) (GF fun i j=> .int (i+j)):=Nx fun _ _ _ _ _ _ _ q=>add_int q
theorem cy:rl X (binaryOp .Sub) (GF fun i j=> .int (i-j)):=Nx fun _ _ _ _ _ _ _ q=>sub_int q
theorem nr:rl X (binaryOp .Mult) (rI Kg fun i j=> .int (i*j)):=RL fun _ _ _ _ _ _ _ hc q=>mul_int q hc.ok
theorem dY:rl X (binaryOp .FloorDiv) (rI Kf fun i j=> .int (i/j)):=RL fun i j _ _ _ _ _ hc q=>by
 have h1:(0:Int)<j:=hc.1;have h2:j<1073741824:=hc.2;exact floordiv_int (Zq) (by rw[Int.fdiv_eq_ediv_of_nonneg i (Zq)];exact q) (.inl (PyProof.noPylong_small (Zq)))
theorem bJ:rl X (binaryOp .Mod) (rI (fun _ j=>0<j) fun i j=> .int (i%j)):=RL fun i j _ _ _ _ _ hc q=>by
 have h1:(0:Int)<j:=hc;exact mod_int' (Zq) (by rw[Int.fmod_eq_emod_of_nonneg i (Zq)];exact q)
theorem WN{f:Value→Sem Value}{g:Int→Int}
  (rule:∀(i:Int)(t:Tok)(s:Shared)(Q:Value→Shared→Prop)(E:Value→Shared→Prop),Q (.int (g i) s.toks) {s with toks:=s.toks+1}→wpAny (model X.prog X.w) X.A (f (.int i t)) Q E s):
  RK X f (rU fun i=> .int (g i)):=by
 intro pins s σ H x v Q I rx h;obtain⟨i,rfl,q⟩:=h;obtain⟨t,rfl⟩:=rx;exact rule i t s _ _ ⟨.int (g i),H,I.tok _,⟨_,rfl⟩,q⟩
theorem lH:RK X (unaryOp .USub) (rU fun i=> .int (-i)):=WN fun _ _ _ _ _ q=>neg_int q
end
def Ny:V→V→Bool
 | .cK, .cK=>true| .cK, .int _=>true| .int _, .cK=>true| .cK, .bl _=>true| .bl _, .cK=>true| .cK, .str _=>true| .str _, .cK=>true
 | .int _, .int _=>true| .bl _, .bl _=>true| .str _, .str _=>true| .Cc _, .Cc _=>true
 | .int _, .str _=>true| .str _, .int _=>true| .bl _, .str _=>true| .str _, .bl _=>true
 | _,_=>false
def WO:R2:=fun x y H Q=>Ny x y=true∧Q (.bl (decide (x=y))) H
def WQ:R2:=fun x y H Q=>Ny x y=true∧Q (.bl (!decide (x=y))) H
theorem Bc{i j:Int}:decide (V.int i=V.int j)=(i==j):=by
 rw[Bool.eq_iff_iff];simp
theorem DZ{i j:Bool}:decide (V.bl i=V.bl j)=(i==j):=by
 rw[Bool.eq_iff_iff];simp
theorem Bd{i j:Str}:decide (V.str i=V.str j)=(i==j):=by
 rw[Bool.eq_iff_iff];simp
theorem Be{i j:Array UInt8}:decide (V.Cc i=V.Cc j)=(i.toList==j.toList):=by
 rw[Bool.eq_iff_iff];cases i;cases j;simp
section
variable{X:Cx}{a b c:Expr}{ta tb tc:TE}{pos:Pos}
theorem bH{pins:List (Addr×Obj)}{σ:St}{H:Hp}{s:Shared}{Q:VK}{k k':Bool}(I:Inv X pins σ H s)(q:Q (.bl k) H)(e:k=k'):EP X pins σ Q (.bool k') s:=by
 subst e;exact⟨.bl k,H,I,rfl,q⟩
theorem jv:rl X (compareOp .Eq) WO:=by
 intro pins s σ H x y v u Q I rx ry h;obtain⟨hs,q⟩:=h;cases x with
 |cK=>
  cases rx;cases y with
  |cK=>cases ry;exact PySem.EqNone.eq_none_none Ι
  |bl j=>cases ry;exact PySem.EqNone.eq_none_bool Ι
  |int j=>obtain⟨t',rfl⟩:=ry;exact PySem.EqNone.eq_none_int Ι
  |str j=>obtain⟨t',rfl⟩:=ry;exact PySem.EqNone.eq_none_str Ι
  | _=>exact Τ (show false=true from hs)
 |bl i=>
  cases rx;cases y with
  |cK=>cases ry;exact PySem.EqNone.eq_bool_none Ι
  |bl j=>cases ry;exact eq_bool (bH I q DZ)
  |str j=>obtain⟨t',rfl⟩:=ry;exact PySem.EqMixed.eq_bool_str Ι
  | _=>exact Τ (show false=true from hs)
 |int i=>
  obtain⟨t,rfl⟩:=rx;cases y with
  |cK=>cases ry;exact PySem.EqNone.eq_int_none Ι
  |int j=>obtain⟨t',rfl⟩:=ry;exact eq_int (bH I q Bc)
  |str j=>obtain⟨t',rfl⟩:=ry;exact PySem.EqMixed.eq_int_str Ι
  | _=>exact Τ (show false=true from hs)
 |str i=>
  obtain⟨t,rfl⟩:=rx;cases y with
  |cK=>cases ry;exact PySem.EqNone.eq_str_none Ι
  |bl j=>cases ry;exact PySem.EqMixed.eq_str_bool Ι
  |int j=>obtain⟨t',rfl⟩:=ry;exact PySem.EqMixed.eq_str_int Ι
  |str j=>obtain⟨t',rfl⟩:=ry;exact eq_str (bH I q Bd)
  | _=>exact Τ (show false=true from hs)
 |Cc i=>
  obtain⟨t,rfl⟩:=rx;cases y with
  |Cc j=>obtain⟨t',rfl⟩:=ry;exact PySem.W.eq_bytes (bH I q Be)
  | _=>exact Τ (show false=true from hs)
 | _=>cases y<;>exact Τ (show false=true from hs)
theorem vy:rl X (compareOp .NotEq) WQ:=by
 intro pins s σ H x y v u Q I rx ry h;obtain⟨hs,q⟩:=h;cases x with
 |cK=>
  cases rx;cases y with
  |cK=>cases ry;exact PySem.EqNone.ne_none_none Ι
  |bl j=>cases ry;exact PySem.EqNone.ne_none_bool Ι
  |int j=>obtain⟨t',rfl⟩:=ry;exact PySem.EqNone.ne_none_int Ι
  |str j=>obtain⟨t',rfl⟩:=ry;exact PySem.EqNone.ne_none_str Ι
  | _=>exact Τ (show false=true from hs)
 |bl i=>
  cases rx;cases y with
  |cK=>cases ry;exact PySem.EqNone.ne_bool_none Ι
  |bl j=>cases ry;exact ne_bool (bH I q (congrArg not DZ))
  |str j=>obtain⟨t',rfl⟩:=ry;exact PySem.EqMixed.ne_bool_str Ι
  | _=>exact Τ (show false=true from hs)
 |int i=>
  obtain⟨t,rfl⟩:=rx;cases y with
  |cK=>cases ry;exact PySem.EqNone.ne_int_none Ι
  |int j=>obtain⟨t',rfl⟩:=ry;exact ne_int (bH I q (congrArg not Bc))
  |str j=>obtain⟨t',rfl⟩:=ry;exact PySem.EqMixed.ne_int_str Ι
  | _=>exact Τ (show false=true from hs)
 |str i=>
  obtain⟨t,rfl⟩:=rx;cases y with
  |cK=>cases ry;exact PySem.EqNone.ne_str_none Ι
  |bl j=>cases ry;exact PySem.EqMixed.ne_str_bool Ι
  |int j=>obtain⟨t',rfl⟩:=ry;exact PySem.EqMixed.ne_str_int Ι
  |str j=>obtain⟨t',rfl⟩:=ry;exact ne_str (bH I q (congrArg not Bd))
  | _=>exact Τ (show false=true from hs)
 |Cc i=>
  obtain⟨t,rfl⟩:=rx;cases y with
  |Cc j=>obtain⟨t',rfl⟩:=ry;exact PySem.W.ne_bytes (bH I q (congrArg not Be))
  | _=>exact Τ (show false=true from hs)
 | _=>cases y<;>exact Τ (show false=true from hs)
theorem mY:rl X (compareOp .Lt) (GF fun i j=> .bl (decide (i<j))):=GG fun _ _ _ _ _ _ _ q=>lt_int q
theorem Bf:rl X (compareOp .LtE) (GF fun i j=> .bl (decide (i≤j))):=GG fun _ _ _ _ _ _ _ q=>le_int q
theorem rq:rl X (compareOp .Gt) (GF fun i j=> .bl (decide (j<i))):=GG fun _ _ _ _ _ _ _ q=>gt_int q
theorem Bg:rl X (compareOp .GtE) (GF fun i j=> .bl (decide (j≤i))):=GG fun _ _ _ _ _ _ _ q=>ge_int q
theorem aV(b:Expr){op:CmpOp}(h:op≠ .In:=by decide)(h2:op≠ .NotIn:=by decide):behindInMarks op b=false:=by
 have e1:(op==CmpOp.In)=false:=by cases op<;>first|rfl|exact absurd rfl h
 have e2:(op==CmpOp.NotIn)=false:=by cases op<;>first|rfl|exact absurd rfl h2
 cases b<;>simp[behindInMarks,e1,e2]
theorem iI{op:CmpOp}{r:R2}(ho:rl X (compareOp op) r)(ha:PE X a ta)(hb:PE X b tb)(hm:behindInMarks op b=false):PE X (.Compare a [op] [b] pos) (P_ r ta tb):=by
 intro pins s σ H Q I h;exact wpAny_Compare1 (Ke ha hb I h fun v u s2 x y H2 I2 rx ry q=>ho pins s2 σ H2 x y v u Q I2 rx ry q) hm
def Nz(t:TE):TT:=fun σ H Q=>t σ H fun x H'=>∃k,x= .bl k∧Q k H'
theorem aS{op:CmpOp}{r:R2}(ho:rl X (compareOp op) r)(ha:PE X a ta)(hb:PE X b tb)(hm:behindInMarks op b=false):PT X (.Compare a [op] [b] pos) (Nz (P_ r ta tb)):=by
 intro pins s σ H Q I h;refine wpAny_isTrue_Compare1 (cH (ha pins s σ H _ I h) fun v s1 ⟨x,H1,I1,r1,q1⟩=>cH (hb pins s1 σ H1 _ I1 q1) fun u s2 ⟨y,H2,I2,r2,q2⟩=>
  cH (ho pins s2 σ H2 x y v u _ I2 r1 r2 q2) fun c s3 ⟨z,H3,I3,r3,k,e,q3⟩=>?_) hm
 subst e;cases r3;exact wpAny_truthy_bool ⟨H3,I3,q3⟩
theorem ny:(sizeLine:Nat)<2^63:=by rw[sizeLine_eq];decide
theorem nB:rl X (binaryOp .Add) (fun x y H Q=>∃i j,x= .str i∧y= .str j∧i.length+j.length≤sizeLine∧Q (.str (i++j)) H):=by
 intro pins s σ H x y v u Q I rx ry h;obtain⟨i,j,rfl,rfl,hz,q⟩:=h;obtain⟨t,rfl⟩:=rx;obtain⟨t',rfl⟩:=ry;exact add_str (fun t' tk=>⟨.str (i++j),H,I.tok _,⟨_,rfl⟩,q⟩) hz
theorem vals1{x:V}{us:List Value}(r:Vals [x] us):∃u,us=[u]∧RelV x u:=by
 cases r with
 |cons r1 r2=>cases r2;exact⟨_,rfl,r1⟩
theorem vals2{x y:V}{us:List Value}(r:Vals [x,y] us):∃u w',us=[u,w']∧RelV x u∧RelV y w':=by
 cases r with
 |cons r1 r2=>
  cases r2 with
  |cons r3 r4=>cases r4;exact⟨_,_,rfl,r1,r3⟩
theorem Cj(hc:X.calm=true):i6 X (.builtin "max") (fun xs H Q=>∃i j,xs=[.int i, .int j]∧Q (.int (if j>i then j else i)) H):=by
 intro pins s σ H xs us Q I r h;obtain⟨i,j,rfl,q⟩:=h;obtain⟨u,w',rfl,⟨t,rfl⟩,⟨t',rfl⟩⟩:=vals2 r;refine max_two_ints (I.ok.hd hc) fun h' tk k=>⟨_,H,I.kept k,?_,q⟩
 by_cases hj:j>i
 ·rw[U6 hj,U6 hj];exact⟨_,rfl⟩
 ·rw[Sn hj,Sn hj];exact⟨_,rfl⟩
theorem qf(hc:X.calm=true):i6 X (.builtin "min") (fun xs H Q=>∃i j,xs=[.int i, .int j]∧Q (.int (if j<i then j else i)) H):=by
 intro pins s σ H xs us Q I r h;obtain⟨i,j,rfl,q⟩:=h;obtain⟨u,w',rfl,⟨t,rfl⟩,⟨t',rfl⟩⟩:=vals2 r;refine min_two_ints (I.ok.hd hc) fun h' tk k=>⟨_,H,I.kept k,?_,q⟩
 by_cases hj:j<i
 ·rw[U6 hj,U6 hj];exact⟨_,rfl⟩
 ·rw[Sn hj,Sn hj];exact⟨_,rfl⟩
theorem qg:i6 X (.type "int") (fun xs H Q=>(∃i,xs=[.int i]∧Q (.int i) H)∨∃k,xs=[.bl k]∧Q (.int (if k then 1 else 0)) H):=by
 intro pins s σ H xs us Q I r h;rcases h with⟨i,rfl,q⟩|⟨k,rfl,q⟩
 ·obtain⟨u,rfl,t,rfl⟩:=vals1 r;exact call_int_int ⟨.int i,H,I,⟨_,rfl⟩,q⟩
 ·obtain⟨u,rfl,r1⟩:=vals1 r;cases r1;exact call_int_bool ⟨.int (if k then 1 else 0),H,I.tok _,⟨_,rfl⟩,q⟩
end
structure zR(h:Heap)(x dx C:Addr)(mA:Str→Option Value):Prop where
 obj:h.get? x=some (PySem.W.instObj C dx)
 ns:h.Ns1 dx mA
 ne:dx≠x
theorem Ck{h:Heap}{dx:Addr}{mA:Str→Option Value}(n:h.Ns1 dx mA):∃od,h.get? dx=some od∧∀name,PySem.W.lookIn name od=some (mA name):=by
 obtain⟨o,es,ep,ho,hd,hk,_,hm⟩:=n;refine⟨o,ho,fun name=>?_⟩;have e:=hm name;unfold nsFind findBy at e;rw[←Array.find?_toList]at e;unfold PySem.W.lookIn;rw[hd];dsimp only;split
 ·rename_i y q
  rw[q]at e;exact congrArg some e
 ·rename_i q
  rw[q]at e;have a:es.toList.any (·.refKey)=false:=by
   rw[List.any_eq_false];intro y hy;obtain⟨z,t,oC⟩:=hk y (Array.mem_toList_iff.mp hy);simp[DictEntry.refKey,oC]
  have a':¬es.toList.any (·.refKey)=true:=by rw[a];exact Bool.false_ne_true
  rw[Sn a'];exact congrArg some e
theorem zR.look{h:Heap}{x dx C:Addr}{mA:Str→Option Value}(I:zR h x dx C mA):∃od,PySem.W.InstAt h x (PySem.W.instObj C dx) C (some od)∧∀name,PySem.W.lookIn name od=some (mA name):=
 let ⟨od,ho,hl⟩:=Ck I.ns
 ⟨od,⟨I.obj,rfl,rfl,ho⟩,hl⟩
section
variable{prog:Program}{w:World}{A:Around}{E:Value→Shared→Prop}{s:Shared}{K:PySem.W.Frag}{x dx C f:Addr}{mA:Str→Option Value}{name:Str}{v:Value}
theorem get_map{expr:Bool}{Q:Value→Shared→Prop}(X:K.In s.heap)(I:zR s.heap x dx C mA)(hg:PySem.W.plainGet K C name=true)(hh:PySem.W.hasDictIn K C=true)
  (ha:PySem.W.findIn K (.ref C) name=some none) (hv:mA name=some v) (NA:PySem.W.handedIn v=true) (h:Q v {s with toks:=s.toks+1}):
  wpAny (model prog w) A (getAttr (.ref x) name expr) Q E s:=by
 obtain⟨od,J,hl⟩:=I.look;exact PySem.W.get_value X J (PySem.W.plainGet_of hg).1 (PySem.W.findObj_own hh ha rfl (by rw[hl,hv])) NA h
theorem D0{pl:Sem Bool}{Q:Value×List Value→Shared→Prop}(X:K.In s.heap)(I:zR s.heap x dx C mA)(hg:PySem.W.plainGet K C name=true)
  (hf:PySem.W.findIn K (.ref C) name=some (some (.ref f))) (ht:PySem.W.isFn K (.ref f)=true) (hv:mA name=none) (h:Q (.ref f,[.ref x]) s):
  wpAny (model prog w) A (getMethod (.ref x) name pl) Q E s:=by
 obtain⟨od,J,hl⟩:=I.look;exact PySem.W.method_fn X J (PySem.W.plainGet_of hg).1 (PySem.W.plainGet_of hg).2 hf (beq_iff_eq.mp ht) (by show(PySem.W.lookIn name od).map (·.isSome)=some false;rw[hl,hv];rfl) h
theorem GH{ns:List Str}{Q:Unit→Shared→Prop}(X:K.In s.heap)(I:zR s.heap x dx C mA)
  (hs:PySem.W.findIn K (.ref C) "__setattr__"=some (some (.builtin "object.__setattr__"))) (hp:PySem.W.plainOver K C=true) (ht:PySem.W.takerIn K C name=some none) (hh:PySem.W.hasDictIn K C=true)
  (hw:PySem.Within mA ns) (hsz:ns.length≤sizeLine)
  (h:∀h',zR h' x dx C (fun y=>if y=name then some v else mA y)→Heap.SameBut dx s.heap h'→Q () {s with heap:=h',toks:=s.toks+2}):
  wpAny (model prog w) A (setAttr (.ref x) name v) Q E s:=by
 obtain⟨od,J,hl⟩:=I.look;refine PySem.W.set_plain X J hs (PySem.W.osa_open (s:={s with toks:=s.toks+1}) (r:=none) X J hp ht fun b=>?_);obtain⟨cd,hc,Mp⟩:=PySem.W.any_some hh;have hx:s.heap.get? x=some ⟨.ref C,some dx, .plain,#[]⟩:=I.obj;refine wpAny_bind (ZL (ZX (ZX (wpAny_loadPart hx (ZX (PySem.W.Looks.here (s:={s with toks:=s.toks+1}) (PySem.W.looks_clsIn X hc) ?_))))));rw[Mp];refine wpAny_pure (a:=some dx) (ZX (ZL (ZX ?_)));refine wpAny_nsSet1 (s:={s with toks:=s.toks+1}) I.ns fun h' ya Kh=>?_
 obtain⟨oD,aaX,Zl,WR,WS,WT⟩:=ya.count (PySem.Within.cons name v hw);refine wpAny_bind (wpAny_lookBehind WR (by rw[WS];exact pastItsLine_dict (Nat.le_trans WT (by rw[List.length_cons];omega))) ?_);exact ZL (h _ ⟨(Kh.2 _ (Ne.symm I.ne)).trans I.obj,ya,I.ne⟩ Kh)
theorem D1{R:Result→Shared→Prop}{vs:List Value}{kw:List (Str×Value)}(X:K.In s.heap)(hm:PySem.W.makesIn K C=true)
  (hi:PySem.W.findIn K (.ref C) "__init__"=some (some (.ref f))) (hf:PySem.W.typeIn K (.ref f)=some (.type "function"))
  (h:codeAny (model prog w) (A.under (.builtin "type.__call__" ⟨.ref C::vs,kw⟩)) (.call (.ref f) ⟨.ref (s.heap.objs.size+1)::vs,kw⟩) (PySem.W.InitBack (s.heap.objs.size+1) R)
   {s with heap:=(s.heap.push PySem.W.emptyDict).push (PySem.W.instObj C s.heap.objs.size)}):
  codeAny (model prog w) A (.call (.ref C) ⟨vs,kw⟩) R s:=by
 obtain⟨hh,g,d,t,os⟩:=s;exact PySem.W.make_core (PySem.W.makes_of X hm) (PySem.W.looks_findIn X hi) (fun self=>PySem.W.bind_fn X self hf) (.inl rfl) h
end
def bq(f:Str)(v:V):List (Str×V)→List (Str×V)
 |[]=>[(f,v)]
 |(g,x)::r=>if g=f then(g,v)::r else(g,x)::bq f v r
theorem rz(f g:Str)(v:V):∀fs:List (Str×V),(bq f v fs).lookup g=if g=f then some v else fs.lookup g
 |[]=>by
  show List.lookup g [(f,v)]=_;by_cases h:g=f
  ·have hb:(g==f)=true:=beq_iff_eq.mpr h;simp only[List.lookup,hb,U6 h]
  ·have hb:(g==f)=false:=beq_eq_false_iff_ne.mpr h;simp only[List.lookup,hb,Sn h]
 |(k,x)::r=>by
  have ih:=rz f g v r;rw[show bq f v ((k,x)::r)=(if k=f then(k,v)::r else(k,x)::bq f v r)from rfl];by_cases hk:k=f
  ·rw[U6 hk];by_cases h:g=k
   ·have hb:(g==k)=true:=beq_iff_eq.mpr h;simp only[List.lookup,hb,U6 (h.trans hk)]
   ·have hb:(g==k)=false:=beq_eq_false_iff_ne.mpr h;simp only[List.lookup,hb,Sn (fun e:g=f=>h (e.trans hk.symm))]
  ·rw[Sn hk];by_cases h:g=k
   ·have hb:(g==k)=true:=beq_iff_eq.mpr h;simp only[List.lookup,hb,Sn (fun e:g=f=>hk (h.symm.trans e))]
   ·have hb:(g==k)=false:=beq_eq_false_iff_ne.mpr h;simp only[List.lookup,hb];exact ih
theorem qh(f:Str)(v:V):∀fs:List (Str×V),f∈(bq f v fs).map (·.1)∧∀g,g∈fs.map (·.1)→g∈(bq f v fs).map (·.1)
 |[]=>⟨by simp[bq],fun g h=>by simp at h⟩
 |(k,x)::r=>by
  obtain⟨i1,i2⟩:=qh f v r;rw[show bq f v ((k,x)::r)=(if k=f then(k,v)::r else(k,x)::bq f v r)from rfl];by_cases hk:k=f
  ·rw[U6 hk];subst hk;exact⟨Wv,fun g h=>by simpa using h⟩
  ·rw[Sn hk];refine⟨?_,fun g h=>?_⟩
   ·rw[List.map_cons];exact Η i1
   ·rw[List.map_cons]at h⊢;rcases List.mem_cons.mp h with e|e
    ·exact List.mem_cons.mpr (.inl e)
    ·exact Η (i2 g e)
theorem aX(f:Str)(v:V):∀fs:List (Str×V),(bq f v fs).length≤fs.length+1
 |[]=>by simp[bq]
 |(k,x)::r=>by
  have ih:=aX f v r;rw[show bq f v ((k,x)::r)=(if k=f then(k,v)::r else(k,x)::bq f v r)from rfl];by_cases hk:k=f
  ·rw[U6 hk,List.length_cons,List.length_cons];omega
  ·rw[Sn hk,List.length_cons,List.length_cons];omega
theorem ky.some_of{v:V}{o:Option Value}(r:ky (some v) o):∃u,o=some u∧RelV v u:=by
 cases o with
 |none=>exact(show False from r).elim
 |some u=>exact⟨u,rfl,r⟩
theorem ky.none_of{o:Option Value}(r:ky none o):o=none:=by
 cases o with
 |none=>rfl
 |some u=>exact(show False from r).elim
theorem Cm{v:V}{u:Value}(r:RelV v u):PySem.W.handedIn u=true:=by
 cases v with
 |cK=>cases(show u=Value.none from r);rfl
 |bl b=>cases(show u=Value.bool b from r);rfl
 |int i=>obtain⟨t,e⟩:=(show ∃t,u=Value.int i t from r);cases e;rfl
 |str x=>obtain⟨t,e⟩:=(show ∃t,u=Value.str x t from r);cases e;rfl
 |Cc b=>obtain⟨t,e⟩:=(show ∃t,u=Value.bytes b t from r);cases e;rfl
 |IB b=>obtain⟨t,e⟩:=(show ∃t,u=Value.float b t from r);cases e;rfl
 |ref a=>cases(show u=Value.ref a from r);rfl
 |ty n=>cases(show u=Value.type n from r);rfl
section
variable{P:Program}{w:World}{H H':Hp}{h h':Heap}{a C dx:Addr}{fs WG:List (Str×V)}
theorem sq(bX:lD P w H h)(e:H a=some (.ins C dx fs)):∃mA,zR h a dx C mA∧(∀f,ky (fs.lookup f) (mA f))∧PySem.Within mA (fs.map (·.1))∧fs.length≤1000∧H dx=some (.own a):=by
 obtain⟨d,z,ne,ob,mA,n,r,q⟩:=(show cQ P w H h a (.ins C dx fs)from bX a _ e)
 exact⟨mA,⟨ob,n,ne⟩,r,q,z,d⟩
end
structure wm(K:PySem.W.Frag)(C:Addr):Prop where
 pg:PySem.W.plainGet K C Str.empty=true
 hd:PySem.W.hasDictIn K C=true
 po:PySem.W.plainOver K C=true
 sa:PySem.W.findIn K (.ref C) "__setattr__"=some (some (.builtin "object.__setattr__"))
theorem wm.get{K:PySem.W.Frag}{C:Addr}(c:wm K C)(f:Str):PySem.W.plainGet K C f=true:=c.pg
def bZ(K:PySem.W.Frag)(C:Addr)(f:Str):Prop:=PySem.W.findIn K (.ref C) f=some none
theorem bZ.NB{K:PySem.W.Frag}{C:Addr}{f:Str}(n:bZ K C f):PySem.W.takerIn K C f=some none:=by
 unfold PySem.W.takerIn;rw[show PySem.W.findIn K (.ref C) f=some none from n];rfl
structure D5(K:PySem.W.Frag)(C:Addr)(f:Str)(v:V)(u:Value):Prop where
 at_:PySem.W.findIn K (.ref C) f=some (some u)
 rel:RelV v u
 get:PySem.W.specialIn K u "__get__"=some none
 cp:PySem.W.copiedNames.contains f=false
structure Meth(K:PySem.W.Frag)(C:Addr)(m:Str)(f:Addr):Prop where
 at_:PySem.W.findIn K (.ref C) m=some (some (.ref f))
 fn:PySem.W.isFn K (.ref f)=true
 kp:PySem.W.keepIn K (.ref f)=true
section
variable{X:Cx}{pins:List (Addr×Obj)}{σ:St}{H:Hp}{s:Shared}{a C dx:Addr}{fs:List (Str×V)}{f:Str}{v:V}{A:Around}{E:Value→Shared→Prop}
theorem zS{b:Bool}{Q:Value→Shared→Prop}(I:Inv X pins σ H s)(e:H a=some (.ins C dx fs))(c:wm X.K C)(n:bZ X.K C f)(l:fs.lookup f=some v)
  (h:∀u s',Inv X pins σ H s'→RelV v u→Q u s'):wpAny (model X.prog X.w) A (getAttr (.ref a) f b) Q E s:=by
 obtain⟨mA,O,r,_,_,_⟩:=sq I.bX e;obtain⟨u,hu,ru⟩:=ky.some_of (v:=v) (o:=mA f) (by rw[←l];exact r f);exact get_map I.qd O (c.get f) c.hd n hu (Cm ru) (h u _ (I.tok _) ru)
theorem nC{m:Str}{g:Addr}{pl:Sem Bool}{Q:Value×List Value→Shared→Prop}(I:Inv X pins σ H s)(e:H a=some (.ins C dx fs))(c:wm X.K C)(k:Meth X.K C m g)(l:fs.lookup m=none)
  (h:Q (.ref g,[.ref a]) s):wpAny (model X.prog X.w) A (getMethod (.ref a) m pl) Q E s:=by
 obtain⟨mA,O,r,_,_,_⟩:=sq I.bX e;have hn:mA m=none:=ky.none_of (by rw[←l];exact r m);exact D0 I.qd O (c.get m) k.at_ k.fn hn h
theorem zT{y:V}{u:Value}{Q:Unit→Shared→Prop}(I:Inv X pins σ H s)(e:H a=some (.ins C dx fs))(c:wm X.K C)(n:bZ X.K C f)(hl:fs.length<1000)(ry:RelV y u)
  (h:∀s',Inv X pins σ (upd H a (.ins C dx (bq f y fs))) s'→Q () s'):wpAny (model X.prog X.w) A (setAttr (.ref a) f u) Q E s:=by
 obtain⟨mA,O,r,wi,_,ho⟩:=sq I.bX e;have hz:(fs.map (·.1)).length≤sizeLine:=by rw[List.length_map,sizeLine_eq];omega
 refine GH I.qd O c.sa c.po n.NB c.hd wi hz fun h' O' sb=>h _ ?_
 have hd:∃o,h'.get? dx=some o:=let ⟨o,_,_,e',_⟩:=O'.ns;⟨o,e'⟩
 refine I.write (x:=a) (e:=dx) (by rw[e];exact True.intro) (.inr ho) (fun b q hb z=>(sb.2 b hb).trans z) hd ?_;refine⟨by rw[ak O.ne];exact ho,?_,O.ne,O'.obj,_,O'.ns,fun g=>?_,fun g hg=>?_⟩
 ·have:=aX f y fs;omega
 ·show ky ((bq f y fs).lookup g) (if g=f then some u else mA g);rw[rz];by_cases q:g=f
  ·rw[U6 q,U6 q];exact ry
  ·rw[Sn q,Sn q];exact r g
 ·by_cases q:g=f
  ·rw[q];exact(qh f y fs).1
  ·refine(qh f y fs).2 g (wi g fun z=>hg ?_);show(if g=f then some u else mA g)=none;rw[Sn q];exact z
theorem Inv.made(I:Inv X pins σ H s):Inv X pins σ (upd (upd H s.heap.objs.size (.own (s.heap.objs.size+1))) (s.heap.objs.size+1) (.ins C s.heap.objs.size []))
  {s with heap:=(s.heap.push PySem.W.emptyDict).push (PySem.W.instObj C s.heap.objs.size)}:=by
 have e1:(s.heap.push PySem.W.emptyDict).get? s.heap.objs.size=some PySem.W.emptyDict:=Heap.get?_push_size s.heap rfl;have e2:((s.heap.push PySem.W.emptyDict).push (PySem.W.instObj C s.heap.objs.size)).get? (s.heap.objs.size+1)=some (PySem.W.instObj C s.heap.objs.size):=by
  have:=Heap.get?_push_size (s.heap.push PySem.W.emptyDict) (o:=PySem.W.instObj C s.heap.objs.size) rfl;rwa[Heap.size_push]at this
 have e3:(s.heap.push PySem.W.emptyDict).Ns s.heap.objs.size (fun _=>none):=⟨PySem.W.emptyDict,#[],_,e1,rfl,(fun e he=>absurd he V9),fun _=>rfl⟩
 have I1:=I.laid (a:=s.heap.objs.size) (o:= .own (s.heap.objs.size+1)) (h':=s.heap.push PySem.W.emptyDict) (t':=s.toks) (fun b u q=>Zp q) (Nat.le_refl _) ⟨_,e1⟩;refine I1.laid (a:=s.heap.objs.size+1) (o:= .ins C s.heap.objs.size []) (t':=s.toks) (fun b u q=>Zp q) (Nat.le_of_eq (Heap.size_push _ _)) ?_;have ne:s.heap.objs.size≠s.heap.objs.size+1:=Nat.ne_of_lt (Nat.lt_succ_self _);refine⟨by rw[ak ne,ae],Nat.zero_le _,ne,e2,fun _=>none,(Heap.Ns1.of_empty e3).at fun o q=>Zp q,fun _=>True.intro,fun y hy=>absurd rfl hy⟩
theorem GI{prog:Program}{w:World}{env:Env}{e:Expr}{f:Str}{pos:Pos}{s:Shared}{Q:Value→Shared→Prop}(hb:attributeBase e f env (eval e env)=eval e env)
  (h:wpAny (model prog w) A (eval e env) (fun o ck=>wpAny (model prog w) A (getAttr o f true) Q E ck) E s):wpAny (model prog w) A (eval (.Attribute e f pos) env) Q E s:=
 Attribute_any_ h (by rw[arm_eval_Attribute,hb])
end
inductive II(K:PySem.W.Frag)(f:Str)(x:V)(H1:Hp)(Q:VK):Prop
 |mk (a:Addr) (C:Addr) (dx:Addr) (fs:List (Str×V)) (v:V) (_:x= .ref a) (_:H1 a=some (.ins C dx fs)) (_:wm K C) (_:bZ K C f) (_:fs.lookup f=some v) (_:Q v H1):II K f x H1 Q
def NC(K:PySem.W.Frag)(ta:TE)(f:Str):TE:=fun σ H Q=>ta σ H fun x H1=>II K f x H1 Q
def ND(K:PySem.W.Frag)(ta tv:TE)(f:Str):TS:=fun D σ H=>tv σ H fun y H1=>ta σ H1 fun x H2=>∃a C dx fs,x= .ref a∧H2 a=some (.ins C dx fs)∧wm K C∧bZ K C f∧fs.length<1000∧
 D.nx σ (upd H2 a (.ins C dx (bq f y fs)))
section
variable{X:Cx}{o e value:Expr}{f:Str}{pos pos' RM:Pos}{ta tv:TE}
theorem Ki(he:PE X e ta)(hb:attributeBase e f X.env (eval e X.env)=eval e X.env):PE X (.Attribute e f pos) (NC X.K ta f):=by
 intro pins s σ H Q I h;refine GI hb (cH (he pins s σ H _ I h) fun u s1 ⟨x,H1,I1,rx,a,C,dx,fs,v,ex,ea,c,n,l,q⟩=>?_);subst ex;obtain rfl:u=Value.ref a:=rx;exact zS I1 ea c n l fun u' s2 I2 ru=>⟨v,H1,I2,ru,q⟩
theorem Kj(ha:PE X o ta)(hv:PE X value tv)(hs:swapsWith value (some (.Attribute o f pos')) pos.line X.env=pure false):PS X (.Assign [.Attribute o f pos'] value pos) (ND X.K ta tv f):=by
 intro pins s σ H D I h;refine plainObj_wpAny_Assign_Attribute (cH (hv pins s σ H _ I h) fun u s1 ⟨y,H1,I1,ry,q⟩=>cH (ha pins s1 σ H1 _ I1 q) fun ov s2 ⟨x,H2,I2,rx,a,C,dx,fs,ex,ea,c,n,l,q2⟩=>?_) hs;subst ex;obtain rfl:ov=Value.ref a:=rx;exact zT I2 ea c n l ry fun s3 I3=>⟨σ,_,I3,q2⟩
theorem IJ{pl:Sem Bool}{m:Str}{apos:Pos}{args:List Expr}{pins:List (Addr×Obj)}{s:Shared}{σ:St}{H:Hp}{Q:Value→Shared→Prop}{te:TE}(he:PE X e te)(I:Inv X pins σ H s)
  (h:te σ H fun x H1=>∃a C dx fs g,x= .ref a∧H1 a=some (.ins C dx fs)∧wm X.K C∧Meth X.K C m g∧fs.lookup m=none∧
   ∀s1,Inv X pins σ H1 s1→wpAny (model X.prog X.w) X.A (callWith pos (.ref g) [.ref a] (backTo pos (starEach args X.env)) (backToKw pos (keywordEach [] X.env))) Q X.xe s1)
  (ht:eval (.Call (.Attribute e m apos) args [] pos) X.env=(do
   let ov←eval e X.env
   standAt apos.atName
   let (f,first)←holding [ov] (getMethod ov m pl)
   callWith pos f first (backTo pos (starEach args X.env)) (backToKw pos (keywordEach [] X.env)))):
  wpAny (model X.prog X.w) X.A (eval (.Call (.Attribute e m apos) args [] pos) X.env) Q X.xe s:=by
 refine PySem.W.methodCall_KW (pl:=pl) (cH (he pins s σ H _ I h) fun u s1 ⟨x,H1,I1,rx,a,C,dx,fs,g,ex,ea,c,k,l,q⟩=>?_) ht;subst ex;obtain rfl:u=Value.ref a:=rx;exact nC I1 ea c k l (q s1 I1)
end
section
variable{X:Cx}{pins:List (Addr×Obj)}{σ:St}{H:Hp}{s:Shared}{A:Around}{E:Value→Shared→Prop}{Q:Value→Shared→Prop}{c:Value}{b:Bool}
inductive qi(K:PySem.W.Frag)(H:Hp):V→Value→Prop where
 |cK:qi K H .cK (.type "NoneType")
 |bl (x:Bool):qi K H (.bl x) (.type "bool")
 |int (i:Int):qi K H (.int i) (.type "int")
 |str (x:Str):qi K H (.str x) (.type "str")
 |IB (x:UInt64):qi K H (.IB x) (.type "float")
 |lst {a:Addr} {xs:List V} (e:H a=some (.lst xs)):qi K H (.ref a) (.type "list")
 |so {a:Addr} {o:Obj} {xs:List V} (e:H a=some (.so o (.lst xs))):qi K H (.ref a) (.type "list")
 |tup {a:Addr} {xs:List V} (e:H a=some (.tup xs)):qi K H (.ref a) (.type "tuple")
 |dK {a:Addr} {kvs:List (Key×V)} (e:H a=some (.dK kvs)):qi K H (.ref a) (.type "dict")
 |dT {a:Addr} {kvs:List (List Key×V)} (e:H a=some (.dT kvs)):qi K H (.ref a) (.type "dict")
 |ins {a C dx:Addr} {fs:List (Str×V)} (e:H a=some (.ins C dx fs)) (cl:wm K C) (ha:PySem.W.findIn K (.ref C) "__class__"=some (some (.builtin "object.__class__")))
   (hn:PySem.W.specialIn K (.builtin "object.__class__") "__get__"=some (some (.builtin "getset_descriptor.__get__"))) (UU:PySem.W.takesIn K (.builtin "object.__class__")=some true)
   (hm:PySem.W.mroIn K C (.type "object")=some true):qi K H (.ref a) (.ref C)
theorem Cn{x:V}{u t:Value}(I:Inv X pins σ H s)(rx:RelV x u)(ty:qi X.K H x t)(e:PySem.W.kitOne X.K t c=some b)(h:∀tk,Q (.bool b) {s with toks:=tk}):
  wpAny (model X.prog X.w) A (call (.builtin "isinstance") [u,c]) Q E s:=by
 cases ty with
 |cK=>cases(show u=Value.none from rx);exact PySem.W.kia_one PySem.W.kitx_none I.qd True.intro e (fun z=>nomatch z) h
 |bl y=>cases(show u=Value.bool y from rx);exact PySem.W.kia_one PySem.W.kitx_bool I.qd True.intro e (fun z=>nomatch z) h
 |int i=>obtain⟨t,q⟩:=(show ∃t,u=Value.int i t from rx);cases q;exact PySem.W.kia_one PySem.W.kitx_int I.qd True.intro e (fun z=>nomatch z) h
 |str y=>obtain⟨t,q⟩:=(show ∃t,u=Value.str y t from rx);cases q;exact PySem.W.kia_one PySem.W.kitx_str I.qd True.intro e (fun z=>nomatch z) h
 |IB y=>obtain⟨t,q⟩:=(show ∃t,u=Value.float y t from rx);cases q;exact PySem.W.kia_one PySem.W.kitx_float I.qd True.intro e (fun z=>nomatch z) h
 |@lst a xs ea=>
  cases(show u=Value.ref a from rx);obtain⟨_,_,n,_,h1⟩:=(show cQ X.prog X.w H s.heap a (.lst xs)from I.bX a _ ea)
  exact PySem.W.kia_one PySem.W.kitx_list I.qd ⟨_,h1,rfl⟩ e (fun z=>nomatch z) h
 |@so a ob xs ea=>
  cases(show u=Value.ref a from rx);obtain⟨_,_,_,n,_,h1⟩:=(show cQ X.prog X.w H s.heap a (.so ob (.lst xs))from I.bX a _ ea)
  exact PySem.W.kia_one PySem.W.kitx_list I.qd ⟨_,h1,rfl⟩ e (fun z=>nomatch z) h
 |@tup a xs ea=>
  cases(show u=Value.ref a from rx);obtain⟨_,_,_,p⟩:=(show cQ X.prog X.w H s.heap a (.tup xs)from I.bX a _ ea)
  obtain⟨o,h1,h2,_⟩:=p;exact PySem.W.kia_one PySem.W.kitx_tuple I.qd ⟨o,h1,h2⟩ e (fun z=>nomatch z) h
 |@dK a kvs ea=>
  cases(show u=Value.ref a from rx);obtain⟨_,_,vs,_,p⟩:=(show cQ X.prog X.w H s.heap a (.dK kvs)from I.bX a _ ea)
  obtain⟨o,es,ep,h1,h2,_⟩:=p;exact PySem.W.kia_one PySem.W.kitx_dict I.qd ⟨o,h1,h2.1⟩ e (fun z=>nomatch z) h
 |@dT a kvs ea=>
  cases(show u=Value.ref a from rx);obtain⟨_,_,xs,_,o,es,ep,h1,h2,_⟩:=(show cQ X.prog X.w H s.heap a (.dT kvs)from I.bX a _ ea)
  exact PySem.W.kia_one PySem.W.kitx_dict I.qd ⟨o,h1,h2.1⟩ e (fun z=>nomatch z) h
 |@ins a C dx fs ea cl ha hn UU hm=>
  cases(show u=Value.ref a from rx);obtain⟨mA,O,_⟩:=sq I.bX ea;obtain⟨od,J,_⟩:=O.look;exact PySem.W.kia_one (PySem.W.kitx_own (cl.get _) cl.hd ha hn UU hm) I.qd J e (fun z=>nomatch z) h
end
structure eV(cm:Bool)(k:Nat)(A:Around):Prop where
 hd:cm=true→A.handled=none
 dp:A.depth+3*k+5<recursionLimit
 un:A.units+16*k+200<cLine
theorem eV.mono{cm:Bool}{j k:Nat}{A:Around}(r:eV cm k A)(h:j≤k):eV cm j A:=⟨r.hd,by have:=r.dp;omega,by have:=r.un;omega⟩
theorem eV.deeper{cm:Bool}{k:Nat}{A:Around}(r:eV cm (k+1) A)(env:Env):eV cm k (A.deeper env):=
 ⟨r.hd,by have:=r.dp;show A.depth+1+3*k+5<_;omega,by have:=r.un;show A.units+3+16*k+200<_;omega⟩
theorem zU{A:Around}{C:Addr}{us:List Value}{kw:List (Str×Value)}:(A.under (.builtin "type.__call__" ⟨.ref C::us,kw⟩)).depth=A.depth+1:=by
 first|rfl|simp[Around.under,Code.weight,Code.isCreation,Code.isGuard,Code.isCaller,Code.frames,Code.isFrame,guardIds]
theorem zV{A:Around}{C:Addr}{us:List Value}{kw:List (Str×Value)}:(A.under (.builtin "type.__call__" ⟨.ref C::us,kw⟩)).units=A.units+1:=by
 first|rfl|simp[Around.under,Code.cUnits,Code.frames,Code.isFrame]
theorem eV.make{cm:Bool}{k:Nat}{A:Around}(r:eV cm (k+1) A)(C:Addr)(us:List Value)(kw:List (Str×Value)):eV cm k (A.under (.builtin "type.__call__" ⟨.ref C::us,kw⟩)):=
 ⟨r.hd,by have:=r.dp;rw[zU];omega,by have:=r.un;rw[zV];omega⟩
theorem eV.depth{cm:Bool}{k:Nat}{A:Around}(r:eV cm k A):A.depth<recursionLimit:=by have:=r.dp;omega
theorem eV.units{cm:Bool}{k:Nat}{A:Around}(r:eV cm k A):A.units+64<cLine:=by have:=r.un;omega
def D6:TA:=fun _ H Q=>Q [] H
def IK(ta:TE)(tr:TA):TA:=fun σ H Q=>ta σ H fun x H1=>tr σ H1 fun xs H2=>Q (x::xs) H2
section
variable{X:Cx}{e:Expr}{es:List Expr}{te:TE}{t:TA}{pos:Pos}
theorem af:PA X [] D6:=fun _ _ _ _ H Q I h=>Calls.spliced_nil ⟨[],H,I, .nil,h⟩
theorem GJ(ha:PE X e te)(hr:PA X es t)(hs:starEach (e::es) X.env=(false,eval e X.env)::starEach es X.env:=by rfl):PA X (e::es) (IK te t):=by
 intro pos pins s σ H Q I h;rw[hs];show wpAny _ _ (spliced ((false,eval e X.env)::backTo pos (starEach es X.env))) _ _ s;refine Calls.spliced_cons (cH (ha pins s σ H _ I h) fun u s1 ⟨x,H1,I1,r1,q1⟩=>?_);exact cH (hr pos pins s1 σ H1 _ I1 q1) fun us s2 ⟨xs,H2,I2,r2,q2⟩=>⟨x::xs,H2,I2, .cons r1 r2,q2⟩
def RN(t:TA):TE:=fun σ H Q=>t σ H fun xs H1=>xs.length≤sizeLine∧∀p,H1 p=none→Q (.ref p) (upd H1 p (.tup xs))
def RO(t:TA):TE:=fun σ H Q=>t σ H fun xs H1=>xs.length≤sizeLine∧∀p,H1 p=none→Q (.ref p) (upd H1 p (.lst xs))
theorem eF{x1}(h:PA X es t):PE X (.Tuple es x1 pos) (RN t):=by
 intro pins s σ H Q I hq;refine wpAny_Tuple_spliced (cH (h pos pins s σ H _ I hq) fun us s1 ⟨xs,H1,I1,r,z,q⟩=>⟨by rw[←r.length];exact z,?_⟩);have hf:H1 s1.heap.objs.size=none:=I1.bX.fresh Zn;refine⟨.ref s1.heap.objs.size,upd H1 s1.heap.objs.size (.tup xs),I1.laid (t':=s1.toks) (fun b u e=>Zp e) (Nat.le_refl _) ?_,rfl,q _ hf⟩;exact⟨z,us,r,⟨_,Heap.get?_push_size _ rfl,rfl,_,rfl⟩⟩
theorem bR(h:PA X es t):PE X (.List es pos) (RO t):=by
 intro pins s σ H Q I hq;refine wpAny_List_spliced (cH (h pos pins s σ H _ I hq) fun us s1 ⟨xs,H1,I1,r,z,q⟩=>⟨by rw[←r.length];exact z,?_⟩);have hf:H1 s1.heap.objs.size=none:=I1.bX.fresh Zn;refine⟨.ref s1.heap.objs.size,upd H1 s1.heap.objs.size (.lst xs),I1.laid (t':=s1.toks) (fun b u e=>Zp e) (Nat.le_refl _) ?_,rfl,q _ hf⟩;exact⟨z,us,0,r,Heap.get?_push_size _ rfl⟩
end
abbrev Sp:=List V→Hp→VK→XK→Prop
abbrev D7:=List Env→Hp→Shared→XK→Value→Shared→Prop
structure zW(P:Program)(w:World)(K:PySem.W.Frag)(mg:Str→Option Value)(base:Heap)(A:Around)(outer:List Env)(s:Shared)(H:Hp):Prop where
 frames:A.frames=some outer
 mod:Mod K mg base
 bs:∀b o,base.get? b=some o→s.heap.get? b=some o∧H b=none
 J1:base.objs.size≤s.heap.objs.size
 uG:s.heap.FunFrames base outer
 Ng:∀b∈ot outer,H b=none
 bX:lD P w H s.heap
 bare:AllBare s.gens
def CE(outer:List Env)(P:Program)(w:World)(H:Hp)(s:Shared)(Q:VK)(u:Value)(s':Shared):Prop:=
 ∃v H',s'.os=s.os∧AllBare s'.gens∧Un (ot outer) [] H H' s.heap s'.heap∧lD P w H' s'.heap∧RelV v u∧Q v H'
def CR(CX:D7)(outer:List Env)(P:Program)(w:World)(H:Hp)(s:Shared)(Q:VK)(E:XK)(r:Result)(s':Shared):Prop:=
 match r with
 | .ok (.ret u)=>CE outer P w H s Q u s'
 | .ok _=>False
 | .error e=>CX outer H s E e s'
structure a7(P:Program)(w:World)(K:PySem.W.Frag)(mg:Str→Option Value)(base:Heap)(CX:D7)(cm:Bool)(k:Nat)(f:Addr)(fd:FuncData)(ps:List Str)(sp:Sp):Prop where
 len:∀vs H Q E,sp vs H Q E→vs.length=ps.length
 run:∀(A:Around)(outer:List Env)(s:Shared)(H:Hp)(args:Args)(us:List Value)(vs:List V)(Q:VK)(E:XK),eV cm k A→zW P w K mg base A outer s H→BindsTo s fd args (ps.zip us)→Vals vs us→sp vs H Q E→
  codeAny (model P w) A (.call (.ref f) args) (CR CX outer P w H s Q E) s
theorem zW.make{P:Program}{w:World}{K:PySem.W.Frag}{mg:Str→Option Value}{base:Heap}{A:Around}{outer:List Env}{s:Shared}{H:Hp}(e:zW P w K mg base A outer s H)(C:Addr)(us:List Value)(kw:List (Str×Value)):
  zW P w K mg base (A.under (.builtin "type.__call__" ⟨.ref C::us,kw⟩)) outer s H:=⟨by first|exact e.frames|(simpa[Around.under,Code.envs,Code.isFrame,pushEnvs]using e.frames),e.mod,e.bs,e.J1,e.uG,e.Ng,e.bX,e.bare⟩
section
variable{X:Cx}{pins:List (Addr×Obj)}{σ:St}{H:Hp}{s s':Shared}
theorem Inv.Kk(I:Inv X pins σ H s):zW X.prog X.w X.K X.mg X.base X.A X.stack s H:=
 ⟨I.ok.frames,I.ok.mod,I.bs,Nat.le_trans I.ok.J1 I.sz,I.stack,I.wg,I.bX,I.bare⟩
theorem Inv.after{Q:VK}{u:Value}(I:Inv X pins σ H s)(h:CE X.stack X.prog X.w H s Q u s'):EP X pins σ Q u s':=by
 obtain⟨v,H',os,bare,un,bX,r,q⟩:=h;obtain⟨hh,g,d,t,WU⟩:=s';obtain rfl:WU=s.os:=os;exact⟨v,H',I.call (h':=hh) (g':=g) (d':=d) (t':=t) (ch:=[]) un bX bare (fun b z=>absurd z V9),r,q⟩
end
def IL(sp:Sp)(mq:List V)(E:St→XK)(t:TA):TE:=fun σ H Q=>t σ H fun vs H1=>sp (vs++mq) H1 Q (E σ)
def Bh(C:Addr)(m:Str)(sp:Sp)(mq:List V)(E:St→XK)(ta:TE)(t:TA):TE:=fun σ H Q=>ta σ H fun x H1=>∃a dx fs,x= .ref a∧H1 a=some (.ins C dx fs)∧fs.lookup m=none∧
 t σ H1 fun vs H2=>sp (x::(vs++mq)) H2 Q (E σ)
def Bi(C:Addr)(sp:Sp)(mq:List V)(E:St→XK)(t:TA):TE:=fun σ H Q=>t σ H fun vs H1=>∀x dx,H1 x=none→H1 dx=none→dx≠x→
 sp (.ref x::(vs++mq)) (upd (upd H1 dx (.own x)) x (.ins C dx [])) (fun v H2=>v= .cK∧Q (.ref x) H2) (E σ)
def Binds(K:PySem.W.Frag)(fd:FuncData)(ps:List Str)(ds:List Value):Prop:=
 ∀(s:Shared)(us:List Value),K.In s.heap→(us++ds).length=ps.length→BindsTo s fd ⟨us,[]⟩ (ps.zip (us++ds))
theorem Binds.all{K:PySem.W.Frag}{fd:FuncData}{ps:List Str}(h:∀us:List Value,us.length=ps.length→bindArgs fd ⟨us,[]⟩=pure (ps.zip us)):Binds K fd ps []:=fun s us _ hl=>by
 rw[List.append_nil]at hl⊢;exact .of_eq (h us hl)
def Passes(CX:D7)(X:Cx)(E:St→XK):Prop:=∀(pins:List (Addr×Obj))(σ:St)(H:Hp)(s:Shared)(e:Value)(s':Shared),Inv X pins σ H s→CX X.stack H s (E σ) e s'→X.xe e s'
section
variable{X:Cx}{CX:D7}{cm:Bool}{k:Nat}{f C:Addr}{fd:FuncData}{ps:List Str}{sp:Sp}{mq:List V}{ds:List Value}{E:St→XK}{x m:Str}{p pos apos:Pos}{e o:Expr}{es:List Expr}{ta:TE}{t:TA}
theorem zX{pins:List (Addr×Obj)}{σ:St}{H:Hp}{s:Shared}{Q:VK}{us:List Value}{vs:List V}(F:a7 X.prog X.w X.K X.mg X.base CX cm k f fd ps sp)(hr:eV cm k X.A)(hb:Binds X.K fd ps ds)(hd:Vals mq ds)(hx:Passes CX X E)
  (I:Inv X pins σ H s) (r:Vals vs us) (h:sp (vs++mq) H Q (E σ)):wpAny (model X.prog X.w) X.A (call (.ref f) us) (EP X pins σ Q) X.xe s:=by
 have r2:Vals (vs++mq) (us++ds):=r.append hd;have hl:(us++ds).length=ps.length:=by rw[←r2.length];exact F.len _ _ _ _ h
 refine wpAny_call (codeAny_mono (F.run X.A X.stack s H ⟨us,[]⟩ (us++ds) (vs++mq) Q (E σ) hr I.Kk (hb s us I.qd hl) r2 h) fun r s' hq=>?_);cases r with
 |error e=>exact hx pins σ H s e s' I hq
 |ok fl=>
  cases fl with
  |ret u=>exact I.after hq
  |next=>exact False.elim hq
  |brk=>exact False.elim hq
  |cont=>exact False.elim hq
theorem GK(F:a7 X.prog X.w X.K X.mg X.base CX cm k f fd ps sp)(hr:eV cm k X.A)(hg:Gl X x)(hm:X.mg x=some (.ref f))(hk:PySem.W.keepIn X.K (.ref f)=true)(hb:Binds X.K fd ps ds)(hd:Vals mq ds)(hx:Passes CX X E)
  (ha:PA X (e::es) t) (wt:(x==("__debug__":Str))=false:=by decide) (he:starEach (e::es) X.env=(false,eval e X.env)::starEach es X.env:=by rfl) (rA:(backTo pos (starEach es X.env)).any (·.1)=false:=by rfl):
  PE X (.Call (.Name x p) (e::es) [] pos) (IL sp mq E t):=by
 intro pins s σ H Q I h;refine wpAny_Call_Name_kw (oz I hg hm ?_ wt);refine PySem.W.callWith_K (h₀:=X.base) I.ok.mod.Mo hk (cH (ha pos pins s σ H _ I h) fun us s1 ⟨vs,H1,I1,r,q⟩=>⟨I1.qd,?_⟩) he rA;exact zX F hr hb hd hx I1 r q
theorem GL{pl:Sem Bool}(he:PE X o ta)(c:wm X.K C)(hm:Meth X.K C m f)(F:a7 X.prog X.w X.K X.mg X.base CX cm k f fd ps sp)(hr:eV cm k X.A)(hb:Binds X.K fd ps ds)(hd:Vals mq ds)(hx:Passes CX X E)(ha:PA X (e::es) t)
  (vx:starEach (e::es) X.env=(false,eval e X.env)::starEach es X.env:=by rfl) (rA:(backTo pos (starEach es X.env)).any (·.1)=false:=by rfl)
  (ht:eval (.Call (.Attribute o m apos) (e::es) [] pos) X.env=(do
   let ov←eval o X.env
   standAt apos.atName
   let (f,first)←holding [ov] (getMethod ov m pl)
   callWith pos f first (backTo pos (starEach (e::es) X.env)) (backToKw pos (keywordEach [] X.env))):=by rfl):
  PE X (.Call (.Attribute o m apos) (e::es) [] pos) (Bh C m sp mq E ta t):=by
 intro pins s σ H Q I h;refine PySem.W.methodCall_KW (pl:=pl) (cH (he pins s σ H _ I h) fun u s1 ⟨x,H1,I1,rx,a,dx,fs,ex,ea,l,q⟩=>?_) ht;subst ex;obtain rfl:u=Value.ref a:=rx;refine nC I1 ea c hm l ?_;refine PySem.W.callWith_K (first:=[.ref a]) (h₀:=X.base) I.ok.mod.Mo hm.kp (cH (ha pos pins s1 σ H1 _ I1 q) fun us s2 ⟨vs,H2,I2,r,q2⟩=>⟨I2.qd,?_⟩) vx rA;exact zX (us:= .ref a::us) (vs:= .ref a::vs) F hr hb hd hx I2 (.cons rfl r) q2
theorem D8{pl:Sem Bool}(he:PE X o ta)(c:wm X.K C)(hm:Meth X.K C m f)(F:a7 X.prog X.w X.K X.mg X.base CX cm k f fd ps sp)(hr:eV cm k X.A)(hb:Binds X.K fd ps ds)(hd:Vals mq ds)(hx:Passes CX X E)
  (ht:eval (.Call (.Attribute o m apos) [] [] pos) X.env=(do
   let ov←eval o X.env
   standAt apos.atName
   let (f,first)←holding [ov] (getMethod ov m pl)
   callWith pos f first (backTo pos (starEach [] X.env)) (backToKw pos (keywordEach [] X.env))):=by rfl):
  PE X (.Call (.Attribute o m apos) [] [] pos) (Bh C m sp mq E ta D6):=by
 intro pins s σ H Q I h;refine PySem.W.methodCall_KW (pl:=pl) (cH (he pins s σ H _ I h) fun u s1 ⟨x,H1,I1,rx,a,dx,fs,ex,ea,l,q⟩=>?_) ht;subst ex;obtain rfl:u=Value.ref a:=rx;refine nC I1 ea c hm l ?_;exact PySem.W.callWith_K0 (first:=[.ref a]) I1.qd hm.kp (zX (us:=[.ref a]) (vs:=[.ref a]) F hr hb hd hx I1 (.cons rfl .nil) q)
structure Mk(K:PySem.W.Frag)(C f:Addr):Prop where
 makes:PySem.W.makesIn K C=true
 init:PySem.W.findIn K (.ref C) "__init__"=some (some (.ref f))
 fn:PySem.W.isFn K (.ref f)=true
 kp:PySem.W.keepIn K (.ref C)=true
theorem yq{pins:List (Addr×Obj)}{σ:St}{H:Hp}{s:Shared}{Q:VK}{us:List Value}{vs:List V}(M:Mk X.K C f)(F:a7 X.prog X.w X.K X.mg X.base CX cm k f fd ps sp)(hr:eV cm (k+1) X.A)(hb:Binds X.K fd ps ds)(hd:Vals mq ds)
  (hx:Passes CX X E) (I:Inv X pins σ H s) (r:Vals vs us)
  (h:∀x dx,H x=none→H dx=none→dx≠x→sp (.ref x::(vs++mq)) (upd (upd H dx (.own x)) x (.ins C dx [])) (fun v H2=>v= .cK∧Q (.ref x) H2) (E σ)):
  wpAny (model X.prog X.w) X.A (call (.ref C) us) (EP X pins σ Q) X.xe s:=by
 have hq:=h (s.heap.objs.size+1) s.heap.objs.size (I.bX.fresh (Nat.le_succ _)) (I.bX.fresh Zn) (Nat.ne_of_lt (Nat.lt_succ_self _));have I2:=Inv.made (C:=C) I;have r2:Vals (V.ref (s.heap.objs.size+1)::(vs++mq)) (Value.ref (s.heap.objs.size+1)::(us++ds)):= .cons rfl (r.append hd);have hl:(Value.ref (s.heap.objs.size+1)::us++ds).length=ps.length:=by
  have e:=r2.length;rw[F.len _ _ _ _ hq]at e;exact e.symm
 refine wpAny_call (D1 (f:=f) I.qd M.makes M.init (beq_iff_eq.mp M.fn) (codeAny_mono (F.run _ X.stack _ _ ⟨Value.ref (s.heap.objs.size+1)::us,[]⟩ (Value.ref (s.heap.objs.size+1)::(us++ds)) _ _ (E σ) (hr.make C us [])
  (I2.Kk.make C us []) (hb _ (Value.ref (s.heap.objs.size+1)::us) I2.qd hl) r2 hq) fun r s' NG=>?_))
 cases r with
 |error e=>exact hx pins σ _ _ e s' I2 NG
 |ok fl=>
  cases fl with
  |ret u=>
   obtain⟨v,H',I3,rv,ev,q3⟩:=I2.after NG;subst ev;exact⟨rv,⟨V.ref (s.heap.objs.size+1),H',I3,rfl,q3⟩⟩
  |next=>exact False.elim NG
  |brk=>exact False.elim NG
  |cont=>exact False.elim NG
theorem GN(M:Mk X.K C f)(F:a7 X.prog X.w X.K X.mg X.base CX cm k f fd ps sp)(hr:eV cm (k+1) X.A)(hg:Gl X x)(hm:X.mg x=some (.ref C))(hb:Binds X.K fd ps ds)(hd:Vals mq ds)(hx:Passes CX X E)
  (ha:PA X (e::es) t) (wt:(x==("__debug__":Str))=false:=by decide) (he:starEach (e::es) X.env=(false,eval e X.env)::starEach es X.env:=by rfl) (rA:(backTo pos (starEach es X.env)).any (·.1)=false:=by rfl):
  PE X (.Call (.Name x p) (e::es) [] pos) (Bi C sp mq E t):=by
 intro pins s σ H Q I h;refine wpAny_Call_Name_kw (oz I hg hm ?_ wt);refine PySem.W.callWith_K (h₀:=X.base) I.ok.mod.Mo M.kp (cH (ha pos pins s σ H _ I h) fun us s1 ⟨vs,H1,I1,r,q⟩=>⟨I1.qd,?_⟩) he rA;exact yq M F hr hb hd hx I1 r q
theorem D9(M:Mk X.K C f)(F:a7 X.prog X.w X.K X.mg X.base CX cm k f fd ps sp)(hr:eV cm (k+1) X.A)(hg:Gl X x)(hm:X.mg x=some (.ref C))(hb:Binds X.K fd ps ds)(hd:Vals mq ds)(hx:Passes CX X E)
  (wt:(x==("__debug__":Str))=false:=by decide):PE X (.Call (.Name x p) [] [] pos) (Bi C sp mq E D6):=by
 intro pins s σ H Q I h;refine wpAny_Call_Name_kw (oz I hg hm ?_ wt);exact PySem.W.callWith_K0 I.qd M.kp (yq (us:=[]) M F hr hb hd hx I .nil h)
end
section
variable{X:Cx}{CX:D7}{cm:Bool}{k:Nat}{f C:Addr}{fd:FuncData}{ps ks:List Str}{sp:Sp}{E:St→XK}{x m:Str}{p pos apos WV:Pos}{e o:Expr}{es:List Expr}{aal:List Keyword}{te ta:TE}{t tk:TA}{nm:Option Str}
variable{g:List Value→List Value→List Value}{gV:List V→List V→List V}
end
structure aM(N P:List Str)(sc:Scope):Prop where
 kind:sc.kind= .function
 co:sc.isCoroutine=false
 gen:sc.isGenerator=false
 nd:N.Nodup
 pre:N.take P.length=P
 par:∀x∈P,sc.names.lookup x=some .local∨sc.names.lookup x=some .cell
 Kl:∀y∈sc.names,y.2≠ .free
theorem vz{kindOf:Str→Option NameKind}{x:Str}:∀{binds:List (Str×Value)}{m:Str→Option Value},(∀v,(x,v)∉binds)→bindL kindOf binds m x=m x
 |[],_,_=>rfl
 |(n,v)::r,m,h=>by
  unfold bindL;rw[vz fun w hw=>h w (Η hw)];split
  ·have:x≠n:=by rintro rfl;exact h v List.mem_cons_self
   simp[this]
  ·rfl
theorem vA{kindOf:Str→Option NameKind}{x:Str}:∀{binds:List (Str×Value)}{m:Str→Option Value},(∀v,(x,v)∉binds)→bindC kindOf binds m x=m x
 |[],_,_=>rfl
 |(n,v)::r,m,h=>by
  unfold bindC;rw[vA fun w hw=>h w (Η hw)];split
  ·rfl
  ·have:x≠n:=by rintro rfl;exact h v List.mem_cons_self
   simp[this]
theorem vB{kindOf:Str→Option NameKind}{x:Str}{v:Value}:∀{P:List Str}{vs:List Value}{i:Nat}{m:Str→Option Value},P.Nodup→P[i]?=some x→vs[i]?=some v→kindOf x=some .local→
  bindL kindOf (P.zip vs) m x=some v
 |[],_,_,_,_,h,_,_=>by simp at h
 | _::_,[],_,_,_,_,h,_=>by simp at h
 |p::P,w::vs,0,m,nd,h1,h2,hk=>by
  simp at h1 h2;subst h1;subst h2;show bindL kindOf ((p,w)::P.zip vs) m p=_;unfold bindL;rw[vz fun v hv=>(List.nodup_cons.mp nd).1 (List.of_mem_zip hv).1,U6 hk];simp
 |p::P,w::vs,i+1,m,nd,h1,h2,hk=>by
  show bindL kindOf ((p,w)::P.zip vs) m x=_;unfold bindL;exact vB (i:=i) (List.nodup_cons.mp nd).2 (by simpa using h1) (by simpa using h2) hk
theorem vC{kindOf:Str→Option NameKind}{x:Str}{v:Value}:∀{P:List Str}{vs:List Value}{i:Nat}{m:Str→Option Value},P.Nodup→P[i]?=some x→vs[i]?=some v→kindOf x≠some .local→
  bindC kindOf (P.zip vs) m x=some v
 |[],_,_,_,_,h,_,_=>by simp at h
 | _::_,[],_,_,_,_,h,_=>by simp at h
 |p::P,w::vs,0,m,nd,h1,h2,hk=>by
  simp at h1 h2;subst h1;subst h2;show bindC kindOf ((p,w)::P.zip vs) m p=_;unfold bindC;rw[vA fun v hv=>(List.nodup_cons.mp nd).1 (List.of_mem_zip hv).1,Sn hk];simp
 |p::P,w::vs,i+1,m,nd,h1,h2,hk=>by
  show bindC kindOf ((p,w)::P.zip vs) m x=_;unfold bindC;exact vC (i:=i) (List.nodup_cons.mp nd).2 (by simpa using h1) (by simpa using h2) hk
def start(N:List Str)(vs:List V):St:=vs.map some++List.replicate (N.length-vs.length) none
def zY(CX:D7)(cm:Bool)(P:Program)(w:World)(K:PySem.W.Frag)(mg:Str→Option Value)(base:Heap)(N:List Str)(qual:Str)(scope:Scope)(f:Addr)(cd:Value)(A:Around)(outer:List Env)(s:Shared)(H:Hp)(E:XK):Cx where
 prog:=P
 w:=w
 K:=K
 mg:=mg
 base:=base
 A:=A.deeper (envOfC qual scope s.heap.objs.size f cd)
 N:=N
 dD:=s
 eY:=H
 env:=envOfC qual scope s.heap.objs.size f cd
 outer:=outer
 stack:=envOfC qual scope s.heap.objs.size f cd::outer
 ex:=[]
 calm:=cm
 fn:=fun _=>true
 pn:=[]
 xe:=fun e s'=>wpAny (model P w) (A.deeper (envOfC qual scope s.heap.objs.size f cd)) (leaving (envOfC qual scope s.heap.objs.size f cd) e) (fun _ wu=>CX outer H s E e wu) (fun e' wu=>CX outer H s E e' wu) s'
theorem yr{sc:Scope}{n:Nat}{x:Str}(h:sc.names.lookup x=some .cell):∃c,(cellsFrom n sc.names []).lookup x=some c:=by
 have q:=PySem.W.cellsFrom_some sc.names n [] (.inl h);exact Option.isSome_iff_exists.mp q
theorem Co{CX:D7}{cm:Bool}{P:Program}{w:World}{K:PySem.W.Frag}{mg:Str→Option Value}{base:Heap}{N ps:List Str}{qual:Str}{scope:Scope}{f:Addr}{cd:Value}{A:Around}{outer:List Env}{s s1:Shared}{H:Hp}{E:XK}{us:List Value}{vs:List V}
  (S:aM N ps scope) (hd:cm=true→A.handled=none) (e0:zW P w K mg base A outer s H) (hl:vs.length=ps.length) (r:Vals vs us)
  (x:InCallC s s.heap.objs.size (bindL (envOfC qual scope s.heap.objs.size f cd).kindOf (ps.zip us) fun _=>none) (cellsFrom (s.heap.objs.size+1) scope.names []) (bindC (envOfC qual scope s.heap.objs.size f cd).kindOf (ps.zip us) fun _=>none) s1):
  Inv (zY CX cm P w K mg base N qual scope f cd A outer s H E) [] (start N vs) H s1:=by
 have rA:ps.length≤N.length:=by have:=congrArg List.length S.pre;rw[List.length_take]at this;omega
 obtain⟨h1,tk,rfl,hk⟩:=x.done;have NH:∀b:Addr,b∉(zY CX cm P w K mg base N qual scope f cd A outer s H E).ex:=fun b z=>absurd (show b∈([]:List Addr)from z) (Wv)
 refine⟨⟨e0.mod,S.kind,rfl,rfl,Nat.le_refl _,fun y z c h1 h2=>?_,fun y hy=>?_,fun y c _ h=>?_,fun z=>hd z,Around.frames_deeper e0.frames, .inr ⟨rfl,rfl⟩,fun b z=>ZE z (NH b),e0.bs,e0.J1,fun b _ _=>NH b,fun b z=>ZE z (NH b),e0.uG,e0.Ng⟩,
  rfl,e0.bare,Un.kept hk,⟨_,x.toInCall.ns,fun i y v h1 h2 h3=>?_⟩,fun y c h=>⟨_,x.cell y c h⟩,e0.bX.fresh Zn,fun y c h=>?_,fun p hp=>absurd (show p∈([]:List (Addr×Obj))from hp) (Wv),e0.bX.kept hk,?_⟩
 ·exact name_of_addr x.apart (PySem.mem_of_lookup h1) (PySem.mem_of_lookup h2)
 ·have hy:scope.names.lookup y=some .cell∨scope.names.lookup y=some .free:=hy;rcases hy with hy|hy
  ·exact yr hy
  ·exact absurd rfl (S.Kl _ (PySem.mem_of_lookup hy))
 ·exact Nat.le_of_lt (x.above y c (PySem.mem_of_lookup h))
 ·have hi:i<vs.length:=by
   unfold start at h2;by_cases hi:i<vs.length
   ·exact hi
   ·rw[Δ (by simpa using hi)]at h2;rw[List.getElem?_replicate]at h2;split at h2<;>cases h2
  have ha:vs[i]?=some v:=by
   unfold start at h2;rw[Zy (by simpa using hi),List.getElem?_map]at h2;cases e:vs[i]? with
   |none=>rw[e]at h2;cases h2
   |some a=>rw[e]at h2;cases h2;rfl
  obtain⟨u,hu,rv⟩:=r.get ha;have hp:ps[i]?=some y:=by
   rw[←S.pre,List.getElem?_take_of_lt (Zq)];exact h1
  have UW:ps.Nodup:=by rw[←S.pre];exact S.nd.sublist (List.take_sublist _ _)
  refine⟨u,rv,?_⟩;rcases S.par y (ZO hp)with k|k
  ·exact .inl ⟨k,vB UW hp hu k⟩
  ·obtain⟨c,e⟩:=yr (n:=s.heap.objs.size+1) k;refine .inr ⟨.inl k,c,e,?_⟩;have q:=x.cell y c e;rw[vC UW hp hu (by show scope.names.lookup y≠_;rw[k];decide)]at q;exact q
 ·exact e0.bX.fresh (Nat.le_of_lt (x.above y c (PySem.mem_of_lookup h)))
 ·unfold start;show _=N.length;rw[List.length_append,List.length_map,List.length_replicate];omega
theorem IM{CX:D7}{cm:Bool}{P:Program}{w:World}{K:PySem.W.Frag}{mg:Str→Option Value}{base:Heap}{k:Nat}{f:Addr}{name qual:Str}{params:Arguments}{body:List Stmt}{scope:Scope}{dV kV doc pm bS ct oc:Value}{an od:Option Addr}
  {Bj:Array (Option Value)} {N ps:List Str} {sp:Sp} (lk:K.lookup f=some ⟨oc,od, .func (PySem.W.fnOf name qual params body scope dV kV doc pm an bS ct),Bj⟩) (Cf:PySem.W.codeIn K bS qual=true) (S:aM N ps scope)
  (len:∀vs H Q E,sp vs H Q E→vs.length=ps.length)
  (yt:∀(A:Around)(outer:List Env)(s:Shared)(H:Hp)(vs:List V)(Q:VK)(E:XK),eV cm k (A.deeper (envOfC qual scope s.heap.objs.size f bS))→sp vs H Q E→
   ∃t,Ce (zY CX cm P w K mg base N qual scope f bS A outer s H E) body t∧t {nx:=fun _ H'=>Q .cK H',rt:=Q} (start N vs) H):
  a7 P w K mg base CX cm (k+1) f (PySem.W.fnOf name qual params body scope dV kV doc pm an bS ct) ps sp:=by
 refine⟨len,fun A outer s H args us vs Q E hr e0 hb r Gh=>?_⟩;have hl:=len _ _ _ _ Gh;have KX:K.In s.heap:=e0.mod.Mo.keeps fun b o e=>(e0.bs b o e).1
 have lim:s.heap.NoLimit:=e0.mod.nolimit.keeps fun b o e=>(e0.bs b o e).1
 have NI:∀y∈ps.zip us,scope.names.lookup y.1=some .local∨(scope.names.lookup y.1=some .cell∧((cellsFrom (s.heap.objs.size+1) scope.names []).lookup y.1).isSome=true):=fun⟨n,v⟩ hy=>by
  rcases S.par n (List.of_mem_zip hy).1 with q|q
  ·exact .inl q
  ·exact .inr ⟨q,PySem.W.cellsFrom_some _ _ _ (.inl q)⟩
 refine codeAny_call_function hr.depth (KX _ _ lk) rfl S.co S.gen rfl (PySem.W.codeRec_of KX Cf) (hb _ _ _ _ ?_);refine wpAny_newFunctionEnv_cells S.kind NI fun env he s1 x=>?_
 subst he;refine⟨lim.keeps x.toInCall.keep,codeAny_func ?_⟩;obtain⟨t,ht,hq⟩:=yt A outer s H vs Q E (hr.deeper _) Gh;have I:Inv (zY CX cm P w K mg base N qual scope f bS A outer s H E) [] (start N vs) H s1:=Co S hr.hd e0 hl r x;refine wpAny_mono (ht [] s1 (start N vs) H _ I hq) (fun fl s' hs=>?_) fun e s' hs=>hs
 have fin:∀{bj:St}{H':Hp}{v:V}{u:Value},Inv (zY CX cm P w K mg base N qual scope f bS A outer s H E) [] bj H' s'→RelV v u→Q v H'→CE outer P w H s Q u s':=
  fun{bj H' v u} J rv q=>⟨v,H',J.os,J.bare,J.base,J.bX,rv,q⟩
 cases fl with
 |ret u=>
  obtain⟨v,bj,H',J,rv,q⟩:=hs;exact fin J rv q
 |next=>
  obtain⟨bj,H',J,q⟩:=hs;exact fin (v:=V.cK) (u:=Value.none) J rfl q
 |brk=>
  obtain⟨_,_,_,q⟩:=hs;exact False.elim q
 |cont=>
  obtain⟨_,_,_,q⟩:=hs;exact False.elim q
section
variable{X:Cx}{x:Str}{p pos:Pos}{e:Expr}{es:List Expr}{t:TA}{id T:String}{r:List V→Hp→VK→Prop}
def UX(r:List V→Hp→VK→Prop)(t:TA):TE:=fun σ H Q=>t σ H fun vs H1=>r vs H1 Q
theorem aP(hc:i6 X (.builtin id) r)(hg:Gl X x)(hm:X.mg x=none)(hv:bootBuiltins x=some (.builtin id))(ha:PA X (e::es) t)(hn:x≠"__name__":=by decide)(wt:(x==("__debug__":Str))=false:=by decide)
  (he:starEach (e::es) X.env=(false,eval e X.env)::starEach es X.env:=by rfl) (rA:(backTo pos (starEach es X.env)).any (·.1)=false:=by rfl):PE X (.Call (.Name x p) (e::es) [] pos) (UX r t):=by
 intro pins s σ H Q I h;refine wpAny_Call_Name_kw (lE I hg hm hv ?_ hn wt);exact PyProof.Rows.callWith_builtin1 (cH (ha pos pins s σ H _ I h) fun us s1 ⟨vs,H1,I1,r1,q1⟩=>hc pins s1 σ H1 vs us Q I1 r1 q1) he rA
theorem fZ(hc:i6 X (.type T) r)(hg:Gl X x)(hm:X.mg x=none)(hv:bootBuiltins x=some (.type T))(ha:PA X (e::es) t)(hn:x≠"__name__":=by decide)(wt:(x==("__debug__":Str))=false:=by decide)
  (he:starEach (e::es) X.env=(false,eval e X.env)::starEach es X.env:=by rfl) (rA:(backTo pos (starEach es X.env)).any (·.1)=false:=by rfl):PE X (.Call (.Name x p) (e::es) [] pos) (UX r t):=by
 intro pins s σ H Q I h;refine wpAny_Call_Name_kw (lE I hg hm hv ?_ hn wt);exact PyProof.Rows.callWith_type1 (cH (ha pos pins s σ H _ I h) fun us s1 ⟨vs,H1,I1,r1,q1⟩=>hc pins s1 σ H1 vs us Q I1 r1 q1) he rA
end
section
variable{κ:Type}[DecidableEq κ]
def bx(kvs:List (κ×V))(k:κ):Option V:=(kvs.find? fun kv=>decide (kv.1=k)).map (·.2)
def putK(kvs:List (κ×V))(k:κ)(v:V):List (κ×V):=
 if (kvs.any fun kv=>decide (kv.1=k))=true then kvs.map (fun kv=>if kv.1=k then(kv.1,v)else kv)else kvs++[(k,v)]
def i7(kvs:List (κ×V))(k:κ):List (κ×V):=kvs.filter fun kv=>decide (kv.1≠k)
theorem sO{k:κ}:bx ([]:List (κ×V)) k=none:=rfl
theorem cG{p:κ×V}{r:List (κ×V)}{k:κ}(e:p.1=k):bx (p::r) k=some p.2:=by simp[bx,List.find?_cons,e]
theorem cz{p:κ×V}{r:List (κ×V)}{k:κ}(e:¬p.1=k):bx (p::r) k=bx r k:=by simp[bx,List.find?_cons,e]
theorem ij(k:κ):∀kvs:List (κ×V),(kvs.any fun kv=>decide (kv.1=k))=(bx kvs k).isSome
 |[]=>rfl
 |p::r=>by
  rw[List.any_cons];by_cases e:p.1=k
  ·simp only[cG e,decide_eq_true e,Bool.true_or,Option.isSome_some]
  ·rw[cz e,decide_eq_false e,Bool.false_or];exact ij k r
theorem yu(k j:κ)(y:V):∀kvs:List (κ×V),bx (kvs.map fun kv=>if kv.1=k then(kv.1,y)else kv) j=(bx kvs j).map fun x=>if j=k then y else x
 |[]=>rfl
 |p::r=>by
  have ih:=yu k j y r;rw[List.map_cons];by_cases h:p.1=k
  ·rw[U6 h];by_cases e:p.1=j
   ·rw[cG (p:=(p.1,y)) e,cG e,Option.map_some,U6 (e.symm.trans h)]
   ·rw[cz (p:=(p.1,y)) e,cz e,ih]
  ·rw[Sn h];by_cases e:p.1=j
   ·rw[cG (p:=p) e,cG e,Option.map_some,Sn (fun z=>h (e.trans z))]
   ·rw[cz (p:=p) e,cz e,ih]
theorem vD(k j:κ)(y:V):∀kvs:List (κ×V),bx kvs k=none→bx (kvs++[(k,y)]) j=if j=k then some y else bx kvs j
 |[],_=>by
  by_cases e:k=j
  ·rw[U6 e.symm];exact cG (p:=(k,y)) e
  ·rw[Sn (fun z=>e z.symm)];exact cz (p:=(k,y)) e
 |p::r,hn=>by
  rw[List.cons_append];have hk:¬p.1=k:=fun z=>by rw[cG z]at hn;cases hn
  rw[cz hk]at hn;have ih:=vD k j y r hn;by_cases e:p.1=j
  ·rw[cG e,cG e,Sn (fun z=>hk (e.trans z))]
  ·rw[cz e,cz e,ih]
theorem i8(kvs:List (κ×V))(k j:κ)(y:V):bx (putK kvs k y) j=if j=k then some y else bx kvs j:=by
 unfold putK;by_cases a:(kvs.any fun kv=>decide (kv.1=k))=true
 ·rw[U6 a,yu];rw[ij]at a;by_cases e:j=k
  ·obtain⟨x,hx⟩:=Option.isSome_iff_exists.mp a;rw[U6 e,e,hx,Option.map_some,if_pos rfl]
  ·rw[Sn e];cases bx kvs j with
   |none=>rfl
   |some x=>rw[Option.map_some,Sn e]
 ·rw[Sn a];refine vD k j y kvs ?_;rw[ij]at a;cases q:bx kvs k with
  |none=>rfl
  |some x=>rw[q]at a;exact(a rfl).elim
theorem eZ(kvs:List (κ×V))(k:κ)(v:V):(putK kvs k v).length≤kvs.length+1:=by
 unfold putK;split
 ·rw[List.length_map];omega
 ·rw[List.length_append,List.length_cons,List.length_nil];omega
theorem sP{kvs:List (κ×V)}{k:κ}(v:V)(h:bx kvs k=none):putK kvs k v=kvs++[(k,v)]:=by
 unfold putK;rw[ij,h];exact if_neg (U7)
theorem ky.j8{o:Option V}{u:Option Value}(r:ky o u):o.isSome=u.isSome:=by
 cases o with
 |none=>cases u with
  |none=>rfl
  |some _=>exact(show False from r).elim
 |some _=>cases u with
  |none=>exact(show False from r).elim
  |some _=>rfl
theorem ky.getD{o:Option V}{u:Option Value}{d:V}{d':Value}(r:ky o u)(rd:RelV d d'):RelV (o.getD d) (u.getD d'):=by
 cases o with
 |none=>cases u with
  |none=>exact rd
  |some _=>exact(show False from r).elim
 |some _=>cases u with
  |none=>exact(show False from r).elim
  |some _=>exact r
theorem KV.val{kvs:List (κ×V)}{vs:List (κ×Value)}(r:KV kvs vs)(k:κ):ky (bx kvs k) (valueAt vs k):=by
 unfold KV at r
 induction r with
 |nil=>exact True.intro
 |@cons p q ps qs h t ih=>
  obtain⟨h1,h2⟩:=h;by_cases e:p.1=k
  ·have e':q.1=k:=h1.symm.trans e;have b:valueAt (q::qs) k=some q.2:=by simp[valueAt,List.find?_cons,e']
   rw[cG e,b];exact h2
  ·have e':¬q.1=k:=fun z=>e (h1.trans z)
   have b:valueAt (q::qs) k=valueAt qs k:=by simp[valueAt,List.find?_cons,e']
   rw[cz e,b];exact ih
theorem KV.any{kvs:List (κ×V)}{vs:List (κ×Value)}(r:KV kvs vs)(k:κ):(kvs.any fun kv=>decide (kv.1=k))=vs.any fun kv=>decide (kv.1=k):=by
 unfold KV at r
 induction r with
 |nil=>rfl
 |cons h t ih=>rw[List.any_cons,List.any_cons,ih,h.1]
theorem KV.Km{kvs:List (κ×V)}{vs:List (κ×Value)}(r:KV kvs vs)(k:κ){y:V}{u:Value}(ry:RelV y u):
  KV (kvs.map fun kv=>if kv.1=k then(kv.1,y)else kv) (vs.map fun kv=>if kv.1=k then(kv.1,u)else kv):=by
 unfold KV at r⊢
 induction r with
 |nil=>exact .nil
 |@cons p q ps qs h t ih=>
  rw[List.map_cons,List.map_cons];refine .cons ?_ ih;obtain⟨h1,h2⟩:=h;by_cases e:p.1=k
  ·rw[U6 e,U6 (h1.symm.trans e)];exact⟨h1,ry⟩
  ·rw[Sn e,Sn (fun z=>e (h1.trans z))];exact⟨h1,h2⟩
theorem KV.put{kvs:List (κ×V)}{vs:List (κ×Value)}(r:KV kvs vs)(k:κ){y:V}{u:Value}(ry:RelV y u):KV (putK kvs k y) (stored vs k u):=by
 unfold putK stored;rw[r.any k];by_cases e:(vs.any fun kv=>decide (kv.1=k))=true
 ·rw[U6 e,U6 e];exact r.Km k ry
 ·rw[Sn e,Sn e];exact Paired.snoc r ⟨rfl,ry⟩
theorem KV.length{kvs:List (κ×V)}{vs:List (κ×Value)}(r:KV kvs vs):kvs.length=vs.length:=Paired.length r
theorem yv(kvs:List (κ×V))(k:κ):(i7 kvs k).length≤kvs.length:=List.length_filter_le _ _
end
theorem vE{P:Program}{w:World}{k:Key}{u:Value}(r:RelV (kV k) u):(cV P w).is k u=true:=by
 cases k with
 |inl i=>obtain⟨t,e⟩:=(show ∃t,u=Value.int i t from r);subst e;exact yi P w i t
 |inr x=>obtain⟨t,e⟩:=(show ∃t,u=Value.str x t from r);subst e;exact yj P w x t
theorem vF{P:Program}{w:World}:∀{ks:List Key}{us:List Value},Vals (ks.map kV) us→ItemsAre (cV P w) ks us
 |[],_,r=>by rw[List.map_nil]at r;cases r;exact .nil
 |k::ks,_,r=>by
  rw[List.map_cons]at r;cases r with
  |cons h t=>exact .cons (vE h) (vF t)
abbrev KT(H:Hp):List (List Key×V)→List (List Key×Addr×Value)→Prop:=Paired fun p q=>p.1=q.1∧H q.2.1=some (.tup (p.1.map kV))∧RelV p.2 q.2.2
theorem KT.val{H:Hp}{kvs:List (List Key×V)}{xs:List (List Key×Addr×Value)}(r:KT H kvs xs)(k:List Key):ky (bx kvs k) ((atKey xs k).map (·.2)):=by
 induction r with
 |nil=>exact True.intro
 |@cons p q ps qs h t ih=>
  obtain⟨h1,_,h2⟩:=h;by_cases e:p.1=k
  ·have e':q.1=k:=h1.symm.trans e;have b:atKey (q::qs) k=some q.2:=by simp[atKey,List.find?_cons,e']
   rw[cG e,b];exact h2
  ·have e':¬q.1=k:=fun z=>e (h1.trans z)
   have b:atKey (q::qs) k=atKey qs k:=by simp[atKey,List.find?_cons,e']
   rw[cz e,b];exact ih
theorem KT.Km{H:Hp}{kvs:List (List Key×V)}{xs:List (List Key×Addr×Value)}(r:KT H kvs xs)(k:List Key){y:V}{u:Value}(ry:RelV y u):
  KT H (kvs.map fun kv=>if kv.1=k then(kv.1,y)else kv) (xs.map (putAt k u)):=by
 induction r with
 |nil=>exact .nil
 |@cons p q ps qs h t ih=>
  rw[List.map_cons,List.map_cons];refine .cons ?_ ih;obtain⟨h1,h2,h3⟩:=h;unfold putAt;by_cases e:p.1=k
  ·rw[U6 e,U6 (h1.symm.trans e)];exact⟨h1,h2,ry⟩
  ·rw[Sn e,Sn (fun z=>e (h1.trans z))];exact⟨h1,h2,h3⟩
theorem KT.put{H:Hp}{kvs:List (List Key×V)}{xs:List (List Key×Addr×Value)}(r:KT H kvs xs)(k:List Key){b:Addr}{y:V}{u:Value}(hb:H b=some (.tup (k.map kV)))(ry:RelV y u):
  KT H (putK kvs k y) (storedH xs k b u):=by
 have e:(kvs.any fun kv=>decide (kv.1=k))=(atKey xs k).isSome:=by
  rw[ij,(r.val k).j8,Option.isSome_map]
 unfold putK storedH;rw[e];by_cases q:(atKey xs k).isSome=true
 ·rw[U6 q,U6 q];exact r.Km k ry
 ·rw[Sn q,Sn q];exact Paired.snoc r ⟨rfl,hb,ry⟩
theorem KT.keeps{H H':Hp}{kvs:List (List Key×V)}{xs:List (List Key×Addr×Value)}(r:KT H kvs xs)(ht:∀b ys,H b=some (.tup ys)→H' b=some (.tup ys)):KT H' kvs xs:=
 Paired.JZ r fun _ _ z=>⟨z.1,ht _ _ z.2.1,z.2.2⟩
section
variable{P:Program}{w:World}{H:Hp}{h:Heap}{a:Addr}
theorem IP{u:HO}(ok:lD P w H h)(e:Rd H a u):cQ P w H h a u:=e.ok ok
theorem sQ{kvs:List (Key×V)}(ok:lD P w H h)(e:Rd H a (.dK kvs)):kvs.length≤sizeLine∧(a==sysModules)=false∧∃vs,KV kvs vs∧h.DictOf (cV P w) a vs:=
 show cQ P w H h a (.dK kvs)from IP ok e
theorem NJ{kvs:List (Key×V)}(ok:lD P w H h)(e:H a=some (.dK kvs)):kvs.length≤sizeLine∧(a==sysModules)=false∧∃vs,KV kvs vs∧h.DictOf (cV P w) a vs:=sQ ok (.inl e)
theorem nE{ks:List Key}(ok:lD P w H h)(e:H a=some (.tup (ks.map kV))):(tupleKind (cV P w)).is h ks a:=by
 obtain⟨_,its,r,o,h1,h2,n,h3⟩:=(show cQ P w H h a (.tup (ks.map kV))from ok a _ e)
 exact⟨o,its.toArray,n,h1,h2,h3,by simpa using vF r⟩
theorem sR{kvs:List (List Key×V)}(ok:lD P w H h)(e:Rd H a (.dT kvs)):kvs.length≤sizeLine∧(a==sysModules)=false∧
  ∃xs,KT H kvs xs∧h.DictOfH (tupleKind (cV P w)) a xs:=by
 obtain⟨z,y,xs,r,o,es,ep,h1,h2,h3,h4,h5⟩:=(show cQ P w H h a (.dT kvs)from IP ok e)
 refine⟨z,y,xs,r,o,es,ep,h1,h2,h3,h4,fun x hx=>?_,h5⟩;have all:∀{l:List (List Key×V)}{m:List (List Key×Addr×Value)},KT H l m→∀x∈m,(tupleKind (cV P w)).is h x.1 x.2.1:=by
  intro l m q
  induction q with
  |nil=>intro x hx;exact nomatch hx
  |@cons p q ps qs hq t ih=>
   intro x hx;rcases List.mem_cons.mp hx with e|hx
   ·subst e;exact nE ok (by rw[←hq.1];exact hq.2.1)
   ·exact ih x hx
 exact all r x hx
theorem IQ{kvs:List (List Key×V)}(ok:lD P w H h)(e:H a=some (.dT kvs)):kvs.length≤sizeLine∧(a==sysModules)=false∧
  ∃xs,KT H kvs xs∧h.DictOfH (tupleKind (cV P w)) a xs:=sR ok (.inl e)
end
def j9(H:Hp)(a:Addr)(y:V)(r:Option V):Prop:=
 (∃kvs k,Rd H a (.dK kvs)∧y=kV k∧r=bx kvs k)∨∃kvs k b,Rd H a (.dT kvs)∧y= .ref b∧H b=some (.tup (k.map kV))∧r=bx kvs k
def GO(H:Hp)(a:Addr)(y v:V)(H':Hp):Prop:=
 (∃kvs k,H a=some (.dK kvs)∧y=kV k∧kvs.length<sizeLine∧H'=upd H a (.dK (putK kvs k v)))∨
 ∃kvs k b,H a=some (.dT kvs)∧y= .ref b∧H b=some (.tup (k.map kV))∧kvs.length<sizeLine∧H'=upd H a (.dT (putK kvs k v))
theorem j9.t{H:Hp}{a b:Addr}{kvs:List (List Key×V)}{k:List Key}(e:H a=some (.dT kvs))(eb:H b=some (.tup (k.map kV))):j9 H a (.ref b) (bx kvs k):= .inr ⟨kvs,k,b, .inl e,rfl,eb,rfl⟩
theorem GO.t{H:Hp}{a b:Addr}{kvs:List (List Key×V)}{k:List Key}{v:V}(e:H a=some (.dT kvs))(eb:H b=some (.tup (k.map kV)))(hl:kvs.length<sizeLine):
  GO H a (.ref b) v (upd H a (.dT (putK kvs k v))):= .inr ⟨kvs,k,b,e,rfl,eb,hl,rfl⟩
section
variable{X:Cx}{pins:List (Addr×Obj)}{σ:St}{H:Hp}{s:Shared}{a:Addr}{y v:V}{u r:Value}{o:Option V}{A:Around}{E:Value→Shared→Prop}
theorem Inv.big(I:Inv X pins σ H s):sysModules<s.heap.objs.size:=by
 have h:mainGlobals<s.heap.objs.size:=(I.mod.glob.keeps I.bk).lt;exact Nat.lt_trans (U7) h
theorem Cp{Q:Value→Shared→Prop}(hu:A.units+1<cLine)(I:Inv X pins σ H s)(g:j9 H a y (some v))(ry:RelV y u)(h:∀w' s',Inv X pins σ H s'→RelV v w'→Q w' s'):
  wpAny (model X.prog X.w) A (getItem (.ref a) u) Q E s:=by
 rcases g with⟨kvs,k,e,ey,l⟩|⟨kvs,k,b,e,ey,eb,l⟩
 ·subst ey;obtain⟨z,hd,vs,rel,dd⟩:=sQ I.bX e;obtain⟨w',hw,iF⟩:=ky.some_of (v:=v) (o:=valueAt vs k) (by rw[l];exact rel.val k);exact wpAny_getItem_of (vE ry) dd.mapOf hw (h w' _ (I.tok _) iF)
 ·subst ey;cases(show u=Value.ref b from ry);obtain⟨z,hd,xs,rel,dd⟩:=sR I.bX e;obtain⟨w',hw,iF⟩:=ky.some_of (v:=v) (o:=(atKey xs k).map (·.2)) (by rw[l];exact rel.val k);obtain⟨p,hp,zZ⟩:=Option.map_eq_some_iff.mp hw;refine wpAny_getItem_heap (tupleKind_room_in1 hu) (nE I.bX eb) dd hp ?_;rw[zZ];exact h w' _ (I.tok _) iF
theorem RP{Q:Value→Shared→Prop}(hu:A.units+1<cLine)(I:Inv X pins σ H s)(g:j9 H a y o)(ry:RelV y u)(h:∀s',Inv X pins σ H s'→Q (.bool o.isSome) s'):
  wpAny (model X.prog X.w) A (compareOp .In u (.ref a)) Q E s:=by
 rcases g with⟨kvs,k,e,ey,l⟩|⟨kvs,k,b,e,ey,eb,l⟩
 ·subst ey;obtain⟨z,hd,vs,rel,dd⟩:=sQ I.bX e;refine wpAny_in_of (vE ry) hd dd.mapOf ?_;rw[←(rel.val k).j8,←l];exact h _ (I.tok _)
 ·subst ey;cases(show u=Value.ref b from ry);obtain⟨z,hd,xs,rel,dd⟩:=sR I.bX e;refine wpAny_in_heap (tupleKind_room_in1 hu) (nE I.bX eb) hd dd ?_;have q:=(rel.val k).j8;rw[Option.isSome_map]at q;rw[←q,←l];exact h _ (I.tok _)
theorem GP{Q:Value→Shared→Prop}(hu:A.units+1<cLine)(I:Inv X pins σ H s)(g:j9 H a y o)(ry:RelV y u)(h:∀s',Inv X pins σ H s'→Q (.bool (!o.isSome)) s'):
  wpAny (model X.prog X.w) A (compareOp .NotIn u (.ref a)) Q E s:=by
 rcases g with⟨kvs,k,e,ey,l⟩|⟨kvs,k,b,e,ey,eb,l⟩
 ·subst ey;obtain⟨z,hd,vs,rel,dd⟩:=sQ I.bX e;refine wpAny_notIn_of (vE ry) hd dd.mapOf ?_;rw[←(rel.val k).j8,←l];exact h _ (I.tok _)
 ·subst ey;cases(show u=Value.ref b from ry);obtain⟨z,hd,xs,rel,dd⟩:=sR I.bX e;refine wpAny_notIn_heap (tupleKind_room_in1 hu) (nE I.bX eb) hd dd ?_;have q:=(rel.val k).j8;rw[Option.isSome_map]at q;rw[←q,←l];exact h _ (I.tok _)
theorem wz{h':Heap}{t':Nat}{ob:HO}(I:Inv X pins σ H s)(mu:Nc (H a))(hs:Heap.SameBut a s.heap h')(he:∃q,h'.get? a=some q)(new:cQ X.prog X.w (upd H a ob) h' a ob):
  Inv X pins σ (upd H a ob) {s with heap:=h',toks:=t'}:=
 I.write (x:=a) (e:=a) mu (.inl rfl) (fun b q hb z=>(hs.2 b hb).trans z) he new
theorem Kn{P:Program}{w:World}{H':Hp}{h':Heap}{kvs:List (Key×V)}{vs:List (Key×Value)}(z:kvs.length≤sizeLine)(hd:(a==sysModules)=false)(rel:KV kvs vs)(dd:h'.DictOf (cV P w) a vs):
  cQ P w H' h' a (.dK kvs):=⟨z,hd,vs,rel,dd⟩
theorem Cq{H':Hp}{Q:Unit→Shared→Prop}(hu:A.units+1<cLine)(I:Inv X pins σ H s)(g:GO H a y v H')(ry:RelV y u)(rv:RelV v r)(h:∀s',Inv X pins σ H' s'→Q () s'):
  wpAny (model X.prog X.w) A (setItem (.ref a) u r) Q E s:=by
 rcases g with⟨kvs,k,e,ey,l,eH⟩|⟨kvs,k,b,e,ey,eb,l,eH⟩
 ·subst ey eH;obtain⟨z,hd,vs,rel,dd⟩:=NJ I.bX e;have hz:vs.length≤sizeLine:=by rw[←rel.length];exact z
  have hl:(putK kvs k v).length≤sizeLine:=by have:=eZ kvs k v;omega
  refine wpAny_setItem_pairs (hsz:=hz) (vE ry) dd fun h' IS hs=>h _ ?_
  have he:∃q,h'.get? a=some q:=let ⟨q,_,_,hq,_⟩:=IS;⟨q,hq⟩
  exact wz I (by rw[e];exact True.intro) hs he (Kn hl hd (rel.put k rv) IS)
 ·subst ey eH;cases(show u=Value.ref b from ry);obtain⟨z,hd,xs,rel,dd⟩:=IQ I.bX e;have hz:xs.length≤sizeLine:=by rw[←Paired.length rel];exact z
  have hl:(putK kvs k v).length≤sizeLine:=by have:=eZ kvs k v;omega
  refine wpAny_setItem_heap (hsz:=hz) (tupleKind_room_in1 hu) (nE I.bX eb) dd fun h' IS hs=>h _ ?_
  obtain⟨q,es,ep,hq,h2,h3,h4,_,h5⟩:=IS;refine wz I (by rw[e];exact True.intro) hs ⟨q,hq⟩ ⟨hl,hd,_,(rel.put k eb rv).keeps fun c ys ec=>?_,q,es,ep,hq,h2,h3,h4,h5⟩;rw[ak (i5 ec e (fun z=>nomatch z))];exact ec
end
section
variable{X:Cx}{pins:List (Addr×Obj)}{σ:St}{H:Hp}{s:Shared}{a:Addr}{kvs:List (Key×V)}{k:Key}{u:Value}{A:Around}{E:Value→Shared→Prop}
end
def NK(i:Expr):Prop:=∀ov iv,subscripted i false ov iv=operate [ov,iv] (getItem ov iv)
theorem GQ{prog:Program}{w:World}{A:Around}{E:Value→Shared→Prop}{s:Shared}{env:Env}{value slice:Expr}{pos:Pos}{T id:String}{Q:Value→Shared→Prop}
  (hl:typeLookup (.type T) "__getitem__"=pure (some (.builtin id))) (hs:NK slice)
  (h:wpAny (model prog w) A (eval value env) (fun o ck=>wpAny (model prog w) A (eval slice env) (fun i qe=>qe.TypeIs o T∧wpAny (model prog w) A (getItem o i) Q E qe) E ck) E s):
  wpAny (model prog w) A (eval (.Subscript value slice pos) env) Q E s:=by
 refine Subscript_ (wpAny_mono h (fun o ck Cr=>wpAny_mono Cr (fun i qe D_=>?_) fun _ _ x=>x) fun _ _ x=>x);obtain⟨hT,D_⟩:=D_;unfold subscriptTail;refine wpAny_bind ?_;rw[getitemInPython_of_ne hT.not_modules];refine wpAny_bind (wpAny_specialOf hT hl ?_);have fin:wpAny (model prog w) A (subscripted slice false o i) (fun r Cs=>wpAny (model prog w) A (letTemporaryGo value o r>>=fun _=>pure r) Q E Cs) E qe:=by
  rw[hs o i];exact wpAny_operating (wpAny_mono D_ (fun r Cs GR=>ZX (wpAny_letTemporaryGo (ZL GR))) fun _ _ x=>x)
 first
  |exact ZL (ZX fin)
  |exact ZX (ZL (ZX fin))
  |exact ZX fin
theorem yw{X:Cx}{pins:List (Addr×Obj)}{σ:St}{H:Hp}{s:Shared}{a:Addr}{y:V}{o:Option V}(I:Inv X pins σ H s)(g:j9 H a y o):s.TypeIs (.ref a) "dict":=by
 rcases g with⟨kvs,k,e,_,_⟩|⟨kvs,k,b,e,_,_,_⟩
 ·obtain⟨_,_,vs,_,dd⟩:=sQ I.bX e;exact dd.typeIs
 ·obtain⟨_,_,xs,_,dd⟩:=sR I.bX e;exact dd.typeIs
def NL(td ty:TE):TE:=fun σ H Q=>td σ H fun x H1=>ty σ H1 fun y H2=>∃a v,x= .ref a∧j9 H2 a y (some v)∧Q v H2
def RQ(ty td:TE):TE:=fun σ H Q=>ty σ H fun y H1=>td σ H1 fun x H2=>∃a o,x= .ref a∧j9 H2 a y o∧Q (.bl o.isSome) H2
def GU(ty td:TE):TE:=fun σ H Q=>ty σ H fun y H1=>td σ H1 fun x H2=>∃a o,x= .ref a∧j9 H2 a y o∧Q (.bl (!o.isSome)) H2
def NM(td ty tv:TE):TS:=fun D σ H=>tv σ H fun v H1=>td σ H1 fun x H2=>ty σ H2 fun y H3=>∃a H4,x= .ref a∧GO H3 a y v H4∧D.nx σ H4
section
variable{X:Cx}{o i e value:Expr}{pos pos' RM:Pos}{td ty tv:TE}
theorem iJ(hu:X.A.units+1<cLine)(ho:PE X o td)(hi:PE X i ty)(hs:NK i):PE X (.Subscript o i pos) (NL td ty):=by
 intro pins s σ H Q I h;refine GQ PySem.F.slot_dict_getitem.lookup hs (cH (ho pins s σ H _ I h) fun u s1 ⟨x,H1,I1,rx,q1⟩=>cH (hi pins s1 σ H1 _ I1 q1) fun iv s2 ⟨y,H2,I2,ry,a,v,ex,g,q2⟩=>?_);subst ex;obtain rfl:u=Value.ref a:=rx;exact⟨yw I2 g,Cp hu I2 g ry fun w' s3 I3 iF=>⟨v,H2,I3,iF,q2⟩⟩
theorem qj(hu:X.A.units+1<cLine)(hi:PE X i ty)(ho:PE X o td):PC X .In i o (RQ ty td):=by
 intro pins s σ H Q I h;refine cH (hi pins s σ H _ I h) fun iv s1 ⟨y,H1,I1,ry,q1⟩=>cH (ho pins s1 σ H1 _ I1 q1) fun u s2 ⟨x,H2,I2,rx,a,ov,ex,g,q2⟩=>?_
 subst ex;obtain rfl:u=Value.ref a:=rx;exact RP hu I2 g ry fun s3 I3=>⟨.bl ov.isSome,H2,I3,rfl,q2⟩
theorem vG(hu:X.A.units+1<cLine)(hi:PE X i ty)(ho:PE X o td):PC X .NotIn i o (GU ty td):=by
 intro pins s σ H Q I h;refine cH (hi pins s σ H _ I h) fun iv s1 ⟨y,H1,I1,ry,q1⟩=>cH (ho pins s1 σ H1 _ I1 q1) fun u s2 ⟨x,H2,I2,rx,a,ov,ex,g,q2⟩=>?_
 subst ex;obtain rfl:u=Value.ref a:=rx;exact GP hu I2 g ry fun s3 I3=>⟨.bl (!ov.isSome),H2,I3,rfl,q2⟩
theorem kz(hu:X.A.units+1<cLine)(ho:PE X o td)(hi:PE X i ty)(hv:PE X value tv)(hs:swapsWith value (some (.Subscript o i pos')) pos.line X.env=pure false):
  PS X (.Assign [.Subscript o i pos'] value pos) (NM td ty tv):=by
 intro pins s σ H D I h;refine wpAny_Assign_Subscript (cH (hv pins s σ H _ I h) fun r s1 ⟨v,H1,I1,rv,q1⟩=>cH (ho pins s1 σ H1 _ I1 q1) fun u s2 ⟨x,H2,I2,rx,q2⟩=>cH (hi pins s2 σ H2 _ I2 q2) fun iv s3 ⟨y,H3,I3,ry,a,H4,ex,g,q3⟩=>?_) hs;subst ex;obtain rfl:u=Value.ref a:=rx;exact Cq hu I3 g ry rv fun s4 I4=>⟨σ,H4,I4,q3⟩
end
theorem Ea{P:Program}{w:World}{H:Hp}(h:Heap)(hb:sysModules<h.objs.size):cQ P w H (h.push {cls:= .type "dict",data:= .dict #[]}) h.objs.size (.dT []):=
 ⟨Nat.zero_le _,beq_eq_false_iff_ne.mpr (Ne.symm (Nat.ne_of_lt hb)),[], .nil,_,#[],0,Heap.get?_push_size _ rfl,⟨rfl,rfl,rfl⟩,rfl,rfl,List.nodup_nil⟩
def Ko:TE:=fun _ H Q=>∀p,H p=none→Q (.ref p) (upd H p (.dT []))
section
variable{X:Cx}{pos:Pos}
theorem j_:PE X (.Dict [] [] pos) Ko:=fun pins s σ H Q I h=>
 wpAny_Dict_empty ⟨.ref s.heap.objs.size,_,I.laid (a:=s.heap.objs.size) (o:= .dT []) (t':=s.toks) (fun _ _ q=>Zp q) (Nat.le_refl _) (Ea s.heap I.big),rfl,h _ (I.bX.fresh Zn)⟩
end
structure M1(X:Cx)(o:Expr)(m:Str)(apos:Pos)(e:Expr)(eG:Pos):Prop where
 base:attributeBase o m X.env (eval o X.env)=eval o X.env
 sT:((backTo eG (starEach [e] X.env)).all (fun x=>!x.1)&&(backToKw eG (keywordEach [] X.env)).all (fun x=>x.1.isSome)
  &&decide (([e]:List Expr).length+([]:List Keyword).length+(if ([]:List Keyword).isEmpty then 0 else 1)<30))=true
 line:(apos.endLine==eG.line)=true
 trees:backTo eG (starEach [e] X.env)=[(false,eval e X.env)]
def RR(H:Hp)(a:Addr):Prop:=(∃kvs,Rd H a (.dK kvs))∨∃kvs,Rd H a (.dT kvs)
theorem Eb{X:Cx}{pins:List (Addr×Obj)}{σ:St}{H:Hp}{s:Shared}{a:Addr}(I:Inv X pins σ H s)(d:RR H a):
  s.TypeIs (.ref a) "dict"∧(∀b,Value.ref a= .ref b→∃ob,s.heap.get? b=some ob∧ob.dict=none)∧(a==sysModules)=false:=by
 rcases d with⟨kvs,e⟩|⟨kvs,e⟩
 ·obtain⟨_,hd,vs,_,dd⟩:=sQ I.bX e;refine⟨dd.typeIs,fun b q=>?_,hd⟩;cases q;obtain⟨ob,_,_,h1,h2,_⟩:=dd;exact⟨ob,h1,h2.2.1⟩
 ·obtain⟨_,hd,xs,_,dd⟩:=sR I.bX e;refine⟨dd.typeIs,fun b q=>?_,hd⟩;cases q;obtain⟨ob,_,_,h1,h2,_⟩:=dd;exact⟨ob,h1,h2.2.1⟩
section
variable{X:Cx}{pins:List (Addr×Obj)}{σ:St}{H:Hp}{s:Shared}{a:Addr}{y d:V}{u r:Value}{o:Option V}{A:Around}{E:Value→Shared→Prop}
theorem Kq{Q:Value→Shared→Prop}(hu:A.units+1<cLine)(I:Inv X pins σ H s)(g:j9 H a y o)(ry:RelV y u)(h:∀w' s',Inv X pins σ H s'→RelV (o.getD .cK) w'→Q w' s'):
  wpAny (model X.prog X.w) A (call (.builtin "dict.get") [.ref a,u]) Q E s:=by
 rcases g with⟨kvs,k,e,ey,l⟩|⟨kvs,k,b,e,ey,eb,l⟩
 ·subst ey;obtain⟨z,hd,vs,rel,dd⟩:=sQ I.bX e;refine call_meetsIn PySem.F.slot_dict_get dd.typeIs PySem.F.entry_dict_get (PySem.F.args_dict_get_2 _ _) (meets_dict_get (cV X.prog X.w) a (vE ry) hd) ⟨_,dd.mapOf,h _ _ (I.tok _) ?_⟩;rw[l];exact(rel.val k).getD rfl
 ·subst ey;cases(show u=Value.ref b from ry);obtain⟨z,hd,xs,rel,dd⟩:=sR I.bX e;refine call_meetsIn PySem.F.slot_dict_get dd.typeIs PySem.F.entry_dict_get (PySem.F.args_dict_get_2 _ _) (meetsH_dict_get (tupleKind (cV X.prog X.w)) a b hd) ⟨tupleKind_room_in1 hu,k,xs,nE I.bX eb,dd,h _ _ (I.tok _) ?_⟩;rw[l];exact(rel.val k).getD rfl
end
def Kr(td ty:TE):TE:=fun σ H Q=>td σ H fun x H1=>∃a,x= .ref a∧RR H1 a∧ty σ H1 fun y H2=>∃o,j9 H2 a y o∧Q (o.getD .cK) H2
section
variable{X:Cx}{o e f:Expr}{apos eG:Pos}{td ty tx:TE}
theorem Ec(hu:X.A.units+1<cLine)(ho:PE X o td)(he:PE X e ty)(m:M1 X o "get" apos e eG):PE X (.Call (.Attribute o "get" apos) [e] [] eG) (Kr td ty):=by
 intro pins s σ H Q I h;refine wpAny_Call_method m.base m.sT m.line PySem.F.plainAttrs_dict PySem.F.slot_dict_get PySem.F.type_dict_get (cH (ho pins s σ H _ I h) fun u s1 ⟨x,H1,I1,rx,a,ex,d,q1⟩=>?_);subst ex;obtain rfl:u=Value.ref a:=rx;obtain⟨t1,t2,_⟩:=Eb I1 d;refine⟨t1,t2,?_⟩;rw[m.trees];refine Calls.callWith_builtin rfl (Calls.evalArgs_plain (Calls.spliced_cons (cH (he pins s1 σ H1 _ I1 q1) fun iv s2 ⟨y,H2,I2,ry,ov,g,q2⟩=>Calls.spliced_nil ?_)));exact Kq hu I2 g ry fun w' s3 I3 iF=>⟨_,H2,I3,iF,q2⟩
end
section
variable{X:Cx}{pins:List (Addr×Obj)}{σ:St}{H:Hp}{s:Shared}{a:Addr}{kvs:List (Key×V)}{A:Around}{E:Value→Shared→Prop}
end
section
variable{X:Cx}{pins:List (Addr×Obj)}{σ:St}{H:Hp}{s:Shared}{a:Addr}{y:V}{u:Value}{A:Around}{E:Value→Shared→Prop}
end
end L2
namespace HT
open PySem PyProof.Rows
section
open PySem.SeqAt
open PySem.AutoSeq1 (wpAny_loadPart')
open PySem.MeetsSeq PySem.MeetsSeq2 PySem.MeetsSeq3
end
section
variable{prog:Program}{w:World}{A:Around}{E:Value→Shared→Prop}{s:Shared}
def j7(n d:Nat):Option Int→Nat
 |none=>d
 |some v=>if v<0 then(v+(n:Int)).toNat else min v.toNat n
theorem sU(n d:Nat):j7 n d none=d:=rfl
theorem Bk(n d k:Nat):j7 n d (some (k:Int))=min k n:=by
 show(if (k:Int)<0 then((k:Int)+(n:Int)).toNat else min (k:Int).toNat n)=min k n;rw[if_neg (Zq),Int.toNat_natCast]
theorem Ed(n d:Nat)(hd:d≤n)(o:Option Int):j7 n d o≤n:=by
 cases o with
 |none=>exact hd
 |some v=>
  show(if v<0 then(v+(n:Int)).toNat else min v.toNat n)≤n;by_cases hv:v<0
  ·rw[U6 hv];omega
  ·rw[Sn hv];exact Nat.min_le_right _ _
end
end HT
namespace L2
open PySem PySem.Spec PyProof.Rows
abbrev TO:=St→Hp→(Option Int→Hp→Prop)→Prop
def PO(X:Cx)(e:Option Expr)(t:TO):Prop:=
 ∀(pins:List (Addr×Obj))(s:Shared)(σ:St)(H:Hp)(Q:Option Int→Hp→Prop),Inv X pins σ H s→t σ H Q→
  wpAny (model X.prog X.w) X.A (evalPart e X.env) (fun u s'=>∃o H',Inv X pins σ H' s'∧IsPart u o∧Q o H') X.xe s
def GV:TO:=fun _ H Q=>Q none H
def NN(t:TE):TO:=fun σ H Q=>t σ H fun x H1=>∃i,x= .int i∧Q (some i) H1
section
variable{X:Cx}{e:Expr}{te:TE}{lo hi:Option Expr}{tl th:TO}{pos p2:Pos}
theorem oE:PO X none GV:=by
 intro pins s σ H Q I h;rw[evalPart_none];exact ZL ⟨none,H,I, .none,h⟩
theorem kC(h:PE X e te):PO X (some e) (NN te):=by
 intro pins s σ H Q I hw;rw[evalPart_some];refine cH (h pins s σ H _ I hw) fun u s1 ⟨x,H1,I1,r1,q1⟩=>?_
 obtain⟨i,rfl,q⟩:=q1;obtain⟨t,rfl⟩:=r1;exact⟨some i,H1,I1, .int i t,q⟩
def Qa(X:Cx)(r:V→Option Int→Option Int→Hp→VK→Prop):Prop:=
 ∀(pins:List (Addr×Obj))(s:Shared)(σ:St)(H:Hp)(x:V)(v vl vu:Value)(lo hi:Option Int)(sl:Addr)(Q:VK),Inv X pins σ H s→RelV x v→s.heap.IsSliceOf sl vl vu .none→IsPart vl lo→IsPart vu hi→r x lo hi H Q→
  ∃T id,typeLookup (.type T) "__getitem__"=pure (some (.builtin id))∧s.TypeIs v T∧wpAny (model X.prog X.w) X.A (getItem v (.ref sl)) (EP X pins σ Q) X.xe s
def WW(r:V→Option Int→Option Int→Hp→VK→Prop)(te:TE)(tl th:TO):TE:=fun σ H Q=>te σ H fun x H1=>tl σ H1 fun l H2=>th σ H2 fun u H3=>r x l u H3 Q
theorem ka{r:V→Option Int→Option Int→Hp→VK→Prop}(hr:Qa X r)(he:PE X e te)(hl:PO X lo tl)(hu:PO X hi th):PE X (.Subscript e (.Slice lo hi none p2) pos) (WW r te tl th):=by
 intro pins s σ H Q I h;refine Subscript_ (cH (he pins s σ H _ I h) fun v s1 ⟨x,H1,I1,r1,q1⟩=>?_);refine wpAny_Slice (cH (hl pins s1 σ H1 _ I1 q1) fun vl s2 ⟨l,H2,I2,pl,q2⟩=>cH (hu pins s2 σ H2 _ I2 q2) fun vu s3 ⟨u,H3,I3,pu,q3⟩=>?_);rw[evalPart_none];refine wpAny_pure ?_;have I4:Inv X pins σ H3 {s3 with heap:=s3.heap.push {cls:= .type "slice",data:= .fields #[vl,vu, .none]}}:=I3.kept (t':=s3.toks) fun b ob q=>Zp q
 obtain⟨T,id,hT,ht,hg⟩:=hr pins {s3 with heap:=s3.heap.push {cls:= .type "slice",data:= .fields #[vl,vu, .none]}} σ H3 x v vl vu l u s3.heap.objs.size Q I4 r1 (Heap.IsSliceOf.new ..) pl pu q3;show wpAny (model X.prog X.w) X.A (subscriptTail e (.Slice lo hi none p2) v (.ref s3.heap.objs.size)) (EP X pins σ Q) X.xe {s3 with heap:=s3.heap.push {cls:= .type "slice",data:= .fields #[vl,vu, .none]}};exact tail_any (ops:=[.ref s3.heap.objs.size,v]) ht hT hg (by with_unfolding_all rfl)
def wA(xs:List V)(lo hi:Option Int):List V:=(xs.drop (HT.j7 xs.length 0 lo)).take (HT.j7 xs.length xs.length hi-HT.j7 xs.length 0 lo)
theorem yx(xs:List V)(lo hi:Option Int):(wA xs lo hi).length≤xs.length:=by
 unfold wA;rw[List.length_take,List.length_drop];omega
end
def Ee(n:Nat)(i:Int):Option Nat:=if 0≤i then(if i<n then some i.toNat else none)else if-(n:Int)≤i then some (i+n).toNat else none
def rP{α:Type}(xs:List α)(i:Int):Option α:=(Ee xs.length i).bind fun j=>xs[j]?
theorem Bl{n:Nat}{i:Int}{j:Nat}(h:Ee n i=some j):seqIndex? i n=some j∧j<n∧-(n:Int)≤i∧i<n:=by
 unfold Ee at h;by_cases h0:0≤i
 ·rw[U6 h0]at h;by_cases h1:i<n
  ·rw[U6 h1]at h;have e:i.toNat=j:=ZV h;exact⟨by rw[seqIndex_of h0 h1,e],Zq,Zq,h1⟩
  ·rw[Sn h1]at h;cases h
 ·rw[Sn h0]at h;by_cases h1:-(n:Int)≤i
  ·rw[U6 h1]at h;have e:(i+n).toNat=j:=ZV h;exact⟨by rw[seqIndex_neg (Zq) h1,e],Zq,h1,Zq⟩
  ·rw[Sn h1]at h;cases h
theorem wB{α:Type}{xs:List α}{i:Int}{v:α}(h:rP xs i=some v):∃j,seqIndex? i xs.length=some j∧xs[j]?=some v∧j<xs.length∧-(xs.length:Int)≤i∧i<xs.length:=by
 unfold rP at h;cases e:Ee xs.length i with
 |none=>rw[e]at h;cases h
 |some j=>
  rw[e]at h;obtain⟨h1,h2,h3,h4⟩:=Bl e;exact⟨j,h1,h,h2,h3,h4⟩
theorem au{α:Type}{xs:List α}{j:Nat}{v:α}(h:xs[j]?=some v):rP xs (j:Int)=some v:=by
 have hj:j<xs.length:=(Z' h).1;have e:Ee xs.length (j:Int)=some j:=by
  unfold Ee;rw[if_pos (Zq),if_pos (Zq)];simp
 unfold rP;rw[e];exact h
theorem yy{α:Type}(xs:List α)(v:α):rP (xs++[v]) (-1)=some v:=by
 have hl:(xs++[v]).length=xs.length+1:=Wv;have e:Ee (xs++[v]).length (-1)=some xs.length:=by
  unfold Ee;rw[hl,if_neg (U7),if_pos (Zq)]
  congr 1
  omega
 unfold rP;rw[e];show(xs++[v])[xs.length]?=some v;simp
def GW(b:Expr):Prop:=∀o i,subscripted b false o i=operate [o,i] (getItem o i)
def Mu(X:Cx)(r:R2):Prop:=
 ∀(value slice:Expr)(pins:List (Addr×Obj))(s:Shared)(σ:St)(H:Hp)(x y:V)(v u:Value)(Q:VK),Inv X pins σ H s→RelV x v→RelV y u→r x y H Q→
  subscripted slice false v u=operate [v,u] (getItem v u)→wpAny (model X.prog X.w) X.A (subscriptTail value slice v u) (EP X pins σ Q) X.xe s
def Qb(X:Cx)(id:String)(r:V→List V→Hp→VK→Prop):Prop:=
 ∀(pins:List (Addr×Obj))(s:Shared)(σ:St)(H:Hp)(x:V)(xs:List V)(v:Value)(us:List Value)(Q:VK),Inv X pins σ H s→RelV x v→Vals xs us→r x xs H Q→
  wpAny (model X.prog X.w) X.A (call (.builtin id) (v::us)) (EP X pins σ Q) X.xe s
section
variable{X:Cx}{a b:Expr}{ta tb:TE}{pos:Pos}
theorem aB{r:R2}(hr:Mu X r)(ha:PE X a ta)(hb:PE X b tb)(hs:GW b):PE X (.Subscript a b pos) (P_ r ta tb):=by
 intro pins s σ H Q I h;exact Subscript_ (Ke ha hb I h fun v u s2 x y H2 I2 rx ry q=>hr a b pins s2 σ H2 x y v u Q I2 rx ry q (hs _ _))
inductive Kt(K:PySem.W.Frag)(x:V)(y:V)(H:Hp)(Q:VK):Prop
 |mk (p:_) (xs:_) (i:_) (v:_) (_:x= .ref p) (_:y= .int i) (_:iE K H p xs) (_:rP xs i=some v) (_:Q v H):Kt K x y H Q
inductive Ku(K:PySem.W.Frag)(x:V)(y:V)(H:Hp)(Q:VK):Prop
 |mk (p:_) (xs:_) (i:_) (v:_) (_:x= .ref p) (_:y= .int i) (_:DT K H p xs) (_:rP xs i=some v) (_:Q v H):Ku K x y H Q
inductive NO(x:V)(y:V)(H:Hp)(Q:VK):Prop
 |mk (z:_) (i:_) (c:_) (_:x= .str z) (_:y= .int i) (_:z.length≤sizeLine) (_:rP z.cps.toList i=some c) (_:Q (.str ⟨#[c]⟩) H):NO x y H Q
theorem GX:Mu X (Kt X.K):=by
 intro value slice pins s σ H x y v u Q I rx ry h hs;obtain⟨p,xs,i,z,rfl,rfl,hq,he,q⟩:=h;cases rx;obtain⟨t,rfl⟩:=ry;obtain⟨its,r,pl,hz⟩:=I.list hq;obtain⟨j,h1,h2,h3,h4,h5⟩:=wB he;obtain⟨w,ew,iF⟩:=r.get h2;have hl:=r.length;have hn:=ny;have fin:EP X pins σ Q w s:=⟨z,H,I,iF,q⟩
 by_cases h0:0≤i
 ·have hj:i.toNat=j:=by
   rw[seqIndex_of h0 h5]at h1;exact ZV h1
  exact item_listR pl.isList h0 (Zq) (by rw[hj];simpa using ew) fin hs
 ·have hj:(i+(its.toArray.size:Int)).toNat=j:=by
   rw[seqIndex_neg (Zq) h4]at h1;rw[List.size_toArray,←hl];exact ZV h1
  exact subscriptTail_builtinR (x:=w) pl.isList.typeIs slot_list_getitem.lookup
   (wpAny_getItem_list_neg (Q:=fun r s'=>r=w∧EP X pins σ Q r s') pl.isList (Zq) (by rw[List.size_toArray]<;>omega) (Zq) (by rw[hj];simpa using ew) ⟨rfl,fin⟩) hs
theorem Kv:Mu X (Ku X.K):=by
 intro value slice pins s σ H x y v u Q I rx ry h hs;obtain⟨p,xs,i,z,rfl,rfl,hq,he,q⟩:=h;cases rx;obtain⟨t,rfl⟩:=ry;obtain⟨its,r,pl,hz⟩:=I.tuple hq;obtain⟨j,h1,h2,h3,h4,h5⟩:=wB he;obtain⟨w,ew,iF⟩:=r.get h2;have hl:=r.length;have hn:=ny;have fin:EP X pins σ Q w s:=⟨z,H,I,iF,q⟩
 exact subscriptTail_builtinR (x:=w) pl.typeIs slot_tuple_getitem.lookup
  (getItem_tuple (j:=j) (Q:=fun r s'=>r=w∧EP X pins σ Q r s') pl (Zq) (Zq) (by rw[List.size_toArray,←hl];exact h1) (by simpa using ew) ⟨rfl,fin⟩) hs
theorem Ef:Mu X NO:=by
 intro value slice pins s σ H x y v u Q I rx ry h hs;obtain⟨z,i,c,rfl,rfl,hz,he,q⟩:=h;obtain⟨t,rfl⟩:=rx;obtain⟨t',rfl⟩:=ry;obtain⟨j,h1,h2,h3,h4,h5⟩:=wB he;have hl:z.cps.toList.length=z.length:=by simp[Str.length]
 rw[hl]at h1 h4 h5;have hn:=ny;exact tail_any (typeIs_str s z t) slot_str_getitem.lookup (getItem_str (c:=c) (by
  have e1:decide (i< -(2^63:Int))=false:=decide_eq_false (Zq);have e2:decide (i≥2^63)=false:=decide_eq_false (Zq);rw[e1,e2,Bool.or_false]) (by rw[h1];simpa using h2) ⟨.str ⟨#[c]⟩,H,I.tok _,⟨_,rfl⟩,q⟩) hs
theorem z9(its:List Value)(n j:Nat)(u:Value):Obj.mapSeq (·.setIfInBounds j u) {cls:= .type "list",data:= .seq its.toArray n}={cls:= .type "list",data:= .seq (its.set j u).toArray n}:=by
 simp[Obj.mapSeq]
theorem Inv.lst{pins:List (Addr×Obj)}{σ:St}{H:Hp}{s:Shared}{p:Addr}{xs:List V}(I:Inv X pins σ H s)(h:H p=some (.lst xs)):
  ∃(its:List Value)(n:Nat),Vals xs its∧s.heap.get? p=some {cls:= .type "list",data:= .seq its.toArray n}∧xs.length≤sizeLine:=by
 obtain⟨z,its,n,r,e⟩:=I.bX p _ h;exact⟨its,n,r,e,z⟩
theorem Inv.Kx{pins:List (Addr×Obj)}{σ:St}{H:Hp}{s:Shared}{p:Addr}{xs ys:List V}{its its':List Value}{n n':Nat}{f:Obj→Obj}(I:Inv X pins σ H s)(h:H p=some (.lst xs))
  (ho:s.heap.get? p=some {cls:= .type "list",data:= .seq its.toArray n}) (hf:f {cls:= .type "list",data:= .seq its.toArray n}={cls:= .type "list",data:= .seq its'.toArray n'}) (r:Vals ys its') (hz:ys.length≤sizeLine) (t:Nat):
  Inv X pins σ (upd H p (.lst ys)) {s with heap:=s.heap.update p f,toks:=t}:=by
 have e:(s.heap.update p f).get? p=some {cls:= .type "list",data:= .seq its'.toArray n'}:=by
  rw[Heap.get?_update_self f ho (by rw[hf]<;>rfl),hf]
 refine I.write (x:=p) (e:=p) (by rw[h];trivial) (.inl rfl) (fun b u hb q=>(Heap.get?_update_other _ _ (Ne.symm hb)).trans q) ⟨_,e⟩ ?_;exact⟨hz,its',n',r,e⟩
inductive IU(o:V)(i:V)(v:V)(H:Hp)(Q:(Hp→Prop)):Prop
 |mk (p:_) (xs:_) (k:_) (j:_) (_:o= .ref p) (_:i= .int k) (_:H p=some (.lst xs)) (_:Ee xs.length k=some j) (_:Q (upd H p (.lst (xs.set j v)))):IU o i v H Q
theorem set_list:Nu X IU:=by
 intro pins s σ H o i v ov iv u Q I ro ri rv h;obtain⟨p,xs,k,j,rfl,rfl,hp,hj,q⟩:=h;cases ro;obtain⟨t,rfl⟩:=ri;obtain⟨its,n,r,ho,hz⟩:=I.lst hp;obtain⟨h1,h2,h3,h4⟩:=Bl hj;have hl:=r.length;have hn:=ny;have I':Inv X pins σ (upd H p (.lst (xs.set j v))) {s with heap:=s.heap.update p (Obj.mapSeq (·.setIfInBounds j u))}:=
  I.Kx hp ho (z9 its n j u) (r.set rv j) (by rw[List.length_set];exact hz) s.toks
 by_cases h0:0≤k
 ·have hk:k.toNat=j:=by
   rw[seqIndex_of h0 h4]at h1;exact ZV h1
  exact PySem.W.ki_setAt ho h0 (Zq) (by rw[List.size_toArray,←hl];exact h4) (by rw[hk];exact⟨_,I',q⟩)
 ·have hk:(k+(its.toArray.size:Int)).toNat=j:=by
   rw[seqIndex_neg (Zq) h3]at h1;rw[List.size_toArray,←hl];exact ZV h1
  exact PySem.W.ki_setBack ho (Zq) (by rw[List.size_toArray,←hl];exact h3) (Zq) (by rw[hk];exact⟨_,I',q⟩)
theorem wC(lo hi:Option Int)(n:Nat):(sliceBounds lo hi none n).1=((HT.j7 n 0 lo:Nat):Int)∧(sliceBounds lo hi none n).2.1=((HT.j7 n n hi:Nat):Int)∧(sliceBounds lo hi none n).2.2=1:=by
 refine⟨?_,?_,rfl⟩
 ·cases lo with
  |none=>simp[sliceBounds,HT.j7]
  |some i=>
   simp only[sliceBounds,HT.j7,Option.getD_none,show(1:Int)>0 by decide,if_true];by_cases h:i<0
   ·simp only[h,if_true]<;>lia
   ·simp only[h,if_false]<;>lia
 ·cases hi with
  |none=>simp[sliceBounds,HT.j7]
  |some i=>
   simp only[sliceBounds,HT.j7,Option.getD_none,show(1:Int)>0 by decide,if_true];by_cases h:i<0
   ·simp only[h,if_true]<;>lia
   ·simp only[h,if_false]<;>lia
theorem uI(its:List Value)(lo hi:Option Int):slicePick its.toArray lo hi none=((its.drop (HT.j7 its.length 0 lo)).take (HT.j7 its.length its.length hi-HT.j7 its.length 0 lo)).toArray:=by
 obtain⟨h1,h2,h3⟩:=wC lo hi its.toArray.size;unfold slicePick;rw[h1,h2,h3];simp only[sliceRange_one,pick_run,List.size_toArray]<;>rfl
inductive Kz(K:PySem.W.Frag)(x:V)(lo:Option Int)(hi:Option Int)(H:Hp)(Q:VK):Prop
 |mk (a:_) (xs:_) (_:x= .ref a) (_:iE K H a xs) (_:∀p,H p=none→Q (.ref p) (upd H p (.lst (wA xs lo hi)))):Kz K x lo hi H Q
theorem GY:Qa X (Kz X.K):=by
 intro pins s σ H x v vl vu lo hi sl Q I rx hs pl pu h;obtain⟨a,xs,rfl,hx,q⟩:=h;cases rx;obtain⟨its,r,ht,hz⟩:=I.list hx;have hlen:=r.length;refine⟨"list",_,slot_list_getitem.lookup,ht.isList.typeIs,?_⟩;refine wpAny_getItem_list_slice ht.isList hs pl pu .none (Wv) ?_ (by rw[List.size_toArray]<;>omega);rw[uI,←hlen];refine⟨.ref s.heap.objs.size,_,I.laid (t':=s.toks) (o:= .lst (wA xs lo hi)) (fun b ob q=>Zp q) (Nat.le_refl _) ?_,rfl,q _ (I.bX.fresh Zn)⟩;exact⟨Nat.le_trans (yx xs lo hi) hz,_,0,(r.drop (HT.j7 xs.length 0 lo)).take (HT.j7 xs.length xs.length hi-HT.j7 xs.length 0 lo),Heap.get?_push_size _ rfl⟩
def iG:V→Bool
 | .cK=>true
 | .bl _=>true
 | .int _=>true
 | .str _=>true
 | _=>false
def nF:V→V→Bool
 | .cK, .cK=>true
 | .bl a, .bl b=>a==b
 | .bl a, .int b=>(if a then 1 else 0)==b
 | .int a, .bl b=>a==(if b then 1 else 0)
 | .int a, .int b=>a==b
 | .str a, .str b=>a==b
 | _,_=>false
theorem sV{A:Around}{s:Shared}{y x:V}{u v:Value}(ry:RelV y u)(rx:RelV x v)(fy:iG y=true)(fx:iG x=true):SeqAt.EqAt A s u v (nF y x):=by
 cases y with
 |cK=>
  cases ry;cases x with
  |cK=>cases rx;exact SeqAt.EqAt.same _
  |bl b=>cases rx;exact SeqAt.EqAt.none_bool b
  |int b=>obtain⟨t,rfl⟩:=rx;exact SeqAt.EqAt.none_int b t
  |str b=>obtain⟨t,rfl⟩:=rx;exact SeqAt.EqAt.none_str b t
  | _=>exact Τ (show false=true from fx)
 |bl a=>
  cases ry;cases x with
  |cK=>cases rx;exact SeqAt.EqAt.bool_none a
  |bl b=>cases rx;exact SeqAt.EqAt.bool_bool a b
  |int b=>obtain⟨t,rfl⟩:=rx;exact SeqAt.EqAt.bool_int a b t
  |str b=>obtain⟨t,rfl⟩:=rx;exact SeqAt.EqAt.bool_str a b t
  | _=>exact Τ (show false=true from fx)
 |int a=>
  obtain⟨t',rfl⟩:=ry;cases x with
  |cK=>cases rx;exact SeqAt.EqAt.int_none a t'
  |bl b=>cases rx;exact SeqAt.EqAt.int_bool a t' b
  |int b=>obtain⟨t,rfl⟩:=rx;exact SeqAt.EqAt.int_int a t' b t
  |str b=>obtain⟨t,rfl⟩:=rx;exact SeqAt.EqAt.int_str a t' b t
  | _=>exact Τ (show false=true from fx)
 |str a=>
  obtain⟨t',rfl⟩:=ry;cases x with
  |cK=>cases rx;exact SeqAt.EqAt.str_none a t'
  |bl b=>cases rx;exact SeqAt.EqAt.str_bool a t' b
  |int b=>obtain⟨t,rfl⟩:=rx;exact SeqAt.EqAt.str_int a t' b t
  |str b=>obtain⟨t,rfl⟩:=rx;exact SeqAt.EqAt.str_str a t' b t
  | _=>exact Τ (show false=true from fx)
 | _=>exact Τ (show false=true from fy)
def Qc(x:V)(u:Value):Bool:=match u with
 | .none=>nF .cK x
 | .bool b=>nF (.bl b) x
 | .int i _=>nF (.int i) x
 | .str z _=>nF (.str z) x
 | _=>false
theorem Eh{x y:V}{u:Value}(r:RelV y u)(f:iG y=true):Qc x u=nF y x:=by
 cases y with
 |cK=>cases r;rfl
 |bl b=>cases r;rfl
 |int i=>obtain⟨t,rfl⟩:=r;rfl
 |str z=>obtain⟨t,rfl⟩:=r;rfl
 | _=>exact Τ (show false=true from f)
theorem yz{A:Around}{s:Shared}{x:V}{v:Value}(rx:RelV x v)(fx:iG x=true):∀{xs:List V}{us:List Value},Vals xs us→xs.all iG=true→∀u∈us,SeqAt.EqAt A s u v (Qc x u)
 | _,_, .nil,_=>fun u hu=>by cases hu
 |y::xs,u::us, .cons r t,f=>fun u' hu=>by
  rw[List.all_cons,Bool.and_eq_true]at f;rcases List.mem_cons.mp hu with rfl|hu
  ·rw[Eh r f.1];exact sV r rx f.1 fx
  ·exact yz rx fx t f.2 u' hu
theorem wD:i6 X (.builtin "len") (fun xs H Q=>∃p ys,xs=[.ref p]∧(iE X.K H p ys∨DT X.K H p ys)∧Q (.int ys.length) H):=by
 intro pins s σ H xs us Q I r h;obtain⟨p,ys,rfl,hq,q⟩:=h;obtain⟨u,rfl,rx⟩:=vals1 r;cases rx;have hn:=ny;rcases hq with hq|hq
 ·obtain⟨its,r',pl,hz⟩:=I.list hq;have hlen:=r'.length;exact Calls.call_len_list pl.isList (by simp only[List.size_toArray]<;>omega) ⟨.int ys.length,H,I.tok _,⟨s.toks+1,by rw[List.size_toArray,hlen]⟩,q⟩
 ·obtain⟨its,r',pl,hz⟩:=I.tuple hq;have hlen:=r'.length;exact len_tuple pl (by simp only[List.size_toArray]<;>omega) ⟨.int ys.length,H,I.tok _,⟨s.toks+1,by rw[List.size_toArray,hlen]⟩,q⟩
theorem oF:i6 X (.builtin "len") (fun xs H Q=>∃z,xs=[.str z]∧z.length≤sizeLine∧Q (.int z.length) H):=by
 intro pins s σ H xs us Q I r h;obtain⟨z,rfl,hz,q⟩:=h;obtain⟨u,rfl,t,rfl⟩:=vals1 r;have hn:=ny;exact len_str (Zq) ⟨.int z.length,H,I.tok _,⟨_,rfl⟩,q⟩
theorem wF:i6 X (.type "list") (fun xs H Q=>∃p ys,xs=[.ref p]∧(iE X.K H p ys∨DT X.K H p ys)∧∀l,H l=none→Q (.ref l) (upd H l (.lst ys))):=by
 intro pins s σ H xs us Q I r h;obtain⟨p,ys,rfl,hq,q⟩:=h;obtain⟨u,rfl,rx⟩:=vals1 r;cases rx;have fin:∀(its:List Value),Vals ys its→ys.length≤sizeLine→∀(h':Heap)(c':Nat),(∀b o',s.heap.get? b=some o'→h'.get? b=some o')→
   h'.get? s.heap.objs.size=some {cls:= .type "list",dict:=none,data:= .seq its.toArray c',slots:=#[]}→EP X pins σ Q (.ref s.heap.objs.size) {s with heap:=h'}:=fun its r' hz h' c' kp e=>
  ⟨.ref s.heap.objs.size,_,I.laid (t':=s.toks) kp Zn (show cQ X.prog X.w _ h' _ (.lst ys)from⟨hz,its,c',r',e⟩),rfl,q _ (I.bX.fresh Zn)⟩
 rcases hq with hq|hq
 ·obtain⟨its,r',pl,hz⟩:=I.list hq;have hlen:=r'.length;obtain⟨o,ho,hc,n,hd⟩:=pl.isList;exact call_list_seq p (.inl rfl) ho hc hd (fun h' c' kp e=>fin its r' hz h' c' kp e) (by simp only[List.size_toArray]<;>omega)
 ·obtain⟨its,r',pl,hz⟩:=I.tuple hq;have hlen:=r'.length;obtain⟨o,ho,hc,n,hd⟩:=pl;exact call_list_seq p (.inr rfl) ho hc hd (fun h' c' kp e=>fin its r' hz h' c' kp e) (by simp only[List.size_toArray]<;>omega)
def RS(K:PySem.W.Frag)(T:String)(x:V)(H:Hp):Prop:=match x with
 | .str _=>T="str"
 | .int _=>T="int"
 | .ref p=>(T="list"∧∃xs,iE K H p xs)∨(T="tuple"∧∃o,K.lookup p=some o∧o.cls= .type "tuple"∧o.dict=none)∨
   (T="dict"∧((∃kvs,H p=some (.dK kvs))∨∃kvs,H p=some (.dT kvs)))∨(T="set"∧∃S n,H p=some (.set S n))
 | _=>False
theorem Ei{pins:List (Addr×Obj)}{σ:St}{H:Hp}{s:Shared}{T:String}{x:V}{v:Value}(I:Inv X pins σ H s)(r:RelV x v)(ty:RS X.K T x H):
  s.TypeIs v T∧∀a,v= .ref a→∃ob,s.heap.get? a=some ob∧ob.dict=none:=by
 cases x with
 |str z=>
  obtain⟨t,rfl⟩:=r;cases(show T="str" from ty);exact⟨typeIs_str s z t,fun _ e=>nomatch e⟩
 |int i=>
  obtain⟨t,rfl⟩:=r;cases(show T="int" from ty);exact⟨typeIs_int s i t,fun _ e=>nomatch e⟩
 |ref p=>
  cases r;rcases ty with⟨rfl,xs,hq⟩|⟨rfl,o,hk,hc,hd⟩|⟨rfl,hk⟩|⟨rfl,S,n,hk⟩
  ·obtain⟨its,_,pl,_⟩:=I.list hq;refine⟨pl.isList.typeIs,fun a e=>?_⟩;cases e;obtain⟨o,n,e,c,hd,_⟩:=pl;exact⟨o,e,hd⟩
  ·refine⟨⟨o,I.qd p o hk,hc⟩,fun a e=>?_⟩;cases e;exact⟨o,I.qd _ o hk,hd⟩
  ·have z:∃o,s.heap.get? p=some o∧o.ExactDict:=by
    rcases hk with⟨kvs,hk⟩|⟨kvs,hk⟩
    ·obtain⟨_,_,_,_,o,_,_,e,ex,_⟩:=I.bX p _ hk;exact⟨o,e,ex⟩
    ·obtain⟨_,_,_,_,o,_,_,e,ex,_⟩:=I.bX p _ hk;exact⟨o,e,ex⟩
   obtain⟨o,e,ex⟩:=z;refine⟨⟨o,e,ex.1⟩,fun a e2=>?_⟩;cases e2;exact⟨o,e,ex.2.1⟩
  ·obtain⟨o,_,_,_,e,ex,_⟩:=I.bX p _ hk;refine⟨⟨o,e,ex.1⟩,fun a e2=>?_⟩;cases e2;exact⟨o,e,ex.2.1⟩
 | _=>exact False.elim ty
def NP(K:PySem.W.Frag)(T:String)(r:V→List V→Hp→VK→Prop)(to:TE):TE:=fun σ H Q=>to σ H fun x H1=>RS K T x H1∧r x [] H1 Q
def UY(K:PySem.W.Frag)(T:String)(r:V→List V→Hp→VK→Prop)(to:TE)(t:TA):TE:=fun σ H Q=>to σ H fun x H1=>RS K T x H1∧t σ H1 fun xs H2=>r x xs H2 Q
variable{o e:Expr}{es:List Expr}{to:TE}{t:TA}{name:Str}{apos eG:Pos}{T id:String}{r:V→List V→Hp→VK→Prop}
theorem KA(pa:PlainAttrs T)(slot:Slot T name id)(DB:typeOf (.builtin id)=pure (.type "method_descriptor"))(hm:Qb X id r)(ho:PE X o to)
  (oG:attributeBase o name X.env (eval o X.env)=eval o X.env:=by rfl) (mZ:(apos.endLine==eG.line)=true:=by rfl):PE X (.Call (.Attribute o name apos) [] [] eG) (NP X.K T r to):=by
 intro pins s σ H Q I h;refine wpAny_Call_method0_late oG mZ (cH (ho pins s σ H _ I h) fun v s1 ⟨x,H1,I1,r1,ty,q1⟩=>?_);obtain⟨h1,h2⟩:=Ei I1 r1 ty;exact⟨T,id,pa,slot,DB,h1,h2,Calls.callWith_builtin rfl (PySem.evalArgs_none (hm pins s1 σ H1 x [] v [] Q I1 r1 .nil q1))⟩
theorem NQ(pa:PlainAttrs T)(slot:Slot T name id)(DB:typeOf (.builtin id)=pure (.type "method_descriptor"))(hm:Qb X id r)(ho:PE X o to)(ha:PA X (e::es) t)
  (oG:attributeBase o name X.env (eval o X.env)=eval o X.env:=by rfl)
  (Ej:((backTo eG (starEach (e::es) X.env)).all (fun x=>!x.1)&&(backToKw eG (keywordEach [] X.env)).all (fun x=>x.1.isSome)
   &&decide ((e::es).length+([]:List Keyword).length+(if ([]:List Keyword).isEmpty then 0 else 1)<30))=true:=by rfl)
  (mZ:(apos.endLine==eG.line)=true:=by rfl) (hs:starEach (e::es) X.env=(false,eval e X.env)::starEach es X.env:=by rfl) (z_:(backTo eG (starEach es X.env)).any (·.1)=false:=by rfl):
  PE X (.Call (.Attribute o name apos) (e::es) [] eG) (UY X.K T r to t):=by
 intro pins s σ H Q I h;refine wpAny_Call_method_late oG Ej mZ rfl (cH (ho pins s σ H _ I h) fun v s1 ⟨x,H1,I1,r1,ty,q1⟩=>?_);obtain⟨h1,h2⟩:=Ei I1 r1 ty;refine⟨T,id,pa,slot,DB,h1,h2,?_⟩;have hA:=ha eG pins s1 σ H1 _ I1 q1;rw[hs]at hA⊢;refine Calls.callWith_builtin (by show(false||(backTo eG (starEach es X.env)).any (·.1))=false;rw[z_]<;>rfl) (Calls.evalArgs_plain ?_);exact cH hA fun us s2 ⟨vs,H2,I2,r2,q2⟩=>hm pins s2 σ H2 x vs v us Q I2 r1 r2 q2
end
def Qd(X:Cx)(id:String)(r:V→List V→Hp→VK→Prop):Prop:=
 ∀(pins:List (Addr×Obj))(s:Shared)(σ:St)(H:Hp)(x:V)(xs:List V)(v:Value)(us:List Value)(Q:VK),Inv X pins σ H s→RelV x v→Vals xs us→r x xs H Q→
  wpAny (model X.prog X.w) X.A (call (.builtin id) (v::us)) (EP X pins σ Q) X.xe s
theorem Vals.one:∀{x:V}{us:List Value},Vals [x] us→∃u,us=[u]∧RelV x u
 | _,_, .cons r .nil=>⟨_,rfl,r⟩
theorem Vals.zero:∀{us:List Value},Vals [] us→us=[]
 | _, .nil=>rfl
theorem Vals.reverse{xs:List V}{us:List Value}(h:Vals xs us):Vals xs.reverse us.reverse:=by
 induction h with
 |nil=>exact .nil
 |cons r t ih=>rw[List.reverse_cons,List.reverse_cons];exact Vals.append ih (.cons r .nil)
theorem Vals.rep{xs:List V}{us:List Value}(h:Vals xs us):∀k:Nat,Vals (List.replicate k xs).flatten (List.replicate k us).flatten
 |0=> .nil
 |k+1=>by
  rw[List.replicate_succ,List.replicate_succ,List.flatten_cons,List.flatten_cons];exact Vals.append h (Vals.rep h k)
theorem foldl_rep(its:List Value):∀(k:Nat)(acc:List Value),
  List.foldl (fun x1 x2=>x1++x2) acc.toArray (List.replicate k its.toArray)=(acc++(List.replicate k its).flatten).toArray
 |0,acc=>Wv
 |k+1,acc=>by
  have e:acc.toArray++its.toArray=(acc++its).toArray:=Wv;have e2:(acc++its)++(List.replicate k its).flatten=acc++(List.replicate (k+1) its).flatten:=by
   rw[List.replicate_succ,List.flatten_cons,List.append_assoc]
  rw[←e2,←foldl_rep its k (acc++its),←e,List.replicate_succ,List.foldl_cons]
section
variable{X:Cx}{pins:List (Addr×Obj)}{σ:St}{H:Hp}{s:Shared}{l b:Addr}{xs ys zs:List V}
theorem Inv.KC{its its':List Value}{n:Nat}{f:Array Value→Array Value}{t':Nat}(I:Inv X pins σ H s)(hH:H l=some (.lst xs))
  (e:s.heap.get? l=some {cls:= .type "list",data:= .seq its.toArray n}) (hf:f its.toArray=its'.toArray) (hv:Vals ys its') (hz:ys.length≤sizeLine):
  Inv X pins σ (upd H l (.lst ys)) {s with heap:=s.heap.update l (Obj.mapSeq f),toks:=t'}:=by
 have q:=PySem.IsL.update e f;rw[hf]at q;refine I.write (x:=l) (e:=l) (by rw[hH];exact trivial) (.inl rfl) (fun b' u hb hu=>(Heap.get?_update_other s.heap (Obj.mapSeq f) (Ne.symm hb)).trans hu) ⟨_,q⟩ ?_;exact⟨hz,its',_,hv,q⟩
theorem Inv.NR{its:List Value}{t':Nat}(I:Inv X pins σ H s)(hv:Vals ys its)(hz:ys.length≤sizeLine):
  Inv X pins σ (upd H s.heap.objs.size (.lst ys)) {s with heap:=s.heap.push {cls:= .type "list",data:= .seq its.toArray},toks:=t'}:=
 I.laid (fun _ _ q=>Zp q) (Nat.le_refl _) ⟨hz,its,0,hv,Heap.get?_push_size _ rfl⟩
theorem Inv.fresh(I:Inv X pins σ H s):H s.heap.objs.size=none:=I.bX.fresh Zn
theorem Inv.yA(I:Inv X pins σ H s)(hH:H l=some (.lst xs)):xs.length≤sizeLine∧∃(its:List Value)(n:Nat),Vals xs its∧xs.length=its.length∧s.heap.get? l=some {cls:= .type "list",data:= .seq its.toArray n}:=by
 obtain⟨z,its,n,r,e⟩:=I.bX l _ hH;exact⟨z,its,n,r,r.length,e⟩
theorem yB{n:Nat}(h:n≤sizeLine):Builtin.List.listTooLong n=false:=by
 unfold Builtin.List.listTooLong;exact decide_eq_false (Zq)
end
section
variable{X:Cx}
inductive Bm(x:V)(vs:List V)(H:Hp)(Q:VK):Prop
 |mk (l:_) (xs:_) (y:_) (_:x= .ref l) (_:vs=[y]) (_:H l=some (.lst xs)) (_:xs.length<sizeLine) (_:Q .cK (upd H l (.lst (xs++[y])))):Bm x vs H Q
theorem bQ:Qd X "list.append" Bm:=by
 intro pins s σ H x vs v us Q I rx rv h;obtain⟨l,xs,y,rfl,rfl,hH,hz,q⟩:=h;cases rx;obtain⟨u,rfl,ru⟩:=rv.one;obtain⟨z,its,n,r,hl,e⟩:=I.yA hH;refine call_meets F.slot_list_append ⟨_,e,rfl⟩ F.entry_list_append (F.args_list_append_2 _ _) (PySem.list_append l its.toArray n u (by rw[List.size_toArray];omega)) ⟨e,?_⟩;refine⟨.cK,_,I.KC (its':=its++[u]) hH e V9 (r.append (.cons ru .nil)) ?_,rfl,q⟩;rw[List.length_append,List.length_singleton];omega
def GZ:V→List V→Hp→VK→Prop:=fun x vs H Q=>∃l b xs zs,x= .ref l∧vs=[.ref b]∧H l=some (.lst xs)∧H b=some (.lst zs)∧xs.length+zs.length≤sizeLine∧Q .cK (upd H l (.lst (xs++zs)))
theorem vH:Qd X "list.extend" GZ:=by
 intro pins s σ H x vs v us Q I rx rv h;obtain⟨l,b,xs,zs,rfl,rfl,hH,hB,hz,q⟩:=h;cases rx;obtain⟨u,rfl,ru⟩:=rv.one;cases ru;obtain⟨z,its,n,r,hl,e⟩:=I.yA hH;obtain⟨z2,dS,n2,r2,uJ,e2⟩:=I.yA hB;have hsz:its.toArray.size+dS.toArray.size≤sizeLine:=by rw[List.size_toArray,List.size_toArray];omega
 have Ek:¬(!its.toArray.isEmpty&&Builtin.List.listTooLong (its.toArray.size+dS.toArray.size))=true:=by
  rw[yB hsz,Bool.and_false];exact Bool.false_ne_true
 refine call_meets F.slot_list_extend ⟨_,e,rfl⟩ F.entry_list_extend (F.args_list_extend_2 _ _)
  (AutoSeq1.list_extend_list_list_0 l its.toArray n b dS.toArray n2 Ek (by rw[List.size_toArray];omega) (Zq)) ⟨e,e2,?_⟩
 refine⟨.cK,_,I.KC (its':=its++dS) hH e V9 (r.append r2) ?_,rfl,q⟩;rw[List.length_append];omega
def El:V→List V→Hp→VK→Prop:=fun x vs H Q=>∃l xs,x= .ref l∧vs=[]∧H l=some (.lst xs)∧Q .cK (upd H l (.lst xs.reverse))
theorem Aa:Qd X "list.reverse" El:=by
 intro pins s σ H x vs v us Q I rx rv h;obtain⟨l,xs,rfl,rfl,hH,q⟩:=h;cases rx;have RT:=rv.zero;subst RT;obtain⟨z,its,n,r,hl,e⟩:=I.yA hH;refine call_meets F.slot_list_reverse ⟨_,e,rfl⟩ F.entry_list_reverse (F.args_list_reverse_1 _) (AutoSeq1.list_reverse_list_0 l its.toArray n (by rw[List.size_toArray];omega)) ⟨e,?_⟩;refine⟨.cK,_,I.KC (its':=its.reverse) hH e V9 r.reverse ?_,rfl,q⟩;rw[List.length_reverse];omega
inductive NU(x:V)(y:V)(H:Hp)(Q:VK):Prop
 |mk (l:_) (b:_) (xs:_) (zs:_) (_:x= .ref l) (_:y= .ref b) (_:H l=some (.lst xs)) (_:H b=some (.lst zs)) (_:xs.length+zs.length≤sizeLine) (_:∀p,H p=none→Q (.ref p) (upd H p (.lst (xs++zs)))):NU x y H Q
theorem KD:rl X (binaryOp .Add) NU:=by
 intro pins s σ H x y v u Q I rx ry h;obtain⟨l,b,xs,zs,rfl,rfl,hH,hB,hz,q⟩:=h;cases rx;cases ry;obtain⟨z,its,n,r,hl,e⟩:=I.yA hH;obtain⟨z2,dS,n2,r2,uJ,e2⟩:=I.yA hB;refine PySem.P.add_list e e2 ?_ (by rw[List.size_toArray,List.size_toArray];omega);have ea:its.toArray++dS.toArray=(its++dS).toArray:=Wv;rw[ea];exact⟨.ref _,_,I.NR (t':=s.toks) (r.append r2) (by rw[List.length_append];omega),rfl,q _ I.fresh⟩
def RU:R2:=fun x y H Q=>∃l k xs,x= .ref l∧y= .int k∧H l=some (.lst xs)∧-(2^63)≤k∧k<2^63∧xs.length*k.toNat≤sizeLine∧
 ∀p,H p=none→Q (.ref p) (upd H p (.lst (List.replicate k.toNat xs).flatten))
theorem len_rep{α:Type}(xs:List α)(k:Nat):(List.replicate k xs).flatten.length=k*xs.length:=by
 induction k with
 |zero=>simp
 |succ k ih=>rw[List.replicate_succ,List.flatten_cons,List.length_append,ih,Nat.succ_mul,Nat.add_comm]
theorem KG:rl X (binaryOp .Mult) RU:=by
 intro pins s σ H x y v u Q I rx ry h;obtain⟨l,k,xs,rfl,rfl,hH,h1,h2,hz,q⟩:=h;cases rx;obtain⟨t,rfl⟩:=ry;obtain⟨z,its,n,r,hl,e⟩:=I.yA hH;have hlen:its.toArray.size*k.toNat≤sizeLine:=by rw[List.size_toArray,←hl];exact hz
 have RV:¬its.toArray.size*k.toNat>(2^63-1)/8:=by
  have:(sizeLine:Nat)≤(2^63-1)/8:=U7;omega
 have RW:¬(!Builtin.List.listFitsIndex k)=true:=by
  rw[fitsIndex_both h1 h2];exact Bool.false_ne_true
 have Ek:¬Builtin.List.listTooLong (its.toArray.size*k.toNat)=true:=by
  rw[yB hlen];exact Bool.false_ne_true
 have Ct:List.foldl (fun x1 x2=>x1++x2) #[] (List.replicate (if its.toArray.isEmpty=true then 0 else k.toNat) its.toArray)=(List.replicate k.toNat its).flatten.toArray:=by
  have f0:∀m:Nat,List.foldl (fun x1 x2=>x1++x2) #[] (List.replicate m its.toArray)=(List.replicate m its).flatten.toArray:=fun m=>by
   have:=foldl_rep its m [];rw[List.nil_append]at this;exact this
  rw[f0];cases its with
  |nil=>simp
  |cons a r'=>rw[if_neg V9]
 refine wpAny_binaryOp_repeat_ref (T:="list") (U:="int") (U7) ⟨_,e,rfl⟩ (fun s'=>typeIs_int s' k t) noFill_list_mul F.fills_int_mul F.slot_int_rmul repeat_list F.slot_int_index.lookup
  (call_meets F.slot_int_rmul (typeIs_int s k t) F.entry_int_rmul (F.args_int_rmul_2 _ _) (int___rmul___int_list k t l its.toArray n)
   ⟨e,rfl,⟨_,e,rfl⟩,call_meets F.slot_list_mul ⟨_,e,rfl⟩ F.entry_list_mul (F.args_list_mul_2 _ _) (AutoListH.list___mul___list_int_3 l its.toArray n k t RW RV Ek) ⟨e,?_⟩⟩)
 rw[Ct];exact⟨.ref _,_,I.NR (t':=s.toks) (r.rep k.toNat) (by rw[len_rep,Nat.mul_comm];exact hz),rfl,q _ I.fresh⟩
end
section
variable{prog:Program}{w:World}{A:Around}{E:Value→Shared→Prop}{s:Shared}
end
section
variable{X:Cx}
end
end L2
namespace UZ
open PySem PySem.W PySem.Calls PyProof.Rows
theorem rQ{P:Params}{h:Heap}:∀(ns:List Int)(vs:List Value),WellAll P h vs (ns.map WData.int)→IntsAre vs ns:=by
 intro ns
 induction ns with
 |nil=>
  intro vs w;rw[List.map_nil]at w;cases w;exact .nil
 |cons n ns ih=>
  intro vs w;rw[List.map_cons]at w;cases w with
  |cons a b=>
   cases a;exact .cons _ _ (ih _ b)
theorem Cu{l:OpenLaw}{n:Nat}(hn:l.most=some n){P:Params}{h:Heap}{args:List WData}{vals:List Value}
  (G0:l.row.toRowW.claim.pre args=true) (NV:WellAll P h vals args):
  ∃a vs ns,vals=[Value.ref a]∧args=[WData.list (ns.map WData.int)]∧h.get? a=some {cls:= .type "list",data:= .seq vs.toArray}∧IntsAre vs ns∧ns.length≤n:=by
 have NW:WShape.hasAll [] args [.list .int]=true:=(pre_splitW G0).1;have hc:l.pre.holds [] {args:=args}=true:=(pre_splitW G0).2;obtain⟨d,r,rfl,h1,h2⟩:=hasAllW_cons NW;obtain rfl:=hasAllW_nil h2;obtain⟨xs,rfl,h3⟩:=hasW_list h1;obtain⟨ns,rfl⟩:=items_int h3;have hlen:ns.length≤n:=by
  unfold OpenLaw.pre at hc;have h4:(WTm.not (.lt (.lit (.int (n:Int))) (.len (.arg 0)))).holds [] {args:=[.list (ns.map .int)]}=true:=by
   have h4:=(holds_andW hc).1;rw[hn]at h4;exact h4
  have h5:=condW_of h4 (w_not (w_lt w_lit (w_len_list (w_arg rfl))));rw[List.length_map]at h5;refine Nat.le_of_not_lt fun q=>?_
  have q':(n:Int)<((ns.length:Nat):Int):=Zq;first
   |(rw[decide_eq_true q']at h5;exact absurd h5 (U7))
   |(simp at h5;omega)
 cases NV with
 |cons w1 w2=>
  cases w2;cases w1 with
  |list ho RX=>exact⟨_,_,ns,rfl,rfl,ho,rQ ns _ RX,hlen⟩
theorem Cv(l:OpenLaw)(args:List WData):l.row.toRowW.claim.post args (.bool true) args=true:=
 postW_of (r:=l.row.toRowW) (X:=(true==true))
  (show WShape.has [] (.bool true) .bool=true by first|rfl|decide|simp[WShape.has,WShape.arms,WShape.armsAll])
  (show(WTm.eq .res (.lit (.bool true))).value [] {args:=args,res:=some (.bool true),after:=args}=some (.bool (true==true))from w_eq_bool (w_res rfl) w_lit) rfl
theorem yC{l:OpenLaw}{n:Nat}{q:Program}{loose:List Str}{XP:(Str→Option Value)→Heap→Prop}{YP:World→Heap→Prop}{d:DefRec}
  (hn:l.most=some n) (NX:d.params.defaults=[])
  (call:∀(w:World)(dD ck:Shared)(mg mb:Str→Option Value)(fa:Addr)(o:Obj)(pm cd doc:Value)(a:Addr)(vs:List Value)(ns:List Int),
   Ground q loose [] XP w dD mg mb ck.heap→YP w ck.heap→
   ck.heap.get? fa=some o→o.data= .func (docDef d.name d.params d.body d.scope pm cd doc)→ck.heap.CodeRec cd d.name→mg d.name=some (.ref fa)→
   ck.heap.get? a=some {cls:= .type "list",data:= .seq vs.toArray}→IntsAre vs ns→ns.length≤n→ck.gens=#[]→
   codeAny (model l.prog w) callerA (.call (.ref fa) ⟨[.ref a],[]⟩) (fun r s'=>r= .ok (.ret (.bool true))∧OldK ck.heap s'.heap∧s'.os=ck.os∧AllBare s'.gens) ck):
  WalkO q loose XP YP l.row.toRowW d [] (fun f vs=>PySem.call f vs):=by
 intro w dD ck mg mb G Y fa o pm cd doc dV kV ho hd Cf hD NY hg args vals as G0 aae aad NV Mv;obtain rfl:dV= .none:=Dflts.none hD NX;obtain rfl:kV= .none:=Dflts.noKw hD;obtain⟨a,vs,ns,rfl,rfl,KH,hints,hlen⟩:=Cu hn G0 NV;refine enter_call (codeAny_mono (call w dD ck mg mb fa o pm cd doc a vs ns G Y ho (fd_plain hd) Cf NY KH hints hlen hg) fun r s' hq=>?_);obtain⟨rfl,h2,h3,h4⟩:=hq;exact⟨.inl ⟨.bool true, .bool true,[],rfl,fun _=>rfl, .bool true,Cv l _,fun _=>⟨List.Pairwise.nil,fun _ hm=>(nomatch hm)⟩⟩,h2,h3,h4⟩
section
variable{prog:Program}{w:World}{A:Around}{E:Value→Shared→Prop}{s:Shared}{K:Frag}
def ledger(h:Heap)(L d:Addr):List (Addr×Obj):=(Zj h.objs.size).filterMap fun a=>if a=L∨a=d then none else(h.get? a).map fun o=>(a,o)
end
end UZ
namespace L2
open PySem PySem.Spec PyProof.Rows
theorem vI:∀{vs:List Value}{ns:List Int},IntsAre vs ns→Vals (ns.map V.int) vs
 | _,_, .nil=> .nil
 | _,_, .cons n t h=> .cons ⟨t,rfl⟩ (vI h)
def KI(H:Hp):Prop:=∀b,H b=none∨∃o xs,H b=some (.so o (.lst xs))
theorem Em{cm:Bool}{P:Program}{w:World}{K:PySem.W.Frag}{mg mb:Str→Option Value}{CX:D7}{k:Nat}{fa a:Addr}{fd:FuncData}{x:Str}{sp:Sp}{ck:Shared}{vs:List Value}{ns:List Int}
  (KX:K.In ck.heap) (Qe:ck.heap.Ns mainGlobals mg) (hb:ck.heap.Ns builtinsNs mb) (WY:∀x:Str,x≠"__name__"→mb x=bootBuiltins x) (RY:ck.heap.NoLimit) (hg:ck.gens=#[])
  (ha:ck.heap.get? a=some {cls:= .type "list",data:= .seq vs.toArray}) (hi:IntsAre vs ns) (hl:ns.length≤sizeLine) (hr:eV cm k callerA)
  (F:∀base:Heap,K.In base→base.Ns mainGlobals mg→a7 P w K mg base CX cm k fa fd [x] sp) (NZ:∀(s:Shared)(u:Value),BindsTo s fd ⟨[u],[]⟩ [(x,u)])
  (Gh:∀H:Hp,KI H→iE K H a (ns.map V.int)→sp [.ref a] H (fun v _=>v= .bl true) fun _ _ _=>False)
  (RZ:∀H e s',CX [] H ck (fun _ _ _=>False) e s'→False):
  codeAny (model P w) callerA (.call (.ref fa) ⟨[.ref a],[]⟩) (fun r s'=>r= .ok (.ret (.bool true))∧OldK ck.heap s'.heap∧s'.os=ck.os∧AllBare s'.gens) ck:=by
 have rv:=vI hi;have R0:=hi.length;have core:∀H:Hp,KI H→iE K H a (ns.map V.int)→lD P w H ck.heap→(∀b,H b≠none→b=a)→(H a≠none→K.lookup a=none)→
   codeAny (model P w) callerA (.call (.ref fa) ⟨[.ref a],[]⟩) (fun r s'=>r= .ok (.ret (.bool true))∧OldK ck.heap s'.heap∧s'.os=ck.os∧AllBare s'.gens) ck:=by
  intro H hO hS bX hA hK;have Bn:∀{b:Addr}{o:Obj},ck.heap.get? b=some o→H b=none→(we ck.heap H).get? b=some o:=fun e n=>DR e n
  have NH:∀{b:Addr}{o:Obj}{es:Array DictEntry}{ep:Nat},ck.heap.get? b=some o→o.data= .dict es ep→H b=none:=fun{b o es ep} e d=>by
   cases q:H b with
   |none=>rfl
   |some u=>
    have e':b=a:=hA b (by rw[q];simp);subst e';rw[ha]at e;cases e;have d':Data.seq vs.toArray _=Data.dict es ep:=d;cases d'
  have Qf:∀{b:Addr}{m:Str→Option Value},ck.heap.Ns b m→(we ck.heap H).Ns b m:=fun{b m} ⟨o,es,ep,e,d,r⟩=>⟨o,es,ep,Bn e (NH e d),d,r⟩
  have U0:K.In (we ck.heap H):=fun b o e=>Bn (KX b o e) (by
   cases q:H b with
   |none=>rfl
   |some u=>
    have e':b=a:=hA b (by rw[q];simp);subst e';rw[hK (by rw[q];simp)]at e;cases e)
  have hM:Mod K mg (we ck.heap H):=⟨U0,Qf Qe,⟨mb,Qf hb,WY⟩,let ⟨mc,h1,h2⟩:=RY;⟨mc,Qf h1,h2⟩⟩
  have e0:zW P w K mg (we ck.heap H) callerA [] ck H:=⟨rfl,hM,fun b o e=>GA e,Nat.le_of_eq (Cd _ _),trivial,fun b hb=>absurd (show b∈([]:List Addr)from hb) (Wv),bX, .of_eq hg⟩
  refine codeAny_mono ((F _ U0 (Qf Qe)).run callerA [] ck H ⟨[.ref a],[]⟩ [.ref a] [.ref a] _ _ hr e0 (NZ ck (.ref a)) (.cons rfl .nil) (Gh H hO hS)) fun r s' h=>?_
  cases r with
  |error e=>exact(RZ H e s' h).elim
  |ok fl=>
   cases fl with
   |next=>exact False.elim h
   |brk=>exact False.elim h
   |cont=>exact False.elim h
   |ret u=>
    obtain⟨v,H',os,bare,un,R1,r',q⟩:=h;have q':v= .bl true:=q;subst q';obtain rfl:u=Value.bool true:=r';refine⟨rfl,OldK.of_keep fun b o e=>?_,os,bare⟩;cases q:H b with
    |none=>exact un.keep b o e q (by intro z;exact absurd (show b∈([]:List Addr)from z) (Wv)) (Wv)
    |some u=>
     rcases hO b with z|⟨ob,xs,z⟩
     ·rw[q]at z;cases z
     ·have z2:=un.ow b ob _ z;obtain⟨e1,_⟩:=bX b _ z;obtain⟨e2,_⟩:=R1 b _ z2;rw[e]at e1;cases e1;exact e2
 cases hk:K.lookup a with
 |some o=>
  have e:=KX a o hk;rw[ha]at e;cases e;refine core (fun _=>none) (fun _=> .inl rfl) (.inr ⟨_,vs.toArray,_,hk,rfl,rfl,rfl,by rw[List.size_toArray,R0];exact hl,by simpa using rv⟩) (fun b u z=>by have z':(none:Option HO)=some u:=z;cases z') (fun b z=>absurd rfl z) fun z=>absurd rfl z
 |none=>
  refine core (fun b=>if b=a then some (.so {cls:= .type "list",data:= .seq vs.toArray} (.lst (ns.map V.int)))else none) (fun b=>?_) (.inl (.inr ⟨{cls:= .type "list",data:= .seq vs.toArray},if_pos rfl⟩)) (fun b u z=>?_) (fun b z=>?_) fun _=>hk
  ·by_cases hb:b=a
   ·exact .inr ⟨_,_,U6 hb⟩
   ·exact .inl (Sn hb)
  ·by_cases hb:b=a
   ·have z':=(U6 hb).symm.trans z;cases z';subst hb;exact⟨ha,by rw[List.length_map];exact hl,vs,_,rv,ha⟩
   ·have z':=(Sn hb).symm.trans z;cases z'
  ·by_cases hb:b=a
   ·exact hb
   ·exact ZE (Sn hb) z
theorem G6{cm:Bool}{l:PySem.W.OpenLaw}{n k:Nat}{q:Program}{loose:List Str}{XP:(Str→Option Value)→Heap→Prop}{YP:World→Heap→Prop}{d:DefRec}{K:Params→PySem.W.Frag}{CX:World→D7}{sp:World→Sp}{x:Str}
  (hn:l.most=some n) (ya:n≤sizeLine) (NX:d.params.defaults=[]) (hr:eV cm k callerA)
  (hY:∀(w:World)(h:Heap),YP w h→(K w.params).In h)
  (F:∀(w:World)(mg:Str→Option Value)(fa:Addr)(h:Heap),(K w.params).In h→h.Ns mainGlobals mg→mg d.name=some (.ref fa)→
   ∃fd:FuncData,(∀(s:Shared)(u:Value),BindsTo s fd ⟨[u],[]⟩ [(x,u)])∧
    ∀base:Heap,(K w.params).In base→base.Ns mainGlobals mg→a7 l.prog w (K w.params) mg base (CX w) cm k fa fd [x] (sp w))
  (Gh:∀(w:World)(H:Hp)(a:Addr)(ns:List Int),ns.length≤n→KI H→iE (K w.params) H a (ns.map V.int)→sp w [.ref a] H (fun v _=>v= .bl true) fun _ _ _=>False)
  (RZ:∀(w:World)(H:Hp)(s:Shared)(e:Value)(s':Shared),CX w [] H s (fun _ _ _=>False) e s'→False):
  PySem.W.WalkO q loose XP YP l.row.toRowW d [] (fun f vs=>PySem.call f vs):=by
 refine UZ.yC hn NX fun w dD ck mg mb fa o pm cd doc a vs ns G Y ho hd Cf NY KH hints hlen hg=>?_
 have KX:=hY w _ Y;obtain⟨fd,hb,hF⟩:=F w mg fa _ KX G.T.g NY;exact Em KX G.T.g G.T.b G.T.builtins G.T.nolimit hg KH hints (Nat.le_trans hlen ya) hr hF hb (fun H hO hS=>Gh w H a ns hlen hO hS) fun H e s'=>RZ w H ck e s'
def inClass(s:Stmt)(j:Nat):Stmt:=match s with
 | .ClassDef _ _ _ body _ _ _ _ _ _ _=>body.getD j (.Pass ⟨0,0,0,0⟩)
 | _=> .Pass ⟨0,0,0,0⟩
def fK(s:Stmt):Arguments:=match s with
 | .FunctionDef _ a _ _ _ _ _ _ _ _=>a
 | _=>{posonlyargs:=[],args:=[],vararg:=none,kwonlyargs:=[],kw_defaults:=[],kwarg:=none,defaults:=[]}
def eL(s:Stmt):List Stmt:=match s with
 | .FunctionDef _ _ b _ _ _ _ _ _ _=>b
 | _=>[]
def ar(s:Stmt):Scope:=match s with
 | .FunctionDef _ _ _ _ _ _ sc _ _ _=>sc
 | _=>{kind:= .function,names:=[],isGenerator:=false,isCoroutine:=false}
abbrev E0:XK:=fun _ _ _=>False
structure jw(K:PySem.W.Frag)(x qual:Str)(st:Stmt)(f:Addr)(fd:FuncData):Prop where
 ex:∃(oc:Value)(od:Option Addr)(kV doc pm:Value)(an:Option Addr)(bS ct:Value)(Bj:Array (Option Value)),
  fd=PySem.W.fnOf x qual (fK st) (eL st) (ar st) .none kV doc pm an bS ct∧K.lookup f=some ⟨oc,od, .func fd,Bj⟩∧PySem.W.codeIn K bS qual=true
 kp:PySem.W.keepIn K (.ref f)=true
section
variable{P:Program}{w:World}{K:PySem.W.Frag}{mg:Str→Option Value}{base:Heap}
theorem jw.binds{x qual:Str}{st:Stmt}{f:Addr}{fd:FuncData}{ps:List Str}(F:jw K x qual st f fd)
  (h:∀(kV doc pm:Value)(an:Option Addr)(bS ct:Value)(us:List Value),us.length=ps.length→bindArgs (PySem.W.fnOf x qual (fK st) (eL st) (ar st) .none kV doc pm an bS ct) ⟨us,[]⟩=pure (ps.zip us)):Binds K fd ps []:=by
 obtain⟨oc,od,kV,doc,pm,an,bS,ct,Bj,rfl,lk,Cf⟩:=F.ex;exact .all (h kV doc pm an bS ct)
theorem En{x qual:Str}{st:Stmt}{f:Addr}{oc:Value}{od an:Option Addr}{Bj:Array (Option Value)}{kV doc pm bS ct:Value}(l:K.lookup f=some ⟨oc,od, .func (PySem.W.fnOf x qual (fK st) (eL st) (ar st) .none kV doc pm an bS ct),Bj⟩)
  (c:PySem.W.codeIn K bS qual=true) (k:PySem.W.keepIn K (.ref f)=true):jw K x qual st f (PySem.W.fnOf x qual (fK st) (eL st) (ar st) .none kV doc pm an bS ct):=⟨⟨oc,od,kV,doc,pm,an,bS,ct,Bj,rfl,l,c⟩,k⟩
end
section
variable{X:Cx}
theorem pv(i:Nat){x:Str}{pos:Pos}(hN:X.N[i]?=some x:=by rfl)(hv:Ro X.env.scope x:=by first|exact Or.inl rfl|exact Or.inr (Or.inl rfl)|exact Or.inr (Or.inr rfl))(hd:(x==("__debug__":Str))=false:=by decide)
  (Cf:(x==("__classdict__":Str))=false:=by decide):PE X (.Name x pos) (J6 i):=J7 hN hv hd Cf
end
theorem f_{A B:Prop}(h:B):if false=true then A else B:=by
 rw[Sn Bool.false_ne_true];exact h
theorem jV{A B:Prop}(h:A):if true=true then A else B:=by
 rw[if_pos rfl];exact h
theorem bf{c A B:Prop}[Decidable c](h1:c→A)(h2:¬c→B):if c then A else B:=by
 by_cases h:c
 ·rw[U6 h];exact h1 h
 ·rw[Sn h];exact h2 h
def ax(H H':Hp):Prop:=∀b o,H b=some o→H' b=some o
theorem ax.refl(H:Hp):ax H H:=fun _ _ h=>h
theorem ax.trans{H H1 H2:Hp}(a:ax H H1)(b:ax H1 H2):ax H H2:=fun c o h=>b c o (a c o h)
theorem ax.free{H H':Hp}(e:ax H H'){l:Addr}(h:H' l=Option.none):H l=Option.none:=by
 cases q:H l with
 |none=>rfl
 |some o=>
  rw[e l o q]at h;cases h
theorem ax.seq{K:PySem.W.Frag}{H H':Hp}{a:Addr}{xs:List V}(e:ax H H')(h:iE K H a xs):iE K H' a xs:=by
 rcases h with(h|⟨o,h⟩)|h
 ·exact .inl (.inl (e _ _ h))
 ·exact .inl (.inr ⟨o,e _ _ h⟩)
 ·exact .inr h
section
variable{κ:Type}[DecidableEq κ]
theorem yD{kvs:List (κ×V)}{k:κ}(h:bx kvs k=none):¬k∈kvs.map (·.1):=by
 intro m;obtain⟨p,hp,e⟩:=List.mem_map.mp m;have q:(kvs.any fun kv=>decide (kv.1=k))=true:=List.any_eq_true.mpr ⟨p,hp,decide_eq_true e⟩;rw[ij,h]at q;exact absurd q V9
theorem Bo{kvs:List (κ×V)}{k:κ}{v:V}(h:bx kvs k=some v):k∈kvs.map (·.1):=by
 have q:(kvs.any fun kv=>decide (kv.1=k))=true:=by
  rw[ij,h];all_goals rfl
 obtain⟨p,hp,e⟩:=List.any_eq_true.mp q;exact List.mem_map.mpr ⟨p,hp,of_decide_eq_true e⟩
end
end L2
namespace L2
open PySem PySem.Spec PyProof.Rows PySem.W
def cW(P:Program)(w:World):D7:=fun outer H s E e s'=>
 ∃(ea:Addr)(cls a0:Value)(B:Heap)(H':Hp),e= .ref ea∧s'.os=s.os∧AllBare s'.gens∧Heap.FlyingW B outer ea cls a0 s'.heap∧
  Un (ot outer) [] H H' s.heap s'.heap∧lD P w H' B∧(∀b o,s.heap.get? b=some o→H b=none→b∉ot outer→B.get? b=some o)∧(∀b o,s.heap.get? b=some o→b∉ot outer→∃o',B.get? b=some o')∧E cls none H'
theorem aO{P:Program}{w:World}{X:Cx}:Passes (cW P w) X (fun _=>E0):=fun _ _ _ _ _ _ _ ⟨_,_,_,_,_,_,_,_,_,_,_,_,_,h⟩=>h.elim
structure Qg(X:Cx)(E:St→XK):Prop where
 raise:∀(pins:List (Addr×Obj))(σ:St)(H:Hp)(s:Shared)(h':Heap)(e:Addr)(cls:Value)(args:List Value),Inv X pins σ H s→Heap.MadeExcOf s.heap h' e cls args→E σ cls none H→X.xe (.ref e) {s with heap:=h'}
 pass:Passes (cW X.prog X.w) X E
 own:PassesOwn (model X.prog X.w) X.A X.env X.xe
theorem lD.hide{P:Program}{w:World}{H:Hp}{h:Heap}{as:List Addr}(ok:lD P w H h)(hf:∀b∈as,H b=none):lD P w H (hideAll h as):=fun a o e=>
 (ok a o e).wc (fun b u hb q=>hideAll_get _ q fun hm=>by
  rcases hb with rfl|hb
  ·rw[hf _ hm]at e;cases e
  ·rw[hf _ hm]at hb;cases hb) (fun b q=>q) fun b xs q=>q
section
variable{P:Program}{w:World}{K:PySem.W.Frag}{mg:Str→Option Value}{base:Heap}{N:List Str}{qual:Str}{scope:Scope}{f:Addr}{cd:Value}{A:Around}{outer:List Env}{s:Shared}{H:Hp}{E:XK}{cm:Bool}
theorem Ab{P:Program}{w:World}{H:Hp}{h:Heap}{a:Addr}{o:HO}(x:cQ P w H h a o):∃q,h.get? a=some q:=by
 cases o with
 |lst xs=>obtain⟨_,its,n,_,e⟩:=x;exact⟨_,e⟩
 |tup xs=>obtain⟨_,its,_,o,e,_⟩:=x;exact⟨_,e⟩
 |dK kvs=>obtain⟨_,_,vs,_,o,es,ep,e,_⟩:=x;exact⟨_,e⟩
 |dT kvs=>obtain⟨_,_,xs,_,o,es,ep,e,_⟩:=x;exact⟨_,e⟩
 |set S n=>obtain⟨o,es,ep,t,e,_⟩:=x;exact⟨_,e⟩
 |ins C dx fs=>obtain⟨_,_,_,e,_⟩:=x;exact⟨_,e⟩
 |own y=>exact x
 |xd fs=>obtain⟨mA,⟨o,es,ep,e,_⟩,_⟩:=x;exact⟨_,e⟩
 |met f y=>exact⟨_,x⟩
 |PZ lo hi=>obtain⟨t,u,v,e⟩:=x;exact⟨_,e⟩
 |so o u=>exact⟨_,x.1⟩
 |Gz ps=>exact⟨_,x⟩
 |ext φ=>exact x.2.1
theorem Bp:Qg (zY (cW P w) cm P w K mg base N qual scope f cd A outer s H E) (fun _=>E):=by
 refine⟨?_,?_,PassesOwn.leaving⟩
 ·intro pins σ H1 s1 h' e cls args I hx hE;have R3:(A.deeper (envOfC qual scope s.heap.objs.size f cd)).frames=some (envOfC qual scope s.heap.objs.size f cd::outer):=I.ok.frames;have vx:s1.heap.FunFrames base (envOfC qual scope s.heap.objs.size f cd::outer):=I.stack;have lI:∀env∈(envOfC qual scope s.heap.objs.size f cd::outer),∀b,env.frame=some b→b∈(envOfC qual scope s.heap.objs.size f cd::outer).filterMap (·.frame):=fun env he b hb=>List.mem_filterMap.mpr ⟨env,he,hb⟩
  have A_:∀b∈(envOfC qual scope s.heap.objs.size f cd::outer).filterMap (·.frame),H1 b=none:=I.wg;show wpAny (model P w) (A.deeper (envOfC qual scope s.heap.objs.size f cd)) (leaving (envOfC qual scope s.heap.objs.size f cd) (.ref e)) (fun _ wu=>cW P w outer H s E (.ref e) wu) (fun e' wu=>cW P w outer H s E e' wu) {s1 with heap:=h'};have Ac:∀b o,s.heap.get? b=some o→b∉ot outer→b∉(envOfC qual scope s.heap.objs.size f cd::outer).filterMap (·.frame):=fun b o q hb hm=>by
   obtain⟨env,he,hf⟩:=List.mem_filterMap.mp hm;rcases List.mem_cons.mp he with rfl|he
   ·have z:s.heap.objs.size=b:=Option.some.inj hf;exact ZE (Zm q) (by rw[z];exact Nat.lt_irrefl _)
   ·exact hb (List.mem_filterMap.mpr ⟨env,he,hf⟩)
  refine wpAny_leaves_madeW (s:={s1 with heap:=h'}) (h:=s1.heap) (base:=hideAll s1.heap ((envOfC qual scope s.heap.objs.size f cd::outer).filterMap (·.frame))) (L:=s.heap.objs.size) R3 rfl (fun b o q=>of_hideAll _ q) (funFrames_hide vx lI) hx fun h2 t x1 x2 x3 x4=>?_
  have bs:Un (ot outer) [] H H1 s.heap s1.heap:=I.base;have kB:∀b o,s.heap.get? b=some o→H b=none→b∉ot outer→(hideAll s1.heap ((envOfC qual scope s.heap.objs.size f cd::outer).filterMap (·.frame))).get? b=some o:=fun b o q hn hb=>
   hideAll_get _ (bs.keep b o q hn hb V9) (Ac b o q hb)
  have hB:lD P w H1 (hideAll s1.heap ((envOfC qual scope s.heap.objs.size f cd::outer).filterMap (·.frame))):=I.bX.hide A_;refine⟨e,cls, .ref t,_,H1,rfl,I.os,I.bare,x1,?_,hB,kB,fun b o q hb=>?_,hE⟩
  rotate_left
  ·obtain⟨o',e1⟩:=bs.there b o q V9;exact⟨o',hideAll_get _ e1 (Ac b o q hb)⟩
  refine⟨fun b o q hn hb _=>x1.1 b o (kB b o q hn hb),fun b o q hn hb _=>?_,fun b o q hn _=>bs.free b o q hn V9,fun b o q _=>?_,bs.cC,bs.ow,bs.rO⟩
  ·obtain⟨sl,e1⟩:=bs.slot b o q hn hb V9;have IV:s1.heap.FunFrames base outer:=vx.2.2;obtain⟨_,o2,e2,G7⟩:=IV.mem hb;rw[e1]at e2;cases e2;obtain⟨yb,e3⟩:=x4 b _ (hx.keeps _ _ e1) G7;exact⟨yb,e3⟩
  ·cases q1:H1 b with
   |some u=>
    obtain⟨oo,z⟩:=Ab (hB b u q1);exact⟨oo,x1.1 b oo z⟩
   |none=>
    cases q0:H b with
    |none=>
     by_cases hb:b∈ot outer
     ·obtain⟨sl,e1⟩:=bs.slot b o q q0 hb V9;have IV:s1.heap.FunFrames base outer:=vx.2.2;obtain⟨_,o2,e2,G7⟩:=IV.mem hb;rw[e1]at e2;cases e2;obtain⟨yb,e3⟩:=x4 b _ (hx.keeps _ _ e1) G7;exact⟨_,e3⟩
     ·exact⟨o,x1.1 b o (kB b o q q0 hb)⟩
    |some u=>
     obtain⟨o',e1⟩:=bs.there b o q V9;by_cases hb:b∈ot outer
     ·have IV:s1.heap.FunFrames base outer:=vx.2.2;obtain⟨_,o2,e2,G7⟩:=IV.mem hb;obtain⟨yb,e3⟩:=x4 b _ (hx.keeps _ _ e2) G7;exact⟨_,e3⟩
     ·exact⟨o',x1.1 b o' (hideAll_get _ e1 (Ac b o q hb))⟩
 ·rintro pins σ H1 s1 e s2 I ⟨ea,cls,a0,B,H',rfl,os,bare,Qh,un,hB,kB,tB,hE⟩;have R3:(A.deeper (envOfC qual scope s.heap.objs.size f cd)).frames=some (envOfC qual scope s.heap.objs.size f cd::outer):=I.ok.frames;show wpAny (model P w) (A.deeper (envOfC qual scope s.heap.objs.size f cd)) (leaving (envOfC qual scope s.heap.objs.size f cd) (.ref ea)) (fun _ wu=>cW P w outer H s E (.ref ea) wu) (fun e' wu=>cW P w outer H s E e' wu) s2;have Qh:Heap.FlyingW B (envOfC qual scope s.heap.objs.size f cd::outer) ea cls a0 s2.heap:=Qh;have un:Un (ot (envOfC qual scope s.heap.objs.size f cd::outer)) [] H1 H' s1.heap s2.heap:=un;have kB:∀b o,s1.heap.get? b=some o→H1 b=none→b∉ot (envOfC qual scope s.heap.objs.size f cd::outer)→B.get? b=some o:=kB;have Ac:∀b o,s.heap.get? b=some o→b∉ot outer→b∉ot (envOfC qual scope s.heap.objs.size f cd::outer):=fun b o q hb hm=>by
   obtain⟨env,he,hf⟩:=List.mem_filterMap.mp hm;rcases List.mem_cons.mp he with rfl|he
   ·have z:s.heap.objs.size=b:=Option.some.inj hf;exact ZE (Zm q) (by rw[z];exact Nat.lt_irrefl _)
   ·exact hb (List.mem_filterMap.mpr ⟨env,he,hf⟩)
  have R4:∀b,b∈ot outer→b∈ot (envOfC qual scope s.heap.objs.size f cd::outer):=fun b hb=>by
   obtain⟨env,he,hf⟩:=List.mem_filterMap.mp hb;exact List.mem_filterMap.mpr ⟨env,Η he,hf⟩
  have bs:Un (ot outer) [] H H1 s.heap s1.heap:=I.base;refine wpAny_leaves_onW (L:=s.heap.objs.size) R3 rfl Qh fun h2 x1 x4=>?_
  have U1:∀b o,s.heap.get? b=some o→H b=none→b∉ot outer→B.get? b=some o:=fun b o q hn hb=>kB b o (bs.keep b o q hn hb V9) (bs.free b o q hn V9) (Ac b o q hb)
  have IV:s2.heap.FunFrames B outer:=Qh.2.2.1.2.2;refine⟨ea,cls,a0,B,H',rfl,os.trans I.os,bare,x1,?_,hB,U1,fun b o q hb=>?_,hE⟩
  rotate_left
  ·obtain⟨o',e1⟩:=bs.there b o q V9;exact tB b o' e1 (Ac b o q hb)
  refine⟨fun b o q hn hb _=>x1.1 b o (U1 b o q hn hb),fun b o q hn hb _=>?_,fun b o q hn _=>?_,fun b o q _=>?_,fun b xs q=>un.cC b xs (bs.cC b xs q),fun b o u q=>un.ow b o u (bs.ow b o u q),fun b ps q=>?_⟩
  ·obtain⟨sl,e1⟩:=bs.slot b o q hn hb V9;obtain⟨Zo,e2⟩:=un.slot b _ e1 (bs.free b o q hn V9) (R4 b hb) (Wv);obtain⟨_,o2,e3,G7⟩:=IV.mem hb;rw[e2]at e3;cases e3;obtain⟨yb,e4⟩:=x4 b _ e2 G7;exact⟨yb,e4⟩
  ·by_cases hb:b∈ot outer
   ·obtain⟨sl,e1⟩:=bs.slot b o q hn hb V9;exact un.free b _ e1 (bs.free b o q hn V9) (Wv)
   ·exact un.free b o (bs.keep b o q hn hb V9) (bs.free b o q hn V9) (Wv)
  ·obtain⟨o',e1⟩:=bs.there b o q V9;obtain⟨o2,e2⟩:=un.there b o' e1 V9;by_cases hb:b∈ot outer
   ·obtain⟨_,o3,e3,G7⟩:=IV.mem hb;obtain⟨yb,e4⟩:=x4 b _ e3 G7;exact⟨_,e4⟩
   ·obtain⟨o3,e3⟩:=tB b o' e1 (Ac b o q hb);exact⟨o3,x1.1 b o3 e3⟩
  ·obtain⟨more,z⟩:=bs.rO b ps q;obtain⟨N0,z2⟩:=un.rO b _ z;exact⟨more++N0,by rw[z2,Array.append_assoc]⟩
end
end L2
namespace L2
open PySem PySem.Spec PyProof.Rows PySem.W PySem.Calls Builtin Builtin.ObjectAttr Builtin.Getset_descriptor
section
variable{prog:Program}{w:World}{A:Around}{E:Value→Shared→Prop}{K:Frag}{x C:Addr}{o:Obj}{hh:Heap}{g:Array GenState}{d:Drawn}{t:Nat}{os:OsState}
end
structure N1(K:Frag)(C:Addr):Prop where
 ex:excIn K C [.type "ValueError", .type "Exception", .type "BaseException", .type "object"] "ValueError.__new__"=true
 cl:findIn K (.ref C) "__class__"=some (some (.builtin "object.__class__"))
 ob:mroIn K C (.type "object")=some true
 be:mroIn K C (.type "BaseException")=some true
 ga:findIn K (.ref C) "__getattribute__"=some (some (.builtin "BaseException.__getattribute__"))
 gn:findIn K (.ref C) "__getattr__"=some none
 tu:instIn K (.ref C) (.type "tuple")=some false
 kp:keepIn K (.ref C)=true
end L2
namespace L2
open PySem PySem.Spec PyProof.Rows PySem.W PySem.Calls
theorem G9{K:Frag}{h:Heap}{C:Addr}{U2:List Value}{newId:String}(X:K.In h)(q:excIn K C U2 newId=true):
  ∃bm N nm qn bs hdct sn sub ab col dd k0 k1 k2 k3 k5 mN,h.get? C=some (excClassObj nm qn C N bs bm hdct sn sub ab col dd k0 k1 k2 k3 k5 newId)∧h.Ns N mN∧mN "__init__"=none∧OwnTail h U2 bm:=by
 unfold excIn at q;split at q
 ·rename_i dd cd sl ho
  split at q
  ·rename_i C' bm k0 k1 k2 k3 n k5 hm hs
   simp only[Bool.and_eq_true,beq_iff_eq,Bool.not_eq_true']at q;obtain⟨⟨⟨⟨⟨rfl,rfl⟩,N2⟩,ht⟩,bX⟩,Qi⟩:=q;obtain⟨nm,bs,mro,ns,qn,hd,sn,sub,ab,col,del⟩:=cd;dsimp only at hm N2 bX Qi;subst hm N2;have R5:sl=#[k0,k1,k2,k3,some (.builtin n),k5]:=by
    obtain⟨l⟩:=sl;simp only at hs;rw[hs]
   subst R5;exact⟨bm,ns,nm,qn,bs,hd,sn,sub,ab,col,dd,k0,k1,k2,k3,k5,_,X _ _ ho, .of_isNs (isNs_of_in X bX),nsMap_none_of_in X bX Qi,tail_of_in X ht⟩
  ·cases q
 ·cases q
section
variable{X:Cx}{x:Str}{np eG pos:Pos}{e:Expr}{es:List Expr}{t:TA}{C:Addr}{E:St→XK}
def KJ(C:Addr)(E:St→XK)(t:TA):TS:=fun _ σ H=>t σ H fun vs H1=>vs.length≤sizeLine∧E σ (.ref C) none H1
theorem i9(hX:Qg X E)(hc:X.calm=true)(hg:Gl X x)(hm:X.mg x=some (.ref C))(c:N1 X.K C)(ha:PA X (e::es) t)(wt:(x==("__debug__":Str))=false:=by decide)
  (he:starEach (e::es) X.env=(false,eval e X.env)::starEach es X.env:=by rfl) (rA:(backTo eG (starEach es X.env)).any (·.1)=false:=by rfl):
  PS X (.Raise (some (.Call (.Name x np) (e::es) [] eG)) none pos) (KJ C E t):=by
 intro pins s σ H D I h;obtain⟨bm,N,nm,qn,bs,hdct,sn,sub,ab,col,dd,k0,k1,k2,k3,k5,mN,hC,hN,Qi,T⟩:=G9 I.ok.mod.Mo c.ex;refine wpAny_Raise_call_subT (C:=C) (nm:=nm) (q:=qn) (N:=N) (bs:=bs) (bm:=bm) (hdct:=hdct) (sn:=sn) (sub:=sub) (ab:=ab) (col:=col) (dd:=dd) (k0:=k0) (k1:=k1) (k2:=k2) (k3:=k3) (k5:=k5)
  F.excBase_ValueError (mN:=mN) (T.hasType F.excBase_ValueError.hasBase) (I.ok.hd hc) (by rw[he];show(false||(backTo eG (starEach es X.env)).any (·.1))=false;rw[rA];rfl) Qi (oz I hg hm ⟨rfl,?_⟩ wt)
 have hq:=cH (ha eG pins s σ H _ I h) fun us s2 ⟨vs,H2,I2,r2,q2⟩=>show us.length≤sizeLine∧(∀b o,X.base.get? b=some o→s2.heap.get? b=some o)∧∀h' e,Heap.MadeExcOf s2.heap h' e (.ref C) us→X.xe (.ref e) {s2 with heap:=h'}from
  ⟨by rw[←r2.length];exact q2.1,I2.bk,fun h' e hx=>hX.raise pins σ H2 s2 h' e (.ref C) us I2 hx q2.2⟩
 rw[he]at hq⊢;exact evalArgs_plain (wpAny_mono hq (fun vs s2 h2=>⟨rfl,h2.1,h2.2.1 _ _ hC,hN.keeps h2.2.1,T.keeps h2.2.1,h2.2.2⟩) fun _ _ y=>y)
end
section
variable{X:Cx}{e v1 v2:Expr}{es:List Expr}{te:TE}{pos:Pos}
def R6(te:TE):TE:=fun σ H Q=>te σ H fun x H1=>(∃y,x= .str y∧y.length≤sizeLine∧Q (.str y) H1)∨∃i:Int,x= .int i∧i.natAbs.log2<1920∧Q (.str (toString i)) H1
theorem qk(h:PE X e te):PE X (.FormattedValue e (-1) none pos) (R6 te):=by
 intro pins s σ H Q I hq;refine FormattedValue_plain (cH (h pins s σ H _ I hq) fun u s1 ⟨x,H1,I1,r1,q1⟩=>?_);rcases q1 with⟨y,rfl,hy,q⟩|⟨i,rfl,hi,q⟩
 ·obtain⟨t,rfl⟩:=r1;exact formatField_str (fun t' tk=>⟨.str y,H1,I1.tok _,⟨_,rfl⟩,q⟩) hy
 ·obtain⟨t,rfl⟩:=r1;exact formatField_int_small hi ⟨.str (toString i),H1,I1.tok _,⟨_,rfl⟩,q⟩
abbrev TJ:=Str→TE
def PJ(X:Cx)(es:List Expr)(t:TJ):Prop:=
 ∀(acc:Str)(pins:List (Addr×Obj))(s:Shared)(σ:St)(H:Hp)(Q:VK),Inv X pins σ H s→t acc σ H Q→wpAny (model X.prog X.w) X.A (joinParts acc (evalEach es X.env)) (EP X pins σ Q) X.xe s
def N3:TJ:=fun acc _ H Q=>acc.length≤sizeLine∧Q (.str acc) H
def KL(te:TE)(t:TJ):TJ:=fun acc σ H Q=>te σ H fun x H1=>∃y,x= .str y∧(acc++y).length≤sizeLine∧t (acc++y) σ H1 Q
theorem wG:PJ X [] N3:=fun acc _ s σ H Q I h=>joinParts_nil ⟨.str acc,H,I.tok _,⟨_,rfl⟩,h.2⟩ h.1
theorem fu{t:TJ}(h1:PE X e te)(h2:PJ X es t):PJ X (e::es) (KL te t):=by
 intro acc pins s σ H Q I h;refine joinParts_cons (cH (h1 pins s σ H _ I h) fun u s1 ⟨x,H1,I1,r1,y,e,hl,q⟩=>?_);subst e;obtain⟨tk,rfl⟩:=r1;exact⟨hl,h2 _ pins s1 σ H1 Q I1 q⟩
theorem mw{t:TJ}(h:PJ X (v1::v2::es) t):PE X (.JoinedStr (v1::v2::es) pos) (t Str.empty):=fun pins s σ H Q I hq=>JoinedStr_many (h Str.empty pins s σ H Q I hq)
end
abbrev Cx.N4(X:Cx)(e:Addr):Cx:={X with A:=X.A.mark (some (.ref e)),calm:=false,xe:=fun _ _=>False}
section
variable{X:Cx}{pins:List (Addr×Obj)}{σ:St}{H:Hp}{s:Shared}{ea C:Addr}{B:Heap}{a0:Value}
end
abbrev TH:=Addr→TS
def Ends.drop(D:Ends)(i:Nat):Ends:={nx:=fun σ H=>D.nx (σ.set i none) H,rt:=D.rt,bk:=fun σ H=>D.bk (σ.set i none) H,ct:=fun σ H=>D.ct (σ.set i none) H}
section
variable{X:Cx}{x n:Str}{np pos:Pos}{b0:Stmt}{N4:List Stmt}{rest:List ExceptHandler}{ts:TS}{tr:TH}{Dc:Addr}{i:Nat}
end
def fT(env:Env):List (Str×NameKind)→List (Str×Addr)→List (Str×Addr)
 |[],acc=>acc
 |(n,k)::r,acc=>if k= .free then fT env r ((n,(env.cells.lookup n).getD 0)::acc)else fT env r acc
theorem wH{env:Env}{scope:Scope}(h:∀x∈scope.names,x.2= .free→∃c,env.cells.lookup x.1=some c):closureFor scope env=pure (fT env scope.names []):=by
 unfold closureFor
 suffices H:∀(l:List (Str×NameKind))(acc:List (Str×Addr)),(∀x∈l,x.2= .free→∃c,env.cells.lookup x.1=some c)→
   (forIn l acc fun(x:Str×NameKind)(cs:List (Str×Addr))=>if (x.2==NameKind.free)=true then do let c←cellOf env x.1;pure (ForInStep.yield ((x.1,c)::cs))else pure (ForInStep.yield cs):Sem (List (Str×Addr)))=pure (fT env l acc) by
  have:=H scope.names [] h;simpa using this
 intro l
 induction l with
 |nil=>intro acc _;rfl
 |cons x r ih=>
  intro acc hl;obtain⟨n,k⟩:=x;rw[List.forIn_cons];by_cases hk:k= .free
  ·subst hk;obtain⟨c,hc⟩:=hl (n, .free) List.mem_cons_self rfl;have J5:env.cells.lookup n=some c:=hc;simp only[beq_self_eq_true,if_true,cellOf,J5,fT,Option.getD_some];show(pure _>>=_)=_;rw[pure_bind];exact ih _ fun y hy=>hl y (Η hy)
  ·have hb:(k==NameKind.free)=false:=by simpa using hk
   simp only[hb,Bool.false_eq_true,if_false,fT,hk];rw[pure_bind];exact ih _ fun y hy=>hl y (Η hy)
theorem kb{env:Env}{x:Str}{c:Addr}:∀{l:List (Str×NameKind)}{acc:List (Str×Addr)},(∀y∈l,y.2= .free→∃c,env.cells.lookup y.1=some c)→
  (∀y d,acc.lookup y=some d→env.cells.lookup y=some d)→(fT env l acc).lookup x=some c→env.cells.lookup x=some c
 |[],acc,_,ha,h=>ha x c h
 |(n,k)::r,acc,hl,ha,h=>by
  unfold fT at h;have hr:∀y∈r,y.2= .free→∃c,env.cells.lookup y.1=some c:=fun y hy=>hl y (Η hy)
  split at h
  ·rename_i hk
   obtain⟨d,hd⟩:=hl (n,k) List.mem_cons_self hk;refine kb hr (fun y e he=>?_) h;rw[List.lookup_cons]at he;split at he
   ·rename_i q
    have q':y=n:=by simpa using q
    subst q';have Mp:env.cells.lookup y=some d:=hd;rw[Mp,Option.getD_some]at he;cases he;exact Mp
   ·exact ha y e he
  ·exact kb hr ha h
theorem oH{env:Env}{x:Str}:∀{l:List (Str×NameKind)}{acc:List (Str×Addr)},((x,NameKind.free)∈l∨∃c,acc.lookup x=some c)→∃c,(fT env l acc).lookup x=some c
 |[],acc,h=>by
  rcases h with h|h
  ·simp at h
  ·exact h
 |(n,k)::r,acc,h=>by
  unfold fT;split
  ·rename_i hk
   refine oH ?_;rcases h with h|⟨c,h⟩
   ·rcases List.mem_cons.mp h with e|e
    ·injection e with e1 e2;subst e1;exact .inr ⟨(env.cells.lookup x).getD 0,by simp[List.lookup_cons]⟩
    ·exact .inl e
   ·by_cases q:x=n
    ·subst q;exact .inr ⟨(env.cells.lookup x).getD 0,by simp[List.lookup_cons]⟩
    ·refine .inr ⟨c,?_⟩;rw[List.lookup_cons];have:(x==n)=false:=by simpa using q
     rw[this];exact h
  ·rename_i hk
   refine oH ?_;rcases h with h|h
   ·rcases List.mem_cons.mp h with e|e
    ·injection e with e1 e2;exact ZE e2.symm hk
    ·exact .inl e
   ·exact .inr h
theorem oI{env:Env}{x:Str}:∀{names:List (Str×NameKind)},names.lookup x=some .free→
  (names.map fun(n,k)=>if (k==NameKind.free&&env.scope.kind== .function&&env.kindOf n==some .cell)then(n,NameKind.cell)else(n,k)).lookup x=some .cell∨
  (names.map fun(n,k)=>if (k==NameKind.free&&env.scope.kind== .function&&env.kindOf n==some .cell)then(n,NameKind.cell)else(n,k)).lookup x=some .free
 |[],h=>by simp at h
 |(n,k)::r,h=>by
  have ih:=@oI env x r;show List.lookup x ((if (k==NameKind.free&&env.scope.kind== .function&&env.kindOf n==some .cell)=true then(n,NameKind.cell)else(n,k))::_)=_∨List.lookup x ((if (k==NameKind.free&&env.scope.kind== .function&&env.kindOf n==some .cell)=true then(n,NameKind.cell)else(n,k))::_)=_;rw[List.lookup_cons]at h;by_cases hc:(k==NameKind.free&&env.scope.kind== .function&&env.kindOf n==some .cell)=true
  ·rw[U6 hc,List.lookup_cons];cases hx:x==n with
   |true=>exact .inl rfl
   |false=>rw[hx]at h;exact ih h
  ·rw[Sn hc,List.lookup_cons];cases hx:x==n with
   |true=>rw[hx]at h;exact .inr h
   |false=>rw[hx]at h;exact ih h
theorem oJ{env:Env}{x:Str}:∀{names:List (Str×NameKind)},(∀y∈names,y.2≠ .cell)→
  ((names.map fun(n,k)=>if (k==NameKind.free&&env.scope.kind== .function&&env.kindOf n==some .cell)then(n,NameKind.cell)else(n,k)).lookup x=some .cell∨
  (names.map fun(n,k)=>if (k==NameKind.free&&env.scope.kind== .function&&env.kindOf n==some .cell)then(n,NameKind.cell)else(n,k)).lookup x=some .free)→(x,NameKind.free)∈names
 |[],_,h=>by simp at h
 |(n,k)::r,hc,h=>by
  have ih:=@oJ env x r fun y hy=>hc y (Η hy)
  have h2:List.lookup x ((if (k==NameKind.free&&env.scope.kind== .function&&env.kindOf n==some .cell)=true then(n,NameKind.cell)else(n,k))::_)=_∨List.lookup x ((if (k==NameKind.free&&env.scope.kind== .function&&env.kindOf n==some .cell)=true then(n,NameKind.cell)else(n,k))::_)=_:=h;clear h;by_cases hq:(k==NameKind.free&&env.scope.kind== .function&&env.kindOf n==some .cell)=true
  ·rw[U6 hq,List.lookup_cons]at h2;cases hx:x==n with
   |true=>
    have e:x=n:=by simpa using hx
    subst e;have hk:k= .free:=by
     rw[Bool.and_eq_true,Bool.and_eq_true]at hq;simpa using hq.1.1
    subst hk;exact List.mem_cons_self
   |false=>rw[hx]at h2;exact Η (ih h2)
  ·rw[Sn hq,List.lookup_cons]at h2;cases hx:x==n with
   |true=>
    rw[hx]at h2;have e:x=n:=by simpa using hx
    subst e;rcases h2 with h|h
    ·have h':some k=some NameKind.cell:=h;exact ZE (ZV h') (hc (x,k) List.mem_cons_self)
    ·have h':some k=some NameKind.free:=h;rw[ZV h'];exact List.mem_cons_self
   |false=>rw[hx]at h2;exact Η (ih h2)
def gf(X:Cx)(scope:Scope)(N:List Str)(dD:Shared)(eY:Hp)(C:Addr)(fp:List Addr)(pn:List (Addr×Obj)):Cx:=
 {X with N:=N,dD:=dD,eY:=eY,env:=compEnvC scope (fT X.env scope.names []) C X.env,outer:=X.stack,ex:=fp,fn:=fun _=>false,pn:=pn,xe:=fun _ _=>False}
structure bh(N:List Str)(sc:Scope)(scope:Scope)(ls:List Str)(js:List Nat)(cs:List Str):Prop where
 kind:scope.kind= .function
 IW:∀x∈scope.names,x.2≠ .cell
 names:∀x∈scope.names,x.2= .local→scope.names.lookup x.1=some .local
 loc:∀x∈ls,scope.names.lookup x=some .local
 at_:cs=js.filterMap (N[·]?)
 len:cs.length=js.length
 R7:∀x∈cs,scope.names.lookup x=some .free∧(sc.names.lookup x=some .cell∨sc.names.lookup x=some .free)
 free:∀x∈scope.names,x.2= .free→(sc.names.lookup x.1=some .cell∨sc.names.lookup x.1=some .free)
 nd:(ls++cs).Nodup
section
variable{X:Cx}{pins:List (Addr×Obj)}{σ:St}{H:Hp}{s:Shared}{scope:Scope}{ls cs:List Str}{js:List Nat}{fp:List Addr}
theorem bh.has(S:bh X.N X.env.scope scope ls js cs)(ok:X.Ok):∀x∈scope.names,x.2= .free→∃c,X.env.cells.lookup x.1=some c:=fun x hx hf=>ok.has x.1 (S.free x hx hf)
def lJ(ls:List Str)(js:List Nat)(σ:St):St:=ls.map (fun _=>none)++js.map fun j=>(σ[j]?).join
theorem G_(S:bh X.N X.env.scope scope ls js cs)(I:Inv X pins σ H s)(hf:∀b∈fp,iA X pins H b)(hl:∀b∈fp,b<s.heap.objs.size):(gf X scope (ls++cs) s H s.heap.objs.size fp (X.pn++pins)).Ok:=by
 have sW:∀{x:Str}{c:Addr},(fT X.env scope.names []).lookup x=some c→X.env.cells.lookup x=some c:=fun{x c} h=>kb (S.has I.ok) (fun y d h=>by simp at h) h
 refine⟨I.ok.mod,S.kind,I.ok.glob,I.ok.blt,Nat.le_refl _,fun x y c h1 h2=>I.ok.inj x y c (sW h1) (sW h2),fun x h=>oH (.inl (oJ S.IW h)),(fun x c h=>Bool.noConfusion (show false=true from h)),I.ok.hd,I.ok.frames, .inl rfl,fun b hb=>⟨Nat.ne_of_lt (hl b hb),fun x c h=>(hf b hb).2.2.2.2.1 x c (sW h)⟩,
  I.bs,Nat.le_trans I.ok.J1 I.sz,fun b o e hb=>?_,fun b hb hm=>?_,I.stack,I.wg⟩
 ·rcases(hf b hb).2.2.2.1 with z|z
  ·exact I.ok.J2 b o e z
  ·exact ZE (Nat.lt_of_lt_of_le (Zm e) I.ok.J1) (Nat.not_lt.mpr z)
 ·rcases List.mem_cons.mp (I.sL b hm)with z|z
  ·exact(hf b hb).2.1 z
  ·exact(hf b hb).2.2.1 z
theorem Eo{h1:Heap}{m:Str→Option Value}(S:bh X.N X.env.scope scope ls js cs)(I:Inv X pins σ H s)(hf:∀b∈fp,iA X pins H b)(hl:∀b∈fp,b<s.heap.objs.size)
  (hn:h1.Ns s.heap.objs.size m) (hk:∀b o,s.heap.get? b=some o→h1.get? b=some o):
  Inv (gf X scope (ls++cs) s H s.heap.objs.size fp (X.pn++pins)) [] (lJ ls js σ) H {s with heap:=h1}:=by
 have sW:∀{x:Str}{c:Addr},(fT X.env scope.names []).lookup x=some c→X.env.cells.lookup x=some c:=fun{x c} h=>kb (S.has I.ok) (fun y d h=>by simp at h) h
 have len:(lJ ls js σ).length=(ls++cs).length:=by
  unfold lJ;rw[List.length_append,List.length_append,List.length_map,List.length_map,S.len]
 refine⟨G_ S I hf hl,rfl,I.bare,Un.kept hk,⟨m,hn,fun i x v e1 e2 e3=>?_⟩,fun x c e=>?_,I.bX.fresh Zn,fun x c e=>I.mW x c (sW e),fun p hp=>?_,I.bX.kept hk,len⟩
 ·have e1:(ls++cs)[i]?=some x:=e1;unfold lJ at e2;by_cases hi:i<ls.length
  ·rw[Zy (by simpa using hi),List.getElem?_map]at e2;cases q:ls[i]? with
   |none=>rw[q]at e2;cases e2
   |some y=>rw[q]at e2;cases e2
  ·have Br:ls.length≤i:=Nat.not_lt.mp hi;rw[Δ (by simpa using Br),List.getElem?_map,List.length_map]at e2;rw[Δ Br]at e1;obtain⟨U3,uB⟩:=S.R7 x (ZO e1);cases q:js[i-ls.length]? with
   |none=>rw[q]at e2;cases e2
   |some j=>
    rw[q]at e2;have e2:(σ[j]?).join=some v:=ZV e2;have eN:X.N[j]?=some x:=by
     have aux:∀(js:List Nat)(cs:List Str)(i:Nat),cs=js.filterMap (X.N[·]?)→cs.length=js.length→∀j x,js[i]?=some j→cs[i]?=some x→X.N[j]?=some x:=by
      intro js
      induction js with
      |nil=>intro cs i _ _ j x hj _;simp at hj
      |cons a r ih=>
       intro cs i he hl j x hj hx;rw[List.filterMap_cons]at he;cases qa:X.N[a]? with
       |none=>
        rw[qa]at he;have hle:=List.length_filterMap_le (X.N[·]?) r;simp only at he;rw[he,List.length_cons]at hl
        lia
       |some y=>
        rw[qa]at he;simp only at he;subst he;cases i with
        |zero=>
         simp at hj hx;subst hj hx;exact qa
        |succ i=>exact ih _ i rfl (by simpa using hl) j x (by simpa using hj) (by simpa using hx)
     exact aux js cs _ S.at_ S.len j x q e1
    obtain⟨mX,_,WZ⟩:=I.loc;have W0:σ[j]?=some (some v):=by
     cases z:σ[j]? with
     |none=>rw[z]at e2;cases e2
     |some w=>rw[z]at e2;rw[show w=some v from e2]
    obtain⟨u,r,l⟩:=WZ j x v eN W0 (uB.elim (fun z=> .inr (.inl z)) fun z=> .inr (.inr z));refine⟨u,r,?_⟩;rcases l with⟨z,_⟩|⟨_,c,z1,o,z2,z3⟩
    ·have z:X.env.scope.names.lookup x=some .local:=z;rcases uB with w|w<;>(rw[z]at w;cases w)
    ·refine .inr ⟨oI U3,c,?_,o,hk c o z2,z3⟩;obtain⟨c',J5⟩:=oH (env:=X.env) (l:=scope.names) (acc:=[]) (x:=x) (.inl (PySem.mem_of_lookup U3));have:=sW J5;rw[z1]at this;cases this;exact J5
 ·obtain⟨v,o,z1,z2⟩:=I.cell x c (sW e);exact⟨v,o,hk c o z1,z2⟩
 ·have hp:p∈X.pn++pins:=by simpa[gf]using hp
  obtain⟨e,n,ne,nf,d⟩:=I.pin p hp;refine⟨hk _ _ e,n,Nat.ne_of_lt (Zm e),fun hm=>?_,d⟩;rcases List.mem_cons.mp (I.sL p.1 hm)with z|z
  ·exact ne z
  ·exact nf z
end
section
variable{prog:Program}{w:World}{A:Around}{R:Result→Shared→Prop}{s:Shared}
theorem wI{elt target iter:Expr}{ifs:List Expr}{scope:Scope}{pos:Pos}{it acc:Value}{env:Env}(L:Nat→Shared→Prop)
  (turn:∀n s,L n s→wpAny (model prog w) A (pyNext it) (fun r ck=>match r with
   |none=>R (.ok .next) ck
   |some v=>wpAny (model prog w) A (letOwnedTupleGo target it v) (fun _ IX=>wpAny (model prog w) A (assign target env v) (fun _ qe=>
     wpAny (model prog w) A (forIn ifs true fun c r=>if r=true then do let ok←isTrue c env (eval c env);pure (ForInStep.yield ok)else pure (ForInStep.yield r)) (fun ok Cs=>
      if ok=true then wpAny (model prog w) A (eval elt env) (fun x N5=>
       wpAny (model prog w) A (call (.builtin "list.append") [acc,x]) (fun _ N6=>∃m,m<n∧L m N6) (fun _ _=>False) N5) (fun _ _=>False) Cs
      else ∃m,m<n∧L m Cs) (fun _ _=>False) qe) (fun _ _=>False) IX) (fun _ _=>False) ck) (fun _ _=>False) s)
  (n:Nat) (h:L n s):codeAny (model prog w) A (.compLoop (.ListComp elt [⟨target,iter,ifs,0⟩] scope pos) 0 it acc env) R s:=by
 refine codeAny_loop rfl L (fun n s hI=>?_) n h;show wpAny _ A ((compTurn (.ListComp elt [⟨target,iter,ifs,0⟩] scope pos) 0 it acc env).onRaise (fun x=>do noteFrame x env;theTreesLotGoes x)) _ _ s;refine wpAny_noted ?_;rw[compTurn_list];refine wpAny_mono (E:=fun _ _=>False) ?_ (fun _ _ q=>q) fun _ _ z=>False.elim z
 refine wpAny_bind (wpAny_standAt (ZX (wpAny_mono (turn n s hI) (fun r ck Cr=>?_) fun _ _ h'=>h')));cases r with
 |none=>exact ZL Cr
 |some v=>
  refine wpAny_bind (wpAny_mono Cr (fun _ IX Cr=>?_) fun _ _ h'=>h');refine wpAny_bind (wpAny_mono Cr (fun _ qe D_=>ZX (wpAny_mono D_ (fun ok Cs GR=>?_) fun _ _ h'=>h')) fun _ _ h'=>h');cases ok with
  |false=>exact ZL ⟨rfl,GR⟩
  |true=>
   exact ZX (ZX (wpAny_mono GR (fun x N5 R8=>ZX (wpAny_mono R8 (fun _ N6 R9=>ZL (ZL ⟨rfl,R9⟩)) fun _ _ h'=>h')) fun _ _ h'=>h'))
end
def N7(X:Cx)(ifs:List Expr)(t:TT):Prop:=
 ∀(pins:List (Addr×Obj))(s:Shared)(σ:St)(H:Hp)(Q:Bool→Hp→Prop),Inv X pins σ H s→t σ H Q→
  wpAny (model X.prog X.w) X.A (forIn ifs true fun c r=>if r=true then do let ok←isTrue c X.env (eval c X.env);pure (ForInStep.yield ok)else pure (ForInStep.yield r)) (TP X pins σ Q) X.xe s
def KN:TT:=fun _ H Q=>Q true H
theorem fL{X:Cx}:N7 X [] KN:=fun _ _ _ H _ I h=>wpAny_tests_nil ⟨H,I,h⟩
theorem Bs{X:Cx}{c:Expr}{t:TT}(h:PT X c t):N7 X [c] t:=fun pins s σ H Q I hq=>wpAny_tests_one (h pins s σ H Q I hq)
def sX(J:It)(ls:List Str)(js:List Nat)(g:TG)(tt:TT)(te:TE)(σ:St)(H1:Hp)(D:Addr)(Q:VK):Prop:=
 ∃W:Nat→Nat→List V→St→Hp→Prop,(∃m,W 0 m [] (lJ ls js σ) (upd H1 D (.lst [])))∧∀i m ys bj H',W i m ys bj H'→
 (J.stop i H'∧Q (.ref D) H')∨(J.go i H'∧∃N:List V→St→Hp→Prop,(∀IY f' H2,N IY f' H2→∃m',m'<m∧W (i+1) m' IY f' H2)∧∀x H2,J.GC i H' x H2→g x bj H2 fun f' H3=>tt f' H3 fun b H4=>
  if b=true then te f' H4 fun y H5=>H5 D=some (.lst ys)∧ys.length<sizeLine∧N (ys++[y]) f' (upd H5 D (.lst (ys++[y])))else N ys f' H4)
def Ep(wi:TI)(ls:List Str)(js:List Nat)(g:TG)(tt:TT)(te:TE):TE:=fun σ H Q=>wi σ H fun J H1=>∀D,H1 D=none→sX J ls js g tt te σ H1 D Q
section
variable{X:Cx}{tg iter elt:Expr}{ifs:List Expr}{scope:Scope}{pos:Pos}{wi:TI}{g:TG}{tt:TT}{te:TE}{ls cs:List Str}{js:List Nat}
theorem vJ{pins:List (Addr×Obj)}{s:Shared}{σ:St}{H:Hp}{Q:VK}{use:Option (Value→Sem Unit)}{QQ:Value→Shared→Prop}(hc:X.calm=true)(S:bh X.N X.env.scope scope ls js cs)(hi:PI X tg iter wi)
  (hg:∀dD eY C fp pn,PG (gf X scope (ls++cs) dD eY C fp pn) tg g) (ht:∀dD eY C fp pn,N7 (gf X scope (ls++cs) dD eY C fp pn) ifs tt) (he:∀dD eY C fp pn,PE (gf X scope (ls++cs) dD eY C fp pn) elt te)
  (I:Inv X pins σ H s) (h:Ep wi ls js g tt te σ H Q)
  (R_:∀(D C:Addr)(H':Hp)(s':Shared)(m:Str→Option Value),Inv X pins σ H' s'→Q (.ref D) H'→s'.heap.Ns C m→iA X pins H' C→compPost (model X.prog X.w) X.A X.xe use QQ (.ref D) C (.ok .next) s')
  (hs:∀x,foldedSetIterable iter X.env x=pure x:=by intro _;rfl):
  wpAny (model X.prog X.w) X.A (comprehension (.ListComp elt [⟨tg,iter,ifs,0⟩] scope pos) scope X.env (firstIterPos [⟨tg,iter,ifs,0⟩] pos) (newList []) false (eval iter X.env) use) QQ X.xe s:=by
 refine wpAny_comprehension_free rfl hs (wH (S.has I.ok)) S.kind S.names (cH (hi pins s σ H _ I h) fun v s1 h1=>cH h1 fun RH s2 h2=>?_);obtain⟨it,fp,tn,J,H2,rfl,I2,T,dR,f2,hW⟩:=h2;have U4:∀b∈fp,b<s2.heap.objs.size:=fun b hb=>by
  obtain⟨o,e,_⟩:=T.obj 0 _ dR b hb;exact Zm e
 refine wpAny_newObj_type ?_;have hD:H2 s2.heap.objs.size=none:=I2.bX.fresh Zn;obtain⟨W,⟨m0,w0⟩,turn⟩:=hW _ hD;have I3:Inv X pins σ (upd H2 s2.heap.objs.size (.lst [])) {s2 with heap:=s2.heap.push {cls:= .type "list",dict:=none,data:= .seq ([]:List Value).toArray}}:=
  I2.laid (t':=s2.toks) (fun b u e=>Zp e) (Nat.le_refl _) ⟨Nat.zero_le _,[],0, .nil,Heap.get?_push_size _ rfl⟩
 have f3:∀b∈fp,iA X pins (upd H2 s2.heap.objs.size (.lst [])) b:=fun b hb=>⟨by rw[ak (Nat.ne_of_lt (U4 b hb))];exact(f2 b hb).1,(f2 b hb).2⟩
 generalize aaU:upd H2 s2.heap.objs.size (.lst [])=H3 at I3 f3 w0;generalize N8:({s2 with heap:=s2.heap.push {cls:= .type "list",dict:=none,data:= .seq ([]:List Value).toArray}}:Shared)=s3 at I3;have U5:∀b∈fp,b<s3.heap.objs.size:=fun b hb=>by
  rw[←N8];show b<(s2.heap.push _).objs.size;rw[Heap.size_push];exact Nat.lt_succ_of_lt (U4 b hb)
 have DX:tn 0 s3.heap:=T.keep 0 _ _ dR fun b hb o e=>by rw[←N8];exact Zp e
 refine wpAny_newFunctionEnv S.IW (by intro y hy;simp at hy) (fun h4 Qe N9=>?_) S.kind;have k4:∀b o,s3.heap.get? b=some o→h4.get? b=some o:=fun b o e=>N9.extBut b o (Nat.ne_of_lt (Zm e)) (Zp e)
 have I4:=Eo (h1:=h4) S I3 f3 U5 Qe k4;have W4:=I4.tok (s3.toks+([]:List (Str×Value)).length);have Qj:tn 0 h4:=T.keep 0 _ _ DX fun b hb o e=>k4 b o e
 show codeAny (model X.prog X.w) X.A (.compStart (.ListComp elt [⟨tg,iter,ifs,0⟩] scope pos) 0 (.ref it) (.ref s2.heap.objs.size) (compEnvC scope (fT X.env scope.names []) s3.heap.objs.size X.env)) (compPost (model X.prog X.w) X.A X.xe use QQ (.ref s2.heap.objs.size) s3.heap.objs.size) _;have zQ:∀{H':Hp},(∀b∈fp,H' b=none)→∀b∈fp,iA ξ [] H' b:=fun{H'} hn b hb=>by
  obtain⟨q1,q2,q3,q4,q5,q6⟩:=f3 b hb;refine⟨hn b hb,Nat.ne_of_lt (U5 b hb),fun hm=>?_, .inl hb,fun x c e=>q5 x c (kb (S.has I.ok) (fun y d z=>by simp at z) e),fun p hp=>q6 p (by simpa[gf]using hp)⟩;rcases List.mem_cons.mp (I3.sL b hm)with z|z
  ·exact q2 z
  ·exact q3 z
 have loop:codeAny (model X.prog X.w) X.A (.compLoop (.ListComp elt [⟨tg,iter,ifs,0⟩] scope pos) 0 (.ref it) (.ref s2.heap.objs.size) (compEnvC scope (fT X.env scope.names []) s3.heap.objs.size X.env)) (compPost (model X.prog X.w) X.A X.xe use QQ (.ref s2.heap.objs.size) s3.heap.objs.size)
   {s3 with heap:=h4,toks:=s3.toks+([]:List (Str×Value)).length}:=by
  refine wI (fun n s'=>∃i bj H',Inv ξ [] bj H' s'∧tn i s'.heap∧(∀b∈fp,H' b=none)∧∃ys,W i n ys bj H') ?_ m0 ⟨0,_,_,W4,Qj,fun b hb=>(f3 b hb).1,[],w0⟩;rintro n s5 ⟨i,Qk,H5,I5,Mt,P9,ys,w5⟩;rcases turn i n ys Qk H5 w5 with⟨stop,qn⟩|⟨go,N,hN,step⟩
  ·refine cH (T.done ξ rfl rfl rfl hc i [] s5 Qk H5 (fun _ _=>False) I5 (zQ P9) Mt stop) fun r s6 ⟨hr,I6⟩=>?_
   subst hr;obtain⟨m,hm,_⟩:=id I6.loc;have un:Un (ot X.stack) fp H3 H5 s3.heap s6.heap:=I6.base;have I7:Inv X pins σ H5 s6:=I3.Nk (ch:=fp) I6.os un I6.bX I6.bare fun b hb=>by
    obtain⟨q1,q2,q3,q4,q5,q6⟩:=f3 b hb;exact⟨q4,q2,q5,q6⟩
   have fc:iA X pins H5 s3.heap.objs.size:=I3.uH Zn I6.free;exact R_ _ _ H5 s6 m I7 qn hm fc
  ·refine cH (T.item ξ rfl rfl rfl hc i [] s5 Qk H5 (fun _ _=>False) I5 (zQ P9) Mt go) fun r s6 ⟨u,hr,h6⟩=>?_
   subst hr;refine cH h6 fun _ s7 ⟨x,H7,I7,r7,y7,Se,W5⟩=>?_
   have W6:=I7.pinned (zQ W5) (T.obj _ _ Se);refine cH (hg _ _ _ _ _ _ s7 Qk H7 x u _ W6 r7 (step x H7 y7)) fun _ s8 ⟨Ql,H8,I8,q8⟩=>?_
   refine cH (ht _ _ _ _ _ _ s8 Ql H8 _ I8 q8) fun b s9 ⟨H9,I9,q9⟩=>?_
   have again:∀{IY:List V}{bj:St}{H':Hp}{s':Shared},Inv ξ ([]++sN fp s7.heap) bj H' s'→N IY bj H'→
     ∃m,m<n∧∃i bj H',Inv ξ [] bj H' s'∧tn i s'.heap∧(∀b∈fp,H' b=none)∧∃ys,W i m ys bj H':=fun{IY bj H' s'} I' n'=>by
    obtain⟨m',yE,w'⟩:=hN IY bj H' n';refine⟨m',yE,i+1,bj,H',I'.lG,T.keep _ _ _ Se fun b hb o e=>(I'.pin (b,o) (Ε (Ε (gQ hb e)))).1,fun b hb=>?_,IY,w'⟩;obtain⟨o,e,d⟩:=T.obj _ _ Se b hb;exact(I'.pin (b,o) (Ε (Ε (gQ hb e)))).2.1
   cases b with
   |false=>exact again I9 q9
   |true=>
    refine cH (he _ _ _ _ _ _ s9 Ql H9 _ I9 q9) fun u2 IZ ⟨y,Gi,W7,W8,W9,hz,W_⟩=>?_
    refine cH (bQ _ IZ Ql Gi (.ref s2.heap.objs.size) [y] (.ref s2.heap.objs.size) [u2] (fun _ H'=>N (ys++[y]) Ql H') W7 rfl (.cons W8 .nil) ⟨_,ys,y,rfl,rfl,W9,hz,W_⟩) fun _ Cw ⟨_,I0,Xa,_,Xb⟩=>?_
    exact again Xa Xb
 exact codeAny_compStart_list loop (T.self _ 0 _ _ _ Qj loop)
theorem oK(hc:X.calm=true)(S:bh X.N X.env.scope scope ls js cs)(hi:PI X tg iter wi)
  (hg:∀dD eY C fp pn,PG (gf X scope (ls++cs) dD eY C fp pn) tg g) (ht:∀dD eY C fp pn,N7 (gf X scope (ls++cs) dD eY C fp pn) ifs tt) (he:∀dD eY C fp pn,PE (gf X scope (ls++cs) dD eY C fp pn) elt te)
  (hs:∀x,foldedSetIterable iter X.env x=pure x:=by intro _;rfl):PE X (.ListComp elt [⟨tg,iter,ifs,0⟩] scope pos) (Ep wi ls js g tt te):=by
 intro pins s σ H Q I h;rw[eval_ListComp];refine vJ (use:=none) hc S hi hg ht he I h (fun D C H' s' m I' q hm fc=>⟨m,hm,fun h' N9=>?_⟩) hs;obtain⟨q1,q2,q3,q4,q5,q6⟩:=fc;exact⟨.ref D,H',I'.turned (t':=s'.toks) (fun b o hb e=>N9.extBut b o hb e) q1 (Ne.symm (Ne.symm q2)) q4 q5 q6,rfl,q⟩
theorem iK{x:Str}{i:Nat}{pos' N_:Pos}(hc:X.calm=true)(hN:X.N.Nodup)(Br:X.N[i]?=some x)(hx:X.env.scope.names.lookup x=some .local)(S:bh X.N X.env.scope scope ls js cs)(hi:PI X tg iter wi)
  (hg:∀dD eY C fp pn,PG (gf X scope (ls++cs) dD eY C fp pn) tg g) (ht:∀dD eY C fp pn,N7 (gf X scope (ls++cs) dD eY C fp pn) ifs tt) (he:∀dD eY C fp pn,PE (gf X scope (ls++cs) dD eY C fp pn) elt te)
  (Sg:swapsWith (.ListComp elt [⟨tg,iter,ifs,0⟩] scope pos) (some (.Name x pos')) N_.line X.env=pure true:=by rfl)
  (hs:∀x,foldedSetIterable iter X.env x=pure x:=by intro _;rfl):PS X (.Assign [.Name x pos'] (.ListComp elt [⟨tg,iter,ifs,0⟩] scope pos) N_) (Kb (Ep wi ls js g tt te) (Bb i)):=by
 intro pins s σ H D I h;rw[exec_Assign_Name_used _ _ _ _ Sg];refine wpAny_bind (wpAny_standAt (ZX ?_));show wpAny _ X.A (do let _←comprehension (.ListComp elt [⟨tg,iter,ifs,0⟩] scope pos) scope X.env (firstIterPos [⟨tg,iter,ifs,0⟩] pos) (newList []) false (eval iter X.env) (some (assign (.Name x pos') X.env))) _ _ s;refine wpAny_bind (wpAny_mono (vJ (use:=some (assign (.Name x pos') X.env)) (QQ:=fun _ s'=>SP X pins D .next s') hc S hi hg ht he I h (fun Dl C H' s' m I' q hm fc=>?_) hs) (fun _ s' hq=>ZL (ZL hq)) fun _ _ e=>e);show wpAny _ X.A (assign (.Name x pos') X.env (.ref Dl)) _ _ _;obtain⟨q1,q2,q3,q4,q5,q6⟩:=fc;refine wpAny_assign_Name (vw (v:= .ref Dl) I' hN Br (.inl hx) rfl (fun s2 I2 ⟨a,N9,ha⟩=>?_) (.inr hx));have eX:C≠a:=by
  rcases ha with rfl|ha
  ·exact q2
  ·exact fun z=>q5 x a ha z.symm
 refine⟨m,hm.sameBut N9 eX,fun h' Sh=>?_⟩;exact⟨_,H',I2.turned (t':=s2.toks) (fun b o hb e=>Sh.extBut b o hb e) q1 q2 q4 q5 q6,q⟩
end
def Qm(z:Str):It:=⟨fun i _=>i<z.length,fun i H x H'=>H'=H∧∃c,z.cps.toList[i]?=some c∧x= .str ⟨#[c]⟩,fun i _=>z.length≤i⟩
theorem Es{P:Program}{w:World}{K:Frag}{tg:Expr}{it:Addr}{z:Str}{ty:String}{t:Tok}(DB:ty="str_ascii_iterator"∨ty="str_iterator"):Turn P w K tg (Qm z) [it] it (fun i h=>h.IsStrIter it ty z t i) where
 mem:=Wv
 obj:=fun i h st b hb=>by
  have e:b=it:=by simpa using hb
  subst e;obtain⟨o,e,c,d⟩:=st;exact⟨o,e,fun v z=>by rw[d]at z;cases z⟩
 keep:=fun i h h' st k=>let ⟨o,ho,r⟩:=st;⟨o,k it (Wv) o ho,r⟩
 item:=by
  intro X hP hw hK hc i pins s σ H E I hf st hg;subst hP hw hK;obtain⟨f0,f1,f2,f3,f4,f5⟩:=hf it (Wv);have hg:i<z.cps.size:=hg;have key:∀h',h'.IsStrIter it ty z t (i+1)→Heap.SameBut it s.heap h'→∃u,some (Value.str ⟨#[z.cps[i]]⟩ s.toks)=some u∧
    wpAny (model X.prog X.w) X.A (letOwnedTupleGo tg (.ref it) u) (fun _ s2=>∃x H',Inv X pins σ H' s2∧RelV x u∧(Qm z).GC i H x H'∧s2.heap.IsStrIter it ty z t (i+1)∧∀b∈[it],H' b=none) E {s with heap:=h',toks:=s.toks+1}:=fun h' aT sb=>by
   have I1:Inv X pins σ H {s with heap:=h',toks:=s.toks+1}:=I.turned (fun b o hb e=>(sb.2 b hb).trans e) f0 f1 f3 f4 f5;obtain⟨o,e,c,d⟩:=id aT;refine⟨_,rfl,yp (s:={s with heap:=h',toks:=s.toks+1}) e c d (by rcases DB with rfl|rfl<;>decide) ⟨.str ⟨#[z.cps[i]]⟩,H,I1,⟨_,rfl⟩,⟨rfl,z.cps[i],by simp[hg],rfl⟩,aT,fun b hb=>(hf b hb).1⟩⟩
  rcases DB with rfl|rfl
  ·exact wpAny_pyNext_ascii_item st (c:=z.cps[i]) (by simp[hg]) key
  ·exact wpAny_pyNext_wide_item st (c:=z.cps[i]) (by simp[hg]) key
 done:=by
  intro X hP hw hK hc i pins s σ H E I hf st hg;subst hP hw hK;obtain⟨f0,f1,f2,f3,f4,f5⟩:=hf it (Wv);have hg:z.cps.size≤i:=hg;rcases DB with rfl|rfl
  ·exact wpAny_pyNext_ascii_end (I.ok.hd hc) st (by simp[hg]) fun h' eb=>⟨rfl,I.turned (t':=s.toks) (fun b o hb e=>eb b o hb e) f0 f1 f3 f4 f5⟩
  ·exact wpAny_pyNext_wide_end (I.ok.hd hc) st (by simp[hg]) fun h' eb=>⟨rfl,I.turned (t':=s.toks) (fun b o hb e=>eb b o hb e) f0 f1 f3 f4 f5⟩
 self:=fun _ _ _ _ _ st h=>by
  rcases DB with rfl|rfl
  ·exact wpAny_pyIter_striter_ascii st h
  ·exact wpAny_pyIter_striter_wide st h
section
variable{X:Cx}{tg:Expr}
def Si(tl:TE):TI:=fun σ H R=>tl σ H fun x H1=>∃z,x= .str z∧R (Qm z) H1
theorem KO{l:Expr}{tl:TE}(hl:PE X l tl):PI X tg l (Si tl):=by
 intro pins s σ H R I h;refine cH (hl pins s σ H _ I h) fun v s1 ⟨x,H1,I1,r1,q1⟩=>?_
 obtain⟨z,e,q⟩:=q1;subst e;obtain⟨t,rfl⟩:=r1;refine wpAny_pyIter_strU ?_;refine⟨s1.heap.objs.size,[s1.heap.objs.size],_,_,H1,rfl,I1.kept (t':=s1.toks) fun b o e=>Zp e,Es (ty:=strIterType z) (t:=t) (by unfold strIterType;split<;>simp),⟨_,Heap.get?_push_size _ rfl,rfl,rfl⟩,fun b hb=>?_,q⟩;have e:b=s1.heap.objs.size:=by simpa using hb
 subst e;exact I1.uH Zn (I1.bX.fresh Zn)
end
theorem oM{J:It}{n:Nat}{ls:List Str}{js:List Nat}{g:TG}{tt:TT}{te:TE}{σ:St}{H1:Hp}{D:Addr}{Q:VK}(Pv:Nat→List V→St→Hp→Prop)
  (h0:Pv 0 [] (lJ ls js σ) (upd H1 D (.lst []))) (Ha:∀i ys σ H,i<n→Pv i ys σ H→J.go i H) (vx:∀ys σ H,Pv n ys σ H→J.stop n H)
  (hs:∀i ys σ H x H2,i<n→Pv i ys σ H→J.GC i H x H2→g x σ H2 fun f' H3=>tt f' H3 fun b H4=>if b=true then te f' H4 fun y H5=>H5 D=some (.lst ys)∧ys.length<sizeLine∧Pv (i+1) (ys++[y]) f' (upd H5 D (.lst (ys++[y])))else Pv (i+1) ys f' H4)
  (hd:∀ys σ H,Pv n ys σ H→Q (.ref D) H):
  sX J ls js g tt te σ H1 D Q:=by
 refine⟨fun i m ys σ H=>m=n-i∧i≤n∧Pv i ys σ H,⟨n,Wv,Nat.zero_le _,h0⟩,?_⟩;rintro i m ys σ H ⟨rfl,hi,p⟩;by_cases gR:i<n
 ·exact .inr ⟨Ha i ys σ H gR p,Pv (i+1),fun IY f' H2 p'=>⟨n-(i+1),by lia,rfl,gR,p'⟩,fun x H2 y=>hs i ys σ H x H2 gR p y⟩
 ·have e:i=n:=by lia
  subst e;exact .inl ⟨vx ys σ H p,hd ys σ H p⟩
theorem fv{K:Frag}{a:Addr}{xs:List V}{ls:List Str}{js:List Nat}{g:TG}{tt:TT}{te:TE}{σ:St}{H1:Hp}{D:Addr}{Q:VK}(Pv:Nat→List V→St→Hp→Prop)
  (h0:Pv 0 [] (lJ ls js σ) (upd H1 D (.lst []))) (hl:∀i ys σ H,i≤xs.length→Pv i ys σ H→iE K H a xs)
  (hs:∀i x ys σ H,xs[i]?=some x→Pv i ys σ H→g x σ H fun f' H3=>tt f' H3 fun b H4=>if b=true then te f' H4 fun y H5=>H5 D=some (.lst ys)∧ys.length<sizeLine∧Pv (i+1) (ys++[y]) f' (upd H5 D (.lst (ys++[y])))else Pv (i+1) ys f' H4)
  (hd:∀ys σ H,Pv xs.length ys σ H→Q (.ref D) H):
  sX (Mr K a) ls js g tt te σ H1 D Q:=
 oM (n:=xs.length) Pv h0 (fun i ys σ H hi p=>⟨xs,xs[i],hl i ys σ H (Nat.le_of_lt hi) p,by simp[hi]⟩) (fun ys σ H p=>⟨xs,hl _ ys σ H Zn p,Nat.le_refl _⟩)
  (fun i ys σ H x H2 hi p y=>by
   obtain⟨e,y⟩:=y;subst e;exact hs i x ys σ _ (y xs (hl i ys σ _ (Nat.le_of_lt hi) p)) p) hd
theorem Ad{lo:Int}{n:Nat}{ls:List Str}{js:List Nat}{g:TG}{tt:TT}{te:TE}{σ:St}{H1:Hp}{D:Addr}{Q:VK}(Pv:Nat→List V→St→Hp→Prop)
  (h0:Pv 0 [] (lJ ls js σ) (upd H1 D (.lst [])))
  (hs:∀i ys σ H,i<n→Pv i ys σ H→g (.int (lo+i)) σ H fun f' H3=>tt f' H3 fun b H4=>if b=true then te f' H4 fun y H5=>H5 D=some (.lst ys)∧ys.length<sizeLine∧Pv (i+1) (ys++[y]) f' (upd H5 D (.lst (ys++[y])))else Pv (i+1) ys f' H4)
  (hd:∀ys σ H,Pv n ys σ H→Q (.ref D) H):
  sX (Kd lo n) ls js g tt te σ H1 D Q:=
 oM (n:=n) Pv h0 (fun i ys σ H hi p=>hi) (fun ys σ H p=>Nat.le_refl _)
  (fun i ys σ H x H2 hi p y=>by
   obtain⟨e,y⟩:=y;subst e y;exact hs i ys σ _ hi p) hd
theorem Et{z:Str}{ls:List Str}{js:List Nat}{g:TG}{tt:TT}{te:TE}{σ:St}{H1:Hp}{D:Addr}{Q:VK}(Pv:Nat→List V→St→Hp→Prop)
  (h0:Pv 0 [] (lJ ls js σ) (upd H1 D (.lst [])))
  (hs:∀i c ys σ H,z.cps.toList[i]?=some c→Pv i ys σ H→g (.str ⟨#[c]⟩) σ H fun f' H3=>tt f' H3 fun b H4=>if b=true then te f' H4 fun y H5=>H5 D=some (.lst ys)∧ys.length<sizeLine∧Pv (i+1) (ys++[y]) f' (upd H5 D (.lst (ys++[y])))else Pv (i+1) ys f' H4)
  (hd:∀ys σ H,Pv z.length ys σ H→Q (.ref D) H):
  sX (Qm z) ls js g tt te σ H1 D Q:=
 oM (n:=z.length) Pv h0 (fun i ys σ H hi p=>hi) (fun ys σ H p=>Nat.le_refl _)
  (fun i ys σ H x H2 hi p y=>by
   obtain⟨e,c,hc,ex⟩:=y;subst e ex;exact hs i c ys σ _ hc p) hd
theorem vK(z:Str)(lo hi:Option Int):(Txt.slice z lo hi).cps.toList=(z.cps.toList.drop (HT.j7 z.length 0 lo)).take (HT.j7 z.length z.length hi-HT.j7 z.length 0 lo):=by
 have aaL:=HT.Ed z.length 0 (Nat.zero_le _) lo;have aai:=HT.Ed z.length z.length Zn hi;have ix:Builtin.Str.strSliceIndices lo hi 1 z.length=(Zj (HT.j7 z.length z.length hi-HT.j7 z.length 0 lo)).map (HT.j7 z.length 0 lo+·):=by
  rw[←sliceRange_one];have pos:(1:Int)>0:=U7;cases lo with
  |none=>
   cases hi with
   |none=>rfl
   |some j=>
    simp only[Builtin.Str.strSliceIndices,HT.j7,pos,if_true]
    congr 1
    by_cases h:j<0
    ·simp only[h,if_true];lia
    ·simp only[h,if_false];lia
  |some i=>
   have e1:max 0 (min (if i<0 then i+(z.length:Int)else i) (z.length:Int))=((HT.j7 z.length 0 (some i):Nat):Int):=by
    simp only[HT.j7];by_cases h:i<0
    ·simp only[h,if_true];lia
    ·simp only[h,if_false];lia
   cases hi with
   |none=>
    simp only[Builtin.Str.strSliceIndices,pos,if_true];rw[e1];rfl
   |some j=>
    have e2:max 0 (min (if j<0 then j+(z.length:Int)else j) (z.length:Int))=((HT.j7 z.length z.length (some j):Nat):Int):=by
     simp only[HT.j7];by_cases h:j<0
     ·simp only[h,if_true];lia
     ·simp only[h,if_false];lia
    simp only[Builtin.Str.strSliceIndices,pos,if_true];rw[e1,e2]
 have hp:=pick_run z.cps (HT.j7 z.length 0 lo) (HT.j7 z.length z.length hi-HT.j7 z.length 0 lo);unfold Txt.slice;rw[ix];split
 ·rename_i h
  simp only[List.length_map,List.length_range,beq_self_eq_true,Bool.true_and,beq_iff_eq]at h;have h0:HT.j7 z.length 0 lo=0:=by lia
  have h1:HT.j7 z.length z.length hi=z.length:=by lia
  rw[h0,h1,List.drop_zero,Nat.sub_zero,List.take_of_length_le (by simp[Str.length])]
 ·rw[←hp]
theorem vL(z:Str)(lo hi:Option Int):(Txt.slice z lo hi).length≤z.length:=Txt.slice_le z lo hi
section
variable{X:Cx}
def Sj:V→Option Int→Option Int→Hp→VK→Prop:=fun x lo hi H Q=>∃z,x= .str z∧z.length≤sizeLine∧Q (.str (Txt.slice z lo hi)) H
theorem Ae:Qa X Sj:=by
 intro pins s σ H x v vl vu lo hi sl Q I rx hs pl pu h;obtain⟨z,rfl,hz,q⟩:=h;obtain⟨t,rfl⟩:=rx;refine⟨"str",_,F.slot_str_getitem.lookup,typeIs_str _ _ _,?_⟩;have go:∀l u:Option (Int×Tok),vl=partValue l→vu=partValue u→l.map (·.1)=lo→u.map (·.1)=hi→wpAny (model X.prog X.w) X.A (getItem (.str z t) (.ref sl)) (EP X pins σ Q) X.xe s:=by
  rintro l u rfl rfl rfl rfl;obtain⟨o,h1,h2,h3⟩:=hs;refine wpAny_getItem_str_slice (l:=l) (u:=u) (st:=none) ⟨o,h1,h2,h3⟩ rfl ?_;exact post_val_or_str ⟨Nat.le_trans (Txt.slice_le z _ _) hz,fun t' k=>⟨.str (Txt.slice z (l.map (·.1)) (u.map (·.1))),H,I.tok _,⟨_,rfl⟩,q⟩⟩
 cases pl with
 |none=>
  cases pu with
  |none=>exact go none none rfl rfl rfl rfl
  |int j tj=>exact go none (some (j,tj)) rfl rfl rfl rfl
 |int i ti=>
  cases pu with
  |none=>exact go (some (i,ti)) none rfl rfl rfl rfl
  |int j tj=>exact go (some (i,ti)) (some (j,tj)) rfl rfl rfl rfl
theorem vM:rl X (compareOp .LtE) (fun x y H Q=>∃i j,x= .str i∧y= .str j∧Q (.bl (!decide (j.cps.toList<i.cps.toList))) H):=by
 intro pins s σ H x y v u Q I rx ry h;obtain⟨i,j,rfl,rfl,q⟩:=h;obtain⟨t,rfl⟩:=rx;obtain⟨t',rfl⟩:=ry;exact P.le_str (bH I q rfl)
theorem Hb{bs:List Bool}{us:List Value}(r:Vals (bs.map V.bl) us)(i:Nat)(v:Value)(h:us[i]?=some v):v= .bool (bs.getD i false):=by
 induction bs generalizing us i with
 |nil=>cases r;simp at h
 |cons b r' ih=>
  cases r with
  |cons r0 rr=>
   cases i with
   |zero=>
    have h0:some _=some v:=h;cases h0;exact r0
   |succ i=>simpa using ih rr i (by simpa using h)
theorem all_range(bs:List Bool):(Zj bs.length).all (fun i=>bs.getD i false)=bs.all id:=by
 rw[Bool.eq_iff_iff,List.all_eq_true,List.all_eq_true];constructor
 ·intro h b hb;obtain⟨i,hi,rfl⟩:=List.mem_iff_getElem.mp hb;have:=h i (by simpa using hi);simpa[hi]using this
 ·intro h i hi;have hi:i<bs.length:=by simpa using hi
  simpa[hi]using h bs[i] (List.getElem_mem hi)
def Oa(K:Frag)(f:List Bool→Bool):List V→Hp→VK→Prop:=fun xs H Q=>∃a bs,xs=[.ref a]∧iE K H a (bs.map V.bl)∧Q (.bl (f bs)) H
theorem Eu(hc:X.calm=true):i6 X (.builtin "all") (Oa X.K fun bs=>bs.all id):=by
 intro pins s σ H xs us Q I r h;obtain⟨a,bs,rfl,hq,q⟩:=h;cases r with
 |cons r rr=>
  cases rr;cases r;obtain⟨its,rv,p,hz⟩:=I.list hq;have hl:=rv.length;rw[List.length_map]at hl;refine call_all_walk (wpAny_pyIter_list p.isList ?_);have eX:a≠s.heap.objs.size:=by
   obtain⟨o,n,e,_⟩:=p;exact Nat.ne_of_lt (Zm e)
  refine⟨s.heap.objs.size,_,_,_,_,_,fun i=>bs.getD i false,rfl,Walks.list (A:=X.A.in1) (show X.A.in1.handled=none from I.ok.hd hc) _ a eX its.toArray,⟨⟨_,Heap.get?_push_size _ rfl,rfl,rfl⟩,p.isList.at fun o e=>Zp e⟩,fun i v s1 Q1 E1 hv q1=>?_,fun h' tk hk=>?_⟩
  ·have hv:=Hb rv i v (by simpa using hv);subst hv;exact wpAny_truthy_bool q1
  ·rw[List.size_toArray,←hl,all_range];refine⟨.bl (bs.all id),H,I.kept fun b o e=>hk b o (fun z=>?_) (Zp e),rfl,q⟩;have z:b=s.heap.objs.size:=by simpa using z
   exact ZE (z▸Zm e) (Nat.lt_irrefl _)
def I_:V→Option Value
 | .ty n=>some (.type n)
 | .ref C=>some (.ref C)
 | _=>none
theorem Cy{c:V}{cv u:Value}(h:I_ c=some cv)(r:RelV c u):u=cv:=by
 cases c<;>first
  |(cases h;done)
  |(cases h;exact r)
inductive KP(K:Frag)(xs:List V)(H:Hp)(Q:VK):Prop
 |mk (x:_) (c:_) (t:_) (b:_) (cv:_) (_:xs=[x,c]) (_:I_ c=some cv) (_:qi K H x t) (_:kitOne K t cv=some b) (_:Q (.bl b) H):KP K xs H Q
theorem Ew:i6 X (.builtin "isinstance") (KP X.K):=by
 intro pins s σ H xs us Q I r h;obtain⟨x,c,t,b,cv,rfl,rc,ty,hk,q⟩:=h;cases r with
 |cons r1 rr=>
  cases rr with
  |cons r2 rr=>
   cases rr;cases Cy rc r2;exact Cn I r1 ty hk fun tk=>⟨.bl b,H,I.tok _,rfl,q⟩
end
section
variable{P:Program}{w:World}{K:Frag}{mg:Str→Option Value}{base:Heap}
abbrev Qn(P:Program)(w:World)(K:Frag)(mg:Str→Option Value)(base:Heap)(cm:Bool)(N:List Str)(qual:Str)(scope:Scope)(f:Addr)(cd:Value)(A:Around)(outer:List Env)(s:Shared)(H:Hp)(E:XK):Cx:=
 zY (cW P w) cm P w K mg base N qual scope f cd A outer s H E
theorem jw.gM{cm:Bool}{x qual:Str}{st:Stmt}{f:Addr}{fd:FuncData}{N ps:List Str}{k:Nat}{sp:Sp}(F:jw K x qual st f fd)(S:aM N ps (ar st))(len:∀vs H Q E,sp vs H Q E→vs.length=ps.length)
  (yt:∀(bS:Value)(A:Around)(outer:List Env)(s:Shared)(H:Hp)(vs:List V)(Q:VK)(E:XK),eV cm k (A.deeper (envOfC qual (ar st) s.heap.objs.size f bS))→sp vs H Q E→
   Qg (Qn P w K mg base cm N qual (ar st) f bS A outer s H E) (fun _=>E)→
   ∃t,Ce (Qn P w K mg base cm N qual (ar st) f bS A outer s H E) (eL st) t∧t {nx:=fun _ H'=>Q .cK H',rt:=Q} (start N vs) H):a7 P w K mg base (cW P w) cm (k+1) f fd ps sp:=by
 obtain⟨oc,od,kV,doc,pm,an,bS,ct,Bj,rfl,lk,Cf⟩:=F.ex;exact IM lk Cf S len fun A outer s H vs Q E hr Gh=>yt bS A outer s H vs Q E hr Gh Bp
end
def bK(P:Program)(w:World)(K:Frag)(mg:Str→Option Value)(base:Heap)(cm:Bool)(k:Nat)(x:Str)(ps:List Str)(sp:Sp):Prop:=
 ∃f fd,a7 P w K mg base (cW P w) cm k f fd ps sp∧mg x=some (.ref f)∧keepIn K (.ref f)=true∧Binds K fd ps []
theorem Ex{P:Program}{w:World}{K:Frag}{mg:Str→Option Value}{base:Heap}{cm:Bool}{k:Nat}{x y:Str}{ps:List Str}{sp:Sp}{st:Stmt}{f:Addr}{fd:FuncData}(F:jw K x y st f fd)(hm:mg x=some (.ref f))(b:Binds K fd ps [])
  (ok:a7 P w K mg base (cW P w) cm k f fd ps sp):bK P w K mg base cm k x ps sp:=⟨f,fd,ok,hm,F.kp,b⟩
section
variable{X:Cx}{cm:Bool}{k:Nat}{x:Str}{ps:List Str}{sp:Sp}{E:St→XK}{e:Expr}{es:List Expr}{t:TA}{p pos:Pos}
theorem aK(D:bK X.prog X.w X.K X.mg X.base cm k x ps sp)(hr:eV cm k X.A)(hx:Passes (cW X.prog X.w) X E)(ha:PA X (e::es) t)(hg:Gl X x:=by rfl)(wt:(x==("__debug__":Str))=false:=by decide)
  (he:starEach (e::es) X.env=(false,eval e X.env)::starEach es X.env:=by rfl) (rA:(backTo pos (starEach es X.env)).any (·.1)=false:=by rfl):PE X (.Call (.Name x p) (e::es) [] pos) (IL sp [] E t):=by
 obtain⟨f,fd,ok,hm,hk,hb⟩:=D;exact GK ok hr hg hm hk hb .nil hx ha wt he rA
theorem fM{v:V}(h:∃u,X.mg x=some u∧RelV v u)(hg:Gl X x:=by rfl)(hd:(x==("__debug__":Str))=false:=by decide):PE X (.Name x pos) (tC v):=by
 obtain⟨u,h1,h2⟩:=h;exact Ba hg h1 h2 hd
end
theorem sr{σ:St}{H:Hp}{A B:Hp→Prop}(h:A H):KN σ H (fun b H4=>if b=true then A H4 else B H4):=by
 show if true=true then A H else B H
 exact jV h
theorem lK{i:Nat}{x:V}{σ:St}{H:Hp}{A B:St→Hp→Prop}(h:A (σ.set i (some x)) H):Bb i x σ H (fun f' H3=>KN f' H3 (fun b H4=>if b=true then A f' H4 else B f' H4)):=by
 show if true=true then A (σ.set i (some x)) H else B (σ.set i (some x)) H
 exact jV h
theorem aF{n:Nat}(h:n≤100000):n≤sizeLine:=Nat.le_trans h (U7)
theorem a9{n:Nat}(h:n≤100000):n<sizeLine:=Nat.lt_of_le_of_lt h (U7)
def Sk(t u:TS):TS:=fun D σ H=>∃Pm:St→Hp→Prop,t {D with nx:=Pm} σ H∧∀bj H',Pm bj H'→u D bj H'
theorem aC{X:Cx}{st:Stmt}{rest:List Stmt}{t u:TS}(h1:PS X st t)(h2:Ce X rest u):Ce X (st::rest) (Sk t u):=by
 intro pins s σ H D I h;obtain⟨Pm,ht,hu⟩:=h;refine wpAny_execs_cons (cH (h1 pins s σ H {D with nx:=Pm} I ht) fun f s1 q=>?_);cases f with
 |next=>obtain⟨bj,H',I',p⟩:=q;exact h2 pins s1 bj H' D I' (hu bj H' p)
 |brk=>exact q
 |cont=>exact q
 |ret v=>exact q
theorem ax.upd{H:Hp}{a:Addr}{o:HO}(h:H a=none):ax H (upd H a o):=fun b u e=>by rw[ak (aE e h)];exact e
theorem ax.eI{H H':Hp}{a:Addr}{o:HO}(s:ax H H')(h:H a=none):ax H (L2.upd H' a o):=fun b u e=>by rw[ak (aE e h)];exact s b u e
end L2
namespace QF
open PySem L2
theorem qc{n:Nat}{P:List Value→Prop}(h:∀a us,us.length=n→P (a::us)):∀us:List Value,us.length=n+1→P us:=fun us e=>by
 cases us with
 |nil=>cases e
 |cons a r=>exact h a r (Nat.succ.inj e)
theorem KR{P:List Value→Prop}(h:P []):∀us:List Value,us.length=0→P us:=fun us e=>by
 cases us with
 |nil=>exact h
 |cons a r=>cases e
theorem Xe{P:List Value→Prop}(h:∀a,P [a]):∀us:List Value,us.length=1→P us:=qc fun a=>KR (h a)
theorem Xf{P:List Value→Prop}(h:∀a b,P [a,b]):∀us:List Value,us.length=2→P us:=qc fun a=>qc fun b=>KR (h a b)
theorem Xg{P:List Value→Prop}(h:∀a b c,P [a,b,c]):∀us:List Value,us.length=3→P us:=qc fun a=>qc fun b=>qc fun c=>KR (h a b c)
theorem Xh{P:List Value→Prop}(h:∀a b c d,P [a,b,c,d]):∀us:List Value,us.length=4→P us:=qc fun a=>qc fun b=>qc fun c=>qc fun d=>KR (h a b c d)
theorem Xi{P:List Value→Prop}(h:∀a b c d e,P [a,b,c,d,e]):∀us:List Value,us.length=5→P us:=qc fun a=>qc fun b=>qc fun c=>qc fun d=>qc fun e=>KR (h a b c d e)
theorem Xj{P:List Value→Prop}(h:∀a b c d e f,P [a,b,c,d,e,f]):∀us:List Value,us.length=6→P us:=qc fun a=>qc fun b=>qc fun c=>qc fun d=>qc fun e=>qc fun f=>KR (h a b c d e f)
theorem Xk{P:List Value→Prop}(h:∀a b c d e f g,P [a,b,c,d,e,f,g]):∀us:List Value,us.length=7→P us:=qc fun a=>qc fun b=>qc fun c=>qc fun d=>qc fun e=>qc fun f=>qc fun g=>KR (h a b c d e f g)
theorem Sl(us:List Value)(e:us.length=7):∃a b c d e f g,us=[a,b,c,d,e,f,g]:=Xk (P:=fun us=>∃a b c d e f g,us=[a,b,c,d,e,f,g]) (fun a b c d e f g=>⟨a,b,c,d,e,f,g,rfl⟩) us e
end QF
namespace L2
open PySem PySem.Spec PyProof.Rows PySem.W PySem.Calls
def notStar:Expr→Bool
 | .Starred _ _=>false
 | _=>true
theorem sY{e:Expr}{es:List Expr}{env:Env}(h:notStar e=true):starEach (e::es) env=(false,eval e env)::starEach es env:=by
 cases e<;>first|rfl|cases h
theorem aj{X:Cx}{e:Expr}{es:List Expr}{te:TE}{t:TA}(ha:PE X e te)(hr:PA X es t)(hn:notStar e=true:=by rfl):PA X (e::es) (IK te t):=GJ ha hr (sY hn)
structure iB(K:Frag)(x qual:Str)(st:Stmt)(f:Addr)(fd:FuncData):Prop where
 ex:∃(oc:Value)(od:Option Addr)(dV kV doc pm:Value)(an:Option Addr)(bS ct:Value)(Bj:Array (Option Value)),
  fd=fnOf x qual (fK st) (eL st) (ar st) dV kV doc pm an bS ct∧K.lookup f=some ⟨oc,od, .func fd,Bj⟩∧codeIn K bS qual=true
 kp:keepIn K (.ref f)=true
theorem Bt{K:Frag}{x qual:Str}{st:Stmt}{f:Addr}{oc:Value}{od an:Option Addr}{Bj:Array (Option Value)}{dV kV doc pm bS ct:Value}(l:K.lookup f=some ⟨oc,od, .func (fnOf x qual (fK st) (eL st) (ar st) dV kV doc pm an bS ct),Bj⟩)
  (c:codeIn K bS qual=true) (k:keepIn K (.ref f)=true):iB K x qual st f (fnOf x qual (fK st) (eL st) (ar st) dV kV doc pm an bS ct):=⟨⟨oc,od,dV,kV,doc,pm,an,bS,ct,Bj,rfl,l,c⟩,k⟩
section
variable{P:Program}{w:World}{K:Frag}{mg:Str→Option Value}{base:Heap}
theorem iB.gM{cm:Bool}{x qual:Str}{st:Stmt}{f:Addr}{fd:FuncData}{N ps:List Str}{k:Nat}{sp:Sp}(F:iB K x qual st f fd)(S:aM N ps (ar st))(len:∀vs H Q E,sp vs H Q E→vs.length=ps.length)
  (yt:∀(bS:Value)(A:Around)(outer:List Env)(s:Shared)(H:Hp)(vs:List V)(Q:VK)(E:XK),eV cm k (A.deeper (envOfC qual (ar st) s.heap.objs.size f bS))→sp vs H Q E→
   Qg (Qn P w K mg base cm N qual (ar st) f bS A outer s H E) (fun _=>E)→
   ∃t,Ce (Qn P w K mg base cm N qual (ar st) f bS A outer s H E) (eL st) t∧t {nx:=fun _ H'=>Q .cK H',rt:=Q} (start N vs) H):a7 P w K mg base (cW P w) cm (k+1) f fd ps sp:=by
 obtain⟨oc,od,dV,kV,doc,pm,an,bS,ct,Bj,rfl,lk,Cf⟩:=F.ex;exact IM lk Cf S len fun A outer s H vs Q E hr Gh=>yt bS A outer s H vs Q E hr Gh Bp
end
def eJ(P:Program)(w:World)(K:Frag)(mg:Str→Option Value)(base:Heap)(cm:Bool)(k:Nat)(C:Addr)(m:Str)(ps:List Str)(sp:Sp):Prop:=
 ∃f fd,a7 P w K mg base (cW P w) cm k f fd ps sp∧Meth K C m f∧Binds K fd ps []∧wm K C
def m3(P:Program)(w:World)(K:Frag)(mg:Str→Option Value)(base:Heap)(cm:Bool)(k:Nat)(x:Str)(C:Addr)(ps:List Str)(mq:List V)(sp:Sp):Prop:=
 ∃f fd ds,a7 P w K mg base (cW P w) cm k f fd ps sp∧Mk K C f∧mg x=some (.ref C)∧Binds K fd ps ds∧Vals mq ds
theorem yF{P:Program}{w:World}{K:Frag}{mg:Str→Option Value}{base:Heap}{cm:Bool}{k:Nat}{x:Str}{C f:Addr}{fd:FuncData}{ps:List Str}{mq:List V}{ds:List Value}{sp:Sp}(h1:a7 P w K mg base (cW P w) cm k f fd ps sp)(h2:Mk K C f)(h3:mg x=some (.ref C))(h4:Binds K fd ps ds)(h5:Vals mq ds):m3 P w K mg base cm k x C ps mq sp:=⟨f,fd,ds,h1,h2,h3,h4,h5⟩
theorem Cz{P:Program}{w:World}{K:Frag}{mg:Str→Option Value}{base:Heap}{cm:Bool}{k:Nat}{m:Str}{C f:Addr}{fd:FuncData}{ps:List Str}{sp:Sp}(h1:a7 P w K mg base (cW P w) cm k f fd ps sp)(h2:Meth K C m f)(h3:Binds K fd ps [])(h4:wm K C):eJ P w K mg base cm k C m ps sp:=⟨f,fd,h1,h2,h3,h4⟩
section
variable{X:Cx}{cm:Bool}{k:Nat}{x m:Str}{ps:List Str}{sp:Sp}{E:St→XK}{e o:Expr}{es:List Expr}{t:TA}{to:TE}{p pos apos:Pos}{C:Addr}{mq:List V}
theorem su(D:m3 X.prog X.w X.K X.mg X.base cm k x C ps mq sp)(hr:eV cm (k+1) X.A)(hx:Passes (cW X.prog X.w) X E)(ha:PA X (e::es) t)(hg:Gl X x:=by rfl)(wt:(x==("__debug__":Str))=false:=by decide)
  (he:starEach (e::es) X.env=(false,eval e X.env)::starEach es X.env:=by rfl) (rA:(backTo pos (starEach es X.env)).any (·.1)=false:=by rfl):PE X (.Call (.Name x p) (e::es) [] pos) (Bi C sp mq E t):=by
 obtain⟨f,fd,ds,ok,M,hm,hb,hd⟩:=D;exact GN M ok hr hg hm hb hd hx ha wt he rA
theorem bL{pl:Sem Bool}(ho:PE X o to)(D:eJ X.prog X.w X.K X.mg X.base cm k C m ps sp)(hr:eV cm k X.A)(hx:Passes (cW X.prog X.w) X E)(ha:PA X (e::es) t)
  (vx:starEach (e::es) X.env=(false,eval e X.env)::starEach es X.env:=by rfl) (rA:(backTo pos (starEach es X.env)).any (·.1)=false:=by rfl)
  (ht:eval (.Call (.Attribute o m apos) (e::es) [] pos) X.env=(do
   let ov←eval o X.env
   standAt apos.atName
   let (f,first)←holding [ov] (getMethod ov m pl)
   callWith pos f first (backTo pos (starEach (e::es) X.env)) (backToKw pos (keywordEach [] X.env))):=by rfl):PE X (.Call (.Attribute o m apos) (e::es) [] pos) (Bh C m sp [] E to t):=by
 obtain⟨f,fd,ok,hm,hb,c⟩:=D;exact GL ho c hm ok hr hb .nil hx ha vx rA ht
theorem CA{pl:Sem Bool}(ho:PE X o to)(D:eJ X.prog X.w X.K X.mg X.base cm k C m ps sp)(hr:eV cm k X.A)(hx:Passes (cW X.prog X.w) X E)
  (ht:eval (.Call (.Attribute o m apos) [] [] pos) X.env=(do
   let ov←eval o X.env
   standAt apos.atName
   let (f,first)←holding [ov] (getMethod ov m pl)
   callWith pos f first (backTo pos (starEach [] X.env)) (backToKw pos (keywordEach [] X.env))):=by rfl):PE X (.Call (.Attribute o m apos) [] [] pos) (Bh C m sp [] E to D6):=by
 obtain⟨f,fd,ok,hm,hb,c⟩:=D;exact D8 ho c hm ok hr hb .nil hx ht
end
section
variable{X:Cx}
theorem ba(K:Frag){tg l:Expr}{tl:TE}(hl:PE X l tl)(h:X.K=K:=by rfl):PI X tg l (IH K tl):=h▸GD hl
theorem aD(K:Frag){e:Expr}{f:Str}{pos:Pos}{ta:TE}(he:PE X e ta)(hb:attributeBase e f X.env (eval e X.env)=eval e X.env:=by rfl)(h:X.K=K:=by rfl):PE X (.Attribute e f pos) (NC K ta f):=h▸Ki he hb
theorem cn(K:Frag){o value:Expr}{f:Str}{pos pos':Pos}{ta tv:TE}(ha:PE X o ta)(hv:PE X value tv)(hs:swapsWith value (some (.Attribute o f pos')) pos.line X.env=pure false:=by rfl)(h:X.K=K:=by rfl):PS X (.Assign [.Attribute o f pos'] value pos) (ND K ta tv f):=h▸Kj ha hv hs
theorem aq(K:Frag)(h:X.K=K:=by rfl):Mu X (Kt K):=h▸GX
theorem bT(K:Frag)(h:X.K=K:=by rfl):Mu X (Ku K):=h▸Kv
theorem sZ(K:Frag)(h:X.K=K:=by rfl):Qa X (Kz K):=h▸GY
inductive Ja(K:Frag)(xs:List V)(H:Hp)(Q:VK):Prop
 |mk (p:_) (ys:_) (_:xs=[.ref p]) (_:(iE K H p ys∨DT K H p ys)) (_:Q (.int ys.length) H):Ja K xs H Q
theorem aL(K:Frag)(h:X.K=K:=by rfl):i6 X (.builtin "len") (Ja K):=by
 subst h;intro pins s σ H xs us Q I r hq;obtain⟨p,ys,e,d,q⟩:=hq;exact wD pins s σ H xs us Q I r ⟨p,ys,e,d,q⟩
inductive Bu(K:Frag)(xs:List V)(H:Hp)(Q:VK):Prop
 |mk (p:_) (ys:_) (_:xs=[.ref p]) (_:(iE K H p ys∨DT K H p ys)) (_:∀l,H l=none→Q (.ref l) (upd H l (.lst ys))):Bu K xs H Q
theorem fF(K:Frag)(h:X.K=K:=by rfl):i6 X (.type "list") (Bu K):=by
 subst h;intro pins s σ H xs us Q I r hq;obtain⟨p,ys,e,d,q⟩:=hq;exact wF pins s σ H xs us Q I r ⟨p,ys,e,d,q⟩
theorem CB(K:Frag)(hc:X.calm=true)(h:X.K=K:=by rfl):i6 X (.builtin "all") (Oa K fun bs=>bs.all id):=h▸Eu hc
theorem f6(K:Frag)(h:X.K=K:=by rfl):i6 X (.builtin "isinstance") (KP K):=h▸Ew
theorem fN(K:Frag){es:List Expr}{k:Nat}{t:IG}{n:Nat}{pos:Pos}(hc:X.calm=true)(h:Nt X es t)
  (hn:(assignEach es X.env).length=n:=by rfl) (vx:(assignEach es X.env).findIdx? (·.1)=none:=by rfl) (hK:X.K=K:=by rfl):PG X (.Tuple es k pos) (J_ K n t):=hK▸J' hc h hn vx
theorem dE(K:Frag){T:String}{name:Str}{id:String}{r:V→List V→Hp→VK→Prop}{o e:Expr}{es:List Expr}{apos eG:Pos}{to:TE}{t:TA}(pa:PlainAttrs T)(slot:Slot T name id)(DB:typeOf (.builtin id)=pure (.type "method_descriptor"))(hm:Qb X id r)(ho:PE X o to)(ha:PA X (e::es) t)
  (oG:attributeBase o name X.env (eval o X.env)=eval o X.env:=by rfl)
  (Ej:((backTo eG (starEach (e::es) X.env)).all (fun x=>!x.1)&&(backToKw eG (keywordEach [] X.env)).all (fun x=>x.1.isSome)
   &&decide ((e::es).length+([]:List Keyword).length+(if ([]:List Keyword).isEmpty then 0 else 1)<30))=true:=by rfl)
  (mZ:(apos.endLine==eG.line)=true:=by rfl) (hs:starEach (e::es) X.env=(false,eval e X.env)::starEach es X.env:=by rfl) (z_:(backTo eG (starEach es X.env)).any (·.1)=false:=by rfl) (hK:X.K=K:=by rfl):
  PE X (.Call (.Attribute o name apos) (e::es) [] eG) (UY K T r to t):=hK▸NQ pa slot DB hm ho ha oG Ej mZ hs z_
end
theorem Bv{x:V}{xs:List V}{us:List Value}(r:Vals xs us)(f:xs.all iG=true)(j:Nat)(h1:j<xs.length)(h2:j<us.length):Qc x us[j]=nF xs[j] x:=by
 obtain⟨u,e,ru⟩:=r.get (i:=j) (x:=xs[j]) (by simp[h1]);have e':us[j]=u:=by
  rw[Θ h2]at e;exact ZV e
 rw[e'];exact Eh ru (List.all_eq_true.mp f _ (List.getElem_mem h1))
section
variable{X:Cx}
def KS:V→List V→Hp→VK→Prop:=fun x vs H Q=>∃l xs y j,x= .ref l∧vs=[y]∧H l=some (.lst xs)∧iG y=true∧xs.all iG=true∧(∃hj:j<xs.length,nF xs[j] y=true)∧(∀m (hm:m<xs.length),m<j→nF xs[m] y=false)∧Q (.int (j:Nat)) H
theorem oN:Qd X "list.index" KS:=by
 intro pins s σ H x vs v us Q I rx rv h;obtain⟨l,xs,y,j,rfl,rfl,hH,fy,fx,⟨hj,hit⟩,Af,q⟩:=h;cases rx;obtain⟨u,rfl,ru⟩:=rv.one;obtain⟨z,its,n,r,hl,e⟩:=I.yA hH;have hlen:=r.length;have Ag:j<its.length:=by lia
 have mZ:=ny;refine call_meets F.slot_list_index ⟨_,e,rfl⟩ F.entry_list_index (F.args_list_index_2 _ _) (SeqAt.list_indexAt l its.toArray n _ _ u (Qc y) j (by simpa using Ag) (by lia) (by
  have:=Bv (x:=y) r fx j hj Ag;simp only[List.getElem_toArray];rw[this];exact hit) fun m hm gR=>by
   have yE:m<its.length:=by simpa using hm
   have:=Bv (x:=y) r fx m Mm yE;simp only[List.getElem_toArray];rw[this];exact Af m Mm gR) ⟨e,fun w hw=>yz ru fy r fx w (by simpa using hw),?_⟩
 exact⟨.int (j:Nat),H,I.tok _,⟨_,rfl⟩,q⟩
end
end L2
namespace QF
open PySem L2
structure TB(mg:Str→Option Value):Prop where
 cX:mg "len"=none
 fO:mg "range"=none
 cY:mg "isinstance"=none
 Bw:mg "int"=none
 KU:mg "bool"=none
 aaV:mg "str"=none
 jW:mg "list"=none
 Hd:mg "tuple"=none
 aaB:mg "dict"=none
 Ob:mg "all"=none
 aaj:mg "any"=none
 Ey:mg "min"=none
 Jb:mg "max"=none
 jx:mg "enumerate"=none
 He:mg "ValueError"=none
def D5(mg:Str→Option Value)(x:Str)(v:V):Prop:=∃u,mg x=some u∧RelV v u
def cell(ns:List Int)(k:Int):Int:=ns.getD k.toNat 0
theorem Hf{ns:List Int}{k:Int}(h0:0≤k)(h:k<(ns.length:Int)):rP (ns.map V.int) k=some (.int (cell ns k)):=by
 obtain⟨j,rfl⟩:=Int.eq_ofNat_of_zero_le h0;have hj:j<ns.length:=by lia
 refine au ?_;simp[cell,hj]
theorem cell_out{ns:List Int}{k:Int}(h0:0≤k)(h:¬k<(ns.length:Int)):cell ns k=0:=by
 have hj:ns.length≤k.toNat:=by lia
 simp[cell,hj]
def low(c:Nat):Bool:=decide (97≤c)&&decide (c≤122)
def ql(z:Str):Bool:=decide (1≤z.length)&&decide (z.length≤12)&&z.cps.toList.all low
theorem U8(a b:Nat):(([a]:List Nat)<[b])↔a<b:=by
 constructor
 ·intro h;cases h with
  |rel h=>exact h
  |cons h=>cases h
 ·intro h;exact .rel h
theorem So(c:Nat):(!decide (([c]:List Nat)<(Str.ofString "a").cps.toList))=decide (97≤c):=by
 have e:(Str.ofString "a").cps.toList=[97]:=by decide+kernel
 rw[e,Bool.eq_iff_iff];simp only[Bool.not_eq_true',decide_eq_false_iff_not,decide_eq_true_eq,U8]
 lia
theorem Sq(c:Nat):(!decide ((Str.ofString "z").cps.toList<([c]:List Nat)))=decide (c≤122):=by
 have e:(Str.ofString "z").cps.toList=[122]:=by decide+kernel
 rw[e,Bool.eq_iff_iff];simp only[Bool.not_eq_true',decide_eq_false_iff_not,decide_eq_true_eq,U8]
 lia
theorem len_app(x y:Str):(x++y).length=x.length+y.length:=by
 show(x.cps++y.cps).size=_;rw[Array.size_append];rfl
inductive Ez(K:W.Frag)(vs:List V)(H:Hp)(Q:VK)(u3:XK):Prop
 |mk (a:_) (ns:_) (k:_) (_:vs=[.ref a, .int k]) (_:iE K H a (ns.map V.int)) (_:0≤k) (_:Q (.int (cell ns k)) H):Ez K vs H Q u3
inductive s_(vs:List V)(H:Hp)(Q:VK)(u3:XK):Prop
 |mk (i:_) (_:vs=[.int i]) (_:Q (.bl true) H):s_ vs H Q u3
inductive Ah(vs:List V)(H:Hp)(Q:VK)(u3:XK):Prop
 |mk (c:Nat) (_:vs=[.str ⟨#[c]⟩]) (_:Q (.bl (low c)) H):Ah vs H Q u3
inductive wJ(vs:List V)(H:Hp)(Q:VK)(u3:XK):Prop
 |mk (z:Str) (_:vs=[.str z]) (_:z.length≤100000) (_:∀H',ax H H'→Q (.bl (ql z)) H'):wJ vs H Q u3
inductive nG(vs:List V)(H:Hp)(Q:VK)(u3:XK):Prop
 |mk (l n h:Int) (_:vs=[.int l, .int n, .int h]) (_:Q (.bl (decide (l≤n)&&decide (n≤h))) H):nG vs H Q u3
def Bx(K:W.Frag):Sp:=fun vs H Q _=>∃(a:Addr)(ns:List Int),vs=[.ref a]∧iE K H a (ns.map V.int)∧ns.length≤63∧∀H',Q (.bl true) H'
structure Er(K:W.Frag)(mg:Str→Option Value)(x:Str)(C:Addr):Prop where
 m:mg x=some (.ref C)
 e:N1 K C
def inR(l n h:Int):Bool:=decide (l≤n)&&decide (n≤h)
inductive qm(C:Addr)(vs:List V)(H:Hp)(Q:VK)(E:XK):Prop
 |mk (nm:Str) (n l h:Int) (_:vs=[.str nm, .int n, .int l, .int h]) (_:nm.length≤20) (_:(0≤l∧l≤1)) (_:(h=100∨h=999999)) (_:(if inR l n h=true then Q .cK H else E (.ref C) none H)):qm C vs H Q E
theorem oO{i:Int}(h:i=0∨i=1∨i=12∨i=40∨i=60∨i=100∨i=999999):i.natAbs.log2<1920∧(Str.ofString (toString i)).length≤6:=by
 rcases h with rfl|rfl|rfl|rfl|rfl|rfl|rfl<;>exact⟨by decide+kernel,by decide+kernel⟩
theorem my:(Str.empty).length=0:=by decide+kernel
theorem ik{x:V}:[x].length≤sizeLine:=aF V9
def gS(x y:Str)(p:Int):Bool:=ql x&&ql y&&!(x==y)&&inR 0 p 999999
inductive wK(C:Addr)(vs:List V)(H:Hp)(Q:VK)(E:XK):Prop
 |mk (x y:Str) (p:Int) (_:vs=[.str x, .str y, .int p]) (_:x.length≤100000) (_:y.length≤100000) (_:(if gS x y p=true then ∀H',ax H H'→Q .cK H' else ∀H',ax H H'→E (.ref C) none H')):wK C vs H Q E
abbrev Form:=Str×Str×Int
def Hg(f:Form):List V:=[.str f.1, .str f.2.1, .int f.2.2]
def jn(f:Form):List Key:=[.inr f.1, .inr f.2.1]
def lL(f:Form):List Key×V:=(jn f, .int f.2.2)
def CC(f:Form):Bool:=gS f.1 f.2.1 f.2.2
def cZ(H:Hp)(xs:List V)(fs:List Form):Prop:=xs.length=fs.length∧∀(i:Nat)(f:Form),fs[i]?=some f→∃t,xs[i]?=some (V.ref t)∧H t=some (.tup (Hg f))
def bD(fs:List Form):Bool:=decide (fs.length≤60)&&fs.all CC&&decide ((fs.map jn).Nodup)
def Short(fs:List Form):Prop:=fs.length≤1000∧∀f∈fs,f.1.length≤100000∧f.2.1.length≤100000
theorem cZ.same{H H':Hp}{xs:List V}{fs:List Form}(t:cZ H xs fs)(s:ax H H'):cZ H' xs fs:=⟨t.1,fun i f e=>let ⟨b,h1,h2⟩:=t.2 i f e;⟨b,h1,s _ _ h2⟩⟩
theorem cZ.nil{H:Hp}:cZ H [] []:=⟨rfl,fun i f e=>by simp at e⟩
inductive qo(C:Addr)(vs:List V)(H:Hp)(Q:VK)(E:XK):Prop
 |mk (a:Addr) (xs:List V) (fs:List Form) (_:vs=[.ref a]) (_:H a=some (.lst xs)) (_:cZ H xs fs) (_:Short fs) (_:(if bD fs=true then ∀H' d,ax H H'→H d=none→H' d=some (.dT (fs.map lL))→Q (.ref d) H' else ∀H',ax H H'→E (.ref C) none H')):qo C vs H Q E
theorem By(fs:List Form):(fs.map lL).map (·.1)=fs.map jn:=by rw[List.map_map];rfl
theorem EA{fs:List Form}{i:Nat}{f:Form}(e:fs[i]?=some f)(h:CC f=false):bD fs=false:=by
 have hm:f∈fs:=ZO e;have:fs.all CC=false:=by
  rw[Bool.eq_false_iff];intro z;rw[List.all_eq_true]at z;rw[z f hm]at h;cases h
 simp[bD,this]
theorem CD{fs:List Form}{i:Nat}{f:Form}(e:fs[i]?=some f)(h:jn f∈(fs.take i).map jn):bD fs=false:=by
 have:¬(fs.map jn).Nodup:=fun z=>by
  obtain⟨hi,e'⟩:=Z' e;have e2:fs=fs.take i++f::fs.drop (i+1):=by
   rw[←e',List.getElem_cons_drop,List.take_append_drop]
  rw[e2,List.map_append,List.map_cons,List.nodup_append]at z;exact z.2.2 _ h _ (List.mem_cons_self) rfl
 simp[bD,this]
theorem CH{fs:List Form}{i:Nat}{f:Form}(e:fs[i]?=some f):(fs.take (i+1)).map lL=(fs.take i).map lL++[lL f]:=by
 rw[List.take_succ,e,List.map_append];rfl
theorem Oc{fs:List Form}{k:List Key}(h:bx (fs.map lL) k=none):k∉fs.map jn:=by
 have:=yD h;rwa[By]at this
theorem KW{fs:List Form}{k:List Key}{v:V}(h:bx (fs.map lL) k=some v):k∈fs.map jn:=by
 have:=Bo h;rwa[By]at this
structure EB(K:W.Frag)(C:Addr):Prop where
 cl:wm K C
 same:bZ K C "same"
 out:bZ K C "out"
 into:bZ K C "into"
 least:bZ K C "least"
 part:bZ K C "part"
 near:bZ K C "near"
 EC:bZ K C "prices"
structure Nums where
 same:Int
 out:Int
 into:Int
 least:Int
 part:Int
def i_(n:Nums):Bool:=inR 1 n.same 999999&&inR 0 n.out 999999&&inR 0 n.into 999999&&inR 1 n.least 999999&&inR 1 n.part 100
def wL(n:Nums)(l d:Addr):List (Str×V):=[("same", .int n.same),("out", .int n.out),("into", .int n.into),("least", .int n.least),("part", .int n.part),("near", .ref l),("prices", .ref d)]
def m4(n:Nums):List (Str×V):=[("same", .int n.same),("out", .int n.out),("into", .int n.into),("least", .int n.least),("part", .int n.part)]
def SameBut(x:Addr)(H H':Hp):Prop:=∀b u,b≠x→H b=some u→H' b=some u
structure kD(H:Hp)(C x:Addr)(n:Nums)(fs:List Form)(dx l d:Addr)(xs:List V):Prop where
 ob:H x=some (.ins C dx (wL n l d))
 own:H dx=some (.own x)
 li:H l=some (.lst xs)
 tr:cZ H xs fs
 di:H d=some (.dT (fs.map lL))
def Od(H:Hp)(v:V)(xs:List V)(fs:List Form):Prop:=(v= .cK∧xs=[]∧fs=[])∨∃a,v= .ref a∧H a=some (.lst xs)∧cZ H xs fs
inductive sD(C CT CN:Addr)(vs:List V)(H:Hp)(Q:VK)(E:XK):Prop
 |mk (x dx:Addr) (n:Nums) (nv:V) (xs:List V) (fs:List Form) (_:vs=[.ref x, .int n.same, .int n.out, .int n.into, .int n.least, .int n.part,nv]) (_:H x=some (.ins C dx [])) (_:H dx=some (.own x)) (_:Od H nv xs fs) (_:Short fs) (_:(if i_ n=true then(if bD fs=true then ∀H' l d,SameBut x H H'→kD H' C x n fs dx l d xs→H l=none→H d=none→Q .cK H' else ∀H',SameBut x H H'→E (.ref CN) none H')else ∀H',SameBut x H H'→E (.ref CT) none H')):sD C CT CN vs H Q E
theorem Sr(n:Nums):bq "part" (.int n.part) (bq "least" (.int n.least) (bq "into" (.int n.into) (bq "out" (.int n.out) (bq "same" (.int n.same) []))))=m4 n:=by kernel_rfl
theorem Ss(n:Nums)(l d:Addr):bq "prices" (.ref d) (bq "near" (.ref l) (m4 n))=wL n l d:=by kernel_rfl
theorem Oe(n:Nums)(l:Addr):(bq "near" (.ref l) (m4 n)).lookup ("near":Str)=some (V.ref l):=by kernel_rfl
theorem SameBut.refl{x:Addr}{H:Hp}:SameBut x H H:=fun _ _ _ h=>h
theorem SameBut.upd{x:Addr}{H H':Hp}{o:HO}(s:SameBut x H H'):SameBut x H (upd H' x o):=fun b u n h=>by rw[ak n];exact s b u n h
theorem SameBut.same{x:Addr}{H H' H2:Hp}(s:SameBut x H H')(t:ax H' H2):SameBut x H H2:=fun b u n h=>t b u (s b u n h)
theorem SameBut.laid{x a:Addr}{H H':Hp}{o:HO}(s:SameBut x H H')(h:H a=none):SameBut x H (L2.upd H' a o):=fun b u n e=>by rw[ak (aE e h)];exact s b u n e
theorem SameBut.free{x l:Addr}{H H':Hp}{o:HO}(s:SameBut x H H')(hx:H' x=some o)(h:H' l=none):H l=none:=by
 cases e:H l with
 |none=>rfl
 |some u=>
  have n:l≠x:=fun z=>by rw[z,hx]at h;cases h
  rw[s l u n e]at h;cases h
theorem cZ.but{x:Addr}{H H':Hp}{xs:List V}{fs:List Form}{C dx:Addr}{gs:List (Str×V)}(t:cZ H xs fs)(s:SameBut x H H')(hx:H x=some (.ins C dx gs)):cZ H' xs fs:=
 ⟨t.1,fun i f e=>let ⟨b,h1,h2⟩:=t.2 i f e;⟨b,h1,s _ _ (fun z=>by rw[z,hx]at h2;cases h2) h2⟩⟩
def fl(j:Nat):List V:=[.bl (decide (0=j)), .bl (decide (1=j)), .bl (decide (2=j)), .bl (decide (3=j)), .bl (decide (4=j)), .bl (decide (5=j)), .bl (decide (6=j)), .bl (decide (7=j)), .bl (decide (8=j)), .bl (decide (9=j)), .bl (decide (10=j)), .bl (decide (11=j)), .bl (decide (12=j)), .bl (decide (13=j))]
def kinds:List Str:=["word","book","terms","near","way","name","year","taken","full","many","no book","no finding","left","search","another"]
def kindOf(j:Nat):Str:=kinds.getD j ""
theorem int_at(is:List Int){i:Int}(h0:0≤i)(h:i<(is.length:Int)):∃m,m∈is∧rP (is.map V.int) i=some (.int m):=by
 obtain⟨j,rfl⟩:=Int.eq_ofNat_of_zero_le h0;have hj:j<is.length:=by lia
 exact⟨is[j],List.getElem_mem hj,au (by simp[hj])⟩
theorem ED(n:Nums)(l d:Addr):(wL n l d).lookup ("same":Str)=some (V.int n.same):=by kernel_rfl
theorem l_out(n:Nums)(l d:Addr):(wL n l d).lookup ("out":Str)=some (V.int n.out):=by kernel_rfl
theorem KY(n:Nums)(l d:Addr):(wL n l d).lookup ("into":Str)=some (V.int n.into):=by kernel_rfl
theorem Hh(n:Nums)(l d:Addr):(wL n l d).lookup ("least":Str)=some (V.int n.least):=by kernel_rfl
theorem EE(n:Nums)(l d:Addr):(wL n l d).lookup ("prices":Str)=some (V.ref d):=by kernel_rfl
theorem wM(n:Nums)(l d:Addr):(wL n l d).lookup ("pair_worth":Str)=none:=by kernel_rfl
end QF
namespace L2
open PySem PySem.Spec PyProof.Rows PySem.W PySem.Calls
section
variable{X:Cx}
inductive Of(K:Frag)(x:V)(y:V)(H:Hp)(Q:VK):Prop
 |mk (p:_) (q:_) (xs:_) (_:x= .ref p) (_:y= .ref q) (_:iE K H p xs) (_:iE K H q []) (_:Q (.bl (!xs.isEmpty)) H):Of K x y H Q
theorem tf(K:Frag)(hu:X.A.units<cLine)(hK:X.K=K:=by rfl):rl X (compareOp .NotEq) (Of K):=by
 subst hK;intro pins s σ H x y v u Q I rx ry h;obtain⟨p,q,xs,rfl,rfl,hp,hq,k⟩:=h;cases rx;cases ry;obtain⟨its,r,pl,hz⟩:=I.list hp;obtain⟨dS,r2,Hi,Mw⟩:=I.list hq;cases r2;obtain⟨⟨cls,dd,data,sl⟩,ho,hc,n,hd⟩:=id pl.isList;obtain⟨⟨KZ,EF,data2,yb⟩,yc,uB,n2,hd2⟩:=id Hi.isList;simp only at hc hd uB hd2;subst hc hd uB hd2;by_cases e:its=[]
 ·subst e;cases r;refine richCompare_meets_room (op:= .NotEq) ⟨_,ho,rfl⟩ ⟨_,yc,rfl⟩ F.slot_list_ne F.entry_list_ne (F.args_list_ne_2 _ _) (SeqAt.list_neAt p q #[] #[] n n2 dd EF sl yb rfl (fun _=>true)) ⟨ho,yc,fun j h1 _=>absurd h1 V9,?_⟩ hu;exact⟨(fun x=>nomatch x), .bl false,H,I,rfl,k⟩
 ·have hx:xs≠[]:=fun z=>by subst z;cases r;exact e rfl
  have hsz:(its.toArray.size !=(#[]:Array Value).size)=true:=by simpa using e
  refine richCompare_meets_room (op:= .NotEq) ⟨_,ho,rfl⟩ ⟨_,yc,rfl⟩ F.slot_list_ne F.entry_list_ne (F.args_list_ne_2 _ _) (SeqAt.list_ne_lengthsAt p q its.toArray #[] n n2 dd EF sl yb hsz) ⟨ho,yc,?_⟩ hu;have:(!xs.isEmpty)=true:=by simpa using hx
  rw[this]at k;exact⟨(fun x=>nomatch x), .bl true,H,I,rfl,k⟩
end
end L2
namespace QF
open PySem L2
theorem U9{α:Type}{xs:List α}{i:Nat}{v:α}(h:xs[i]?=some v):rP xs (0+(i:Int))=some v:=by
 rw[Int.zero_add];exact au h
def cP(fs:List Form)(x y:Str):Option Int:=(fs.find? fun f=>decide (f.1=x∧f.2.1=y)).map (·.2.2)
def cI(same:Int)(fs:List Form)(x y:Str):Option Int:=if x=y then some same else(cP fs x y).map (same-·)
def bC:Option Int→V
 |none=> .cK
 |some i=> .int i
theorem wN(f:Form)(x y:Str):jn f=[.inr x, .inr y]↔f.1=x∧f.2.1=y:=by simp[jn]
theorem vN(x y:Str):∀fs:List Form,bx (fs.map lL) [.inr x, .inr y]=(cP fs x y).map V.int
 |[]=>rfl
 |f::r=>by
  rw[List.map_cons];by_cases h:jn f=[.inr x, .inr y]
  ·have h':=(wN f x y).mp h;rw[cG (show(lL f).1=_ from h)];simp[cP,List.find?_cons,h'.1,h'.2,lL]
  ·have h':¬(f.1=x∧f.2.1=y):=fun z=>h ((wN f x y).mpr z)
   rw[cz (show ¬(lL f).1=_ from h),vN x y r];simp[cP,List.find?_cons,h']
inductive wO(C:Addr)(vs:List V)(H:Hp)(Q:VK)(u3:XK):Prop
 |mk (t:Addr) (x y:Str) (n:Nums) (fs:List Form) (dx l d:Addr) (xs:List V) (_:vs=[.ref t, .str x, .str y]) (_:kD H C t n fs dx l d xs) (_:∀H',ax H H'→Q (bC (cI n.same fs x y)) H'):wO C vs H Q u3
abbrev Og:Str:=Str.ofString "abcdefghijklmnopqrstuvwxyz"
theorem Hj:Og.length=26:=by decide+kernel
theorem Ai(zs:List Str){i:Int}(h0:0≤i)(h:i<(zs.length:Int)):∃m,m∈zs∧rP (zs.map V.str) i=some (.str m):=by
 obtain⟨j,rfl⟩:=Int.eq_ofNat_of_zero_le h0;have hj:j<zs.length:=by lia
 exact⟨zs[j],List.getElem_mem hj,au (by simp[hj])⟩
theorem oP(x y:Str):(x++y).cps.toList=x.cps.toList++y.cps.toList:=by
 show(x.cps++y.cps).toList=_;simp
def c7(H H':Hp):Prop:=∀t v,H t=some (.tup v)→H' t=some (.tup v)
theorem c7.same{H H':Hp}(s:ax H H'):c7 H H':=fun t v h=>s _ _ h
theorem c7.lst{H:Hp}{l:Addr}{xs:List V}{o:HO}(h:H l=some (.lst xs)):c7 H (upd H l o):=fun t v e=>by
 rw[ak (i5 e h (by intro z;cases z))];exact e
theorem cZ.cC{H H':Hp}{xs:List V}{fs:List Form}(T:cZ H xs fs)(k:c7 H H'):cZ H' xs fs:=⟨T.1,fun i f e=>let ⟨b,h1,h2⟩:=T.2 i f e;⟨b,h1,k _ _ h2⟩⟩
theorem cZ.snoc{H:Hp}{xs:List V}{fs:List Form}{t:Addr}{f:Form}(T:cZ H xs fs)(ht:H t=some (.tup (Hg f))):cZ H (xs++[.ref t]) (fs++[f]):=by
 refine⟨by simp[T.1],fun i g e=>?_⟩;by_cases h:i<fs.length
 ·rw[Zy h]at e;obtain⟨b,h1,h2⟩:=T.2 i g e;exact⟨b,by rw[Zy (by rw[T.1];exact h)];exact h1,h2⟩
 ·have hi:i=fs.length:=by
   have:=(Z' e).1;simp at this
   lia
  subst hi;have hg:f=g:=by simpa using e
  subst hg;exact⟨t,by rw[←T.1];simp,ht⟩
theorem Hk{n j:Nat}(h:j<n):Ee n (j:Int)=some j:=by
 unfold Ee;rw[U6 Mm,U6 Mm];simp
theorem Hl:Og.cps.toList=(Zj 26).map (97+·):=by decide+kernel
theorem EG{r:Int}:rP Og.cps.toList (r%26)=some (97+(r%26).toNat):=by
 have h0:0≤r%26:=by lia
 have h1:r%26<26:=by lia
 generalize r%26=m at h0 h1;obtain⟨j,rfl⟩:=Int.eq_ofNat_of_zero_le h0;refine au ?_;have hj:j<26:=by lia
 rw[Hl];simp[hj]
theorem Bz(r:Int):low (97+(r%26).toNat)=true:=by
 have h1:(r%26).toNat≤25:=by lia
 simp[low]
 lia
def lows(z:Str):Prop:=z.cps.toList.all low=true
def jy(bM:Str)(cell other:Int)(k:Nat):Str:=
 let size:=1+cell/2%12
 if cell%2=1 then Txt.slice bM none (some (1+(size+k)%12))
 else Txt.slice bM none (some (other%size))++⟨#[97+((other/12+k)%26).toNat]⟩++Txt.slice bM (some (other%size+1)) (some size)
theorem wQ{n d:Nat}{v:Int}(h0:0≤v)(h:v≤n):HT.j7 n d (some v)=v.toNat:=by
 simp only[HT.j7];split<;>lia
theorem lM{z:Str}{v:Int}(h0:0≤v)(h:v≤z.length):(Txt.slice z none (some v)).cps.toList=z.cps.toList.take v.toNat:=by
 rw[vK,wQ h0 h,HT.sU];simp
theorem EH{z:Str}{u v:Int}(h0:0≤u)(h1:u≤v)(h:v≤z.length):(Txt.slice z (some u) (some v)).cps.toList=(z.cps.toList.drop u.toNat).take (v.toNat-u.toNat):=by
 rw[vK,wQ h0 Mm,wQ Mm h]
theorem len_list(z:Str):z.cps.toList.length=z.length:=by simp[Str.length]
theorem EI{z:Str}(h1:1≤z.length)(h2:z.length≤12)(h:lows z):ql z=true:=by
 have h:z.cps.toList.all low=true:=h;simp[ql,h1,h2,h]
theorem EJ{bM:Str}(hl:bM.length=12)(hs:lows bM)(cell other:Int)(k:Nat):ql (jy bM cell other k)=true:=by
 have m6:=List.all_eq_true.mp hs;have Mx:=len_list bM;have z0:1≤1+cell/2%12∧1+cell/2%12≤12:=by lia
 unfold jy;simp only;generalize 1+cell/2%12=size at z0;split
 ·have z1:1≤1+(size+(k:Int))%12∧1+(size+(k:Int))%12≤12:=by lia
  generalize 1+(size+(k:Int))%12=m at z1;have e:=lM (z:=bM) (v:=m) (by lia) (by lia);have el:(Txt.slice bM none (some m)).length=m.toNat:=by rw[←len_list,e,List.length_take,Mx];lia
  refine EI Mm (by lia) ?_;unfold lows;rw[e,List.all_eq_true];exact fun c hc=>m6 c (List.mem_of_mem_take hc)
 ·have z1:0≤other%size∧other%size<size:=⟨Int.emod_nonneg _ (by lia),Int.emod_lt_of_pos _ (by lia)⟩
  generalize other%size=jo at z1;have e1:=lM (z:=bM) (v:=jo) (by lia) (by lia);have e2:=EH (z:=bM) (u:=jo+1) (v:=size) (by lia) (by lia) (by lia);have l1:(Txt.slice bM none (some jo)).length=jo.toNat:=by rw[←len_list,e1,List.length_take,Mx];lia
  have l2:(Txt.slice bM (some (jo+1)) (some size)).length=size.toNat-(jo+1).toNat:=by rw[←len_list,e2,List.length_take,List.length_drop,Mx];lia
  have el:(Txt.slice bM none (some jo)++(⟨#[97+((other/12+(k:Int))%26).toNat]⟩:Str)++Txt.slice bM (some (jo+1)) (some size)).length=size.toNat:=by
   rw[len_app,len_app,l1,l2];show jo.toNat+1+_=_
   lia
  refine EI Mm (by lia) ?_;unfold lows;rw[oP,oP,e1,e2,List.all_append,List.all_append];have a1:(bM.cps.toList.take jo.toNat).all low=true:=List.all_eq_true.mpr fun c hc=>m6 c (List.mem_of_mem_take hc)
  have a2:((bM.cps.toList.drop (jo+1).toNat).take (size.toNat-(jo+1).toNat)).all low=true:=List.all_eq_true.mpr fun c hc=>m6 c (List.mem_of_mem_drop (List.mem_of_mem_take hc))
  have a3:=Bz (other/12+(k:Int));rw[a1,a2];simp[a3]
theorem K0{A B:List Nat}{c:Nat}:(A++[c]++B)[A.length]?=some c:=Wv
theorem EK{bM:Str}(hl:bM.length=12)(cell other:Int){k k':Nat}(hk:k<12)(EL:k'<12)(e:jy bM cell other k=jy bM cell other k'):k=k':=by
 have Mx:=len_list bM;have z0:1≤1+cell/2%12∧1+cell/2%12≤12:=by lia
 unfold jy at e;simp only at e;generalize 1+cell/2%12=size at z0 e;split at e
 ·have e:=congrArg (fun z:Str=>z.cps.toList.length) e;rw[lM Mm (by lia),lM Mm (by lia),List.length_take,List.length_take,Mx,hl]at e
  lia
 ·have z1:0≤other%size∧other%size<size:=⟨Int.emod_nonneg _ (by lia),Int.emod_lt_of_pos _ (by lia)⟩
  generalize other%size=jo at z1 e;have e1:=lM (z:=bM) (v:=jo) (by lia) (by lia);have l1:(bM.cps.toList.take jo.toNat).length=jo.toNat:=by rw[List.length_take,Mx];lia
  have at_:∀c:Nat,(Txt.slice bM none (some jo)++(⟨#[c]⟩:Str)++Txt.slice bM (some (jo+1)) (some size)).cps.toList[jo.toNat]?=some c:=fun c=>by
   rw[oP,oP,e1];have:=K0 (A:=bM.cps.toList.take jo.toNat) (B:=(Txt.slice bM (some (jo+1)) (some size)).cps.toList) (c:=c);rw[l1]at this;exact this
  have e:=congrArg (fun z:Str=>z.cps.toList[jo.toNat]?) e;have e2:=(at_ _).symm.trans (e.trans (at_ _));have e3:=ZV e2
  lia
theorem Aj{bM:Str}(hl:bM.length=12)(cell other:Int){n:Nat}(hn:n≤12):((Zj n).map (jy bM cell other)).Nodup:=by
 refine List.pairwise_map.mpr ?_;refine List.Pairwise.imp_of_mem (R:=fun a b=>a≠b) (fun{a b} ha hb h e=>h ?_) List.nodup_range;exact EK hl cell other (by have:=List.mem_range.mp ha;lia) (by have:=List.mem_range.mp hb;lia) e
structure c_(zs:List Str)(i j:Nat)(fs:List Form):Prop where
 ok:∀f∈fs,CC f=true
 nd:(fs.map jn).Nodup
 old:∀f∈fs,∃i' j',(i'<i∨(i'=i∧j'<j))∧zs[i']?=some f.1∧zs[j']?=some f.2.1
 sT:fs.length+(if i<j then 1 else 0)≤i*(zs.length-1)+j
theorem c_.nil{zs:List Str}:c_ zs 0 0 []:=⟨Wv,Wv,Wv,Wv⟩
theorem c_.skip{zs:List Str}{i j:Nat}{fs:List Form}(p:c_ zs i j fs):c_ zs i (j+1) fs:=by
 refine⟨p.ok,p.nd,fun f hf=>?_,?_⟩
 ·obtain⟨i',j',h,r⟩:=p.old f hf;exact⟨i',j',by lia,r⟩
 ·have:=p.sT;split<;>split at this<;>lia
theorem yG{zs:List Str}(hn:zs.Nodup){i j:Nat}{x:Str}(h1:zs[i]?=some x)(h2:zs[j]?=some x):i=j:=by
 obtain⟨a1,b1⟩:=Z' h1;obtain⟨a2,b2⟩:=Z' h2;exact(List.getElem_inj hn).mp (b1.trans b2.symm)
theorem c_.add{zs:List Str}{i j:Nat}{fs:List Form}(p:c_ zs i j fs)(hn:zs.Nodup)(hw:∀z∈zs,ql z=true){x y:Str}(hx:zs[i]?=some x)(hy:zs[j]?=some y)(eX:¬x=y){pr:Int}(h0:0≤pr)(h1:pr≤999999):
  c_ zs i (j+1) (fs++[(x,y,pr)]):=by
 have uC:i≠j:=fun e=>eX (by subst e;rw[hx]at hy;exact ZV hy)
 refine⟨fun f hf=>?_,?_,fun f hf=>?_,?_⟩
 ·rcases List.mem_append.mp hf with h|h
  ·exact p.ok f h
  ·have h:f=(x,y,pr):=by simpa using h
   rw[h];have a1:=hw x (ZO hx);have a2:=hw y (ZO hy);simp[CC,gS,a1,a2,eX,inR,h0,h1]
 ·rw[List.map_append];refine List.nodup_append.mpr ⟨p.nd,Wv,fun a ha b hb e=>?_⟩;have hb:b=jn (x,y,pr):=by simpa using hb
  rw[e,hb]at ha;obtain⟨f,hf,ef⟩:=List.mem_map.mp ha;obtain⟨e1,e2⟩:=(wN f x y).mp ef;obtain⟨i',j',h,r1,r2⟩:=p.old f hf;rw[e1]at r1;rw[e2]at r2;have:=yG hn r1 hx;have:=yG hn r2 hy
  lia
 ·rcases List.mem_append.mp hf with h|h
  ·obtain⟨i',j',h,r⟩:=p.old f h;exact⟨i',j',by lia,r⟩
  ·have h:f=(x,y,pr):=by simpa using h
   rw[h];exact⟨i,j,by lia,hx,hy⟩
 ·have:=p.sT;rw[List.length_append];show fs.length+1+_≤_;split<;>split at this<;>lia
theorem c_.row{zs:List Str}{i:Nat}{fs:List Form}(p:c_ zs i zs.length fs)(hi:i<zs.length):c_ zs (i+1) 0 fs:=by
 refine⟨p.ok,p.nd,fun f hf=>?_,?_⟩
 ·obtain⟨i',j',h,r⟩:=p.old f hf;exact⟨i',j',by lia,r⟩
 ·have h:=p.sT;rw[U6 hi]at h;rw[Sn Mm,Nat.succ_mul]
  lia
theorem c_.good{zs:List Str}{fs:List Form}(p:c_ zs zs.length 0 fs)(h:zs.length≤8):bD fs=true:=by
 have h1:=p.sT;have h2:zs.length*(zs.length-1)≤8*7:=Nat.mul_le_mul h Mm;rw[Sn Mm]at h1;have h3:fs.length≤60:=by lia
 have h4:fs.all CC=true:=List.all_eq_true.mpr p.ok;simp[bD,h3,h4,p.nd]
theorem tm{fs:List Form}(h:bD fs=true):Short fs:=by
 simp only[bD,Bool.and_eq_true,decide_eq_true_eq,List.all_eq_true]at h;refine⟨by lia,fun f hf=>?_⟩;have h1:=h.1.2 f hf;simp only[CC,gS,ql,Bool.and_eq_true,decide_eq_true_eq]at h1
 lia
inductive tq(vs:List V)(H:Hp)(Q:VK)(u3:XK):Prop
 |mk (x y:Str) (same:Int) (l:Addr) (xs:List V) (fs:List Form) (_:vs=[.str x, .str y, .int same, .ref l]) (_:H l=some (.lst xs)) (_:cZ H xs fs) (_:Q (bC (cI same fs x y)) H):tq vs H Q u3
theorem jz{zs:List Str}{i:Nat}{v:V}(h:(zs.map V.str)[i]?=some v):∃x,zs[i]?=some x∧v= .str x:=by
 rw[List.getElem?_map]at h;cases e:zs[i]? with
 |none=>rw[e]at h;cases h
 |some x=>rw[e]at h;exact⟨x,rfl,(ZV h).symm⟩
theorem EM{fs:List Form}{x y:Str}(h:∀f∈fs,¬(f.1=x∧f.2.1=y)):cP fs x y=none:=by
 have:fs.find? (fun f=>decide (f.1=x∧f.2.1=y))=none:=by
  rw[List.find?_eq_none];intro f hf;simpa using h f hf
 unfold cP;rw[this];rfl
theorem rB:∀{fs:List Form}{i:Nat}{x y x0 y0:Str}{p:Int},fs[i]?=some (x0,y0,p)→(∀f∈fs.take i,¬(f.1=x∧f.2.1=y))→(x0=x∧y0=y)→cP fs x y=some p
 |f::r,0,x,y,x0,y0,p,h,_,e=>by
  have h:f=(x0,y0,p):=by simpa using h
  rw[h];simp[cP,List.find?_cons,e.1,e.2]
 |f::r,i+1,x,y,x0,y0,p,h,hn,e=>by
  have h1:¬(f.1=x∧f.2.1=y):=hn f V9;have:=rB (fs:=r) (i:=i) (x:=x) (y:=y) (by simpa using h) (fun g hg=>hn g (by simp[hg])) e;simpa[cP,List.find?_cons,h1]using this
def sw(f:Form):Form:=(f.2.1,f.1,f.2.2)
inductive nH(K:W.Frag)(vs:List V)(H:Hp)(Q:VK)(u3:XK):Prop
 |mk (a:Addr) (ns:List Int) (k:Int) (_:vs=[.ref a, .int k]) (_:iE K H a (ns.map V.int)) (_:0≤k) (_:∀H' D (s o i l:Int),ax H H'→H D=none→H' D=some (.lst [.int s, .int o, .int i, .int l])→(1≤s∧s≤999999)→(0≤o∧o≤999999)→(0≤i∧i≤999999)→(1≤l∧l≤999999)→Q (.ref D) H'):nH K vs H Q u3
theorem kD.same{H H':Hp}{C x:Addr}{n:Nums}{fs:List Form}{dx l d:Addr}{xs:List V}(T:kD H C x n fs dx l d xs)(s:ax H H'):kD H' C x n fs dx l d xs:=⟨s _ _ T.ob,s _ _ T.own,s _ _ T.li,T.tr.same s,s _ _ T.di⟩
theorem Hm{is:List Int}(h:is.length=4):∃a b c d,is=[a,b,c,d]:=by
 match is,h with
 |[a,b,c,d],_=>exact⟨a,b,c,d,rfl⟩
theorem SameBut.Ak{x dx C:Addr}{H H':Hp}(hx:H x=none)(EN:H dx=none)(s:SameBut x (L2.upd (L2.upd H dx (.own x)) x (.ins C dx [])) H'):ax H H':=fun b u e=>by
 have n1:b≠x:=aE e hx;have n2:b≠dx:=aE e EN;exact s b u n1 (by rw[ak n1,ak n2];exact e)
end QF
namespace L2
open PySem PySem.Spec PyProof.Rows PySem.W PySem.Calls
section
variable{X:Cx}{pins:List (Addr×Obj)}{σ:St}{H:Hp}{s:Shared}{h':Heap}
theorem Inv.Hn{t':Nat}{fp:List Addr}(I:Inv X pins σ H s)(hf:∀b∈fp,iA X pins H b)(k:∀b o,b∉fp→s.heap.get? b=some o→h'.get? b=some o):Inv X pins σ H {s with heap:=h',toks:=t'}:=by
 have IC:∀b u,H b=some u→b∉fp:=fun b u e z=>by rw[(hf b z).1]at e;cases e
 refine I.step (g':=s.gens) (d':=s.drawn) (ch:=fp) (fun b hb=>?_) (fun b o _ _ hc e _=>k b o hc e) (fun b o _ _ hc e _=>⟨o.slots,k b o hc e⟩) (fun _ _ _ _ n=>n)
  (fun b o hc e=>⟨o,k b o hc e⟩) (fun _ _ e=>e) (fun _ _ _ e=>e) (fun b ps e=>⟨#[],by rw[e];simp⟩) (fun m hm=>?_) (fun b u e=>?_) I.bare
 ·obtain⟨_,f1,_,f3,f4,f5⟩:=hf b hb;exact⟨f3,f1,f4,f5⟩
 ·obtain⟨o,es,ep,ho,r⟩:=hm;exact⟨o,es,ep,k _ o (fun z=>(hf _ z).2.1 rfl) ho,r⟩
 ·refine(I.bX b u e).wc (fun c v hc q=>k c v ?_ q) (fun _ q=>q) fun _ _ q=>q
  rcases hc with z|z
  ·rw[z];exact IC b u e
  ·exact IC c _ z
theorem Inv.BB{t':Nat}{fp:List Addr}{T:Addr}{u:HO}(I:Inv X pins σ H s)(hf:∀b∈fp,iA X pins H b)(hT:iA X pins H T)(k:∀b o,b∉fp→s.heap.get? b=some o→h'.get? b=some o)
  (new:cQ X.prog X.w (upd H T u) h' T u):Inv X pins σ (upd H T u) {s with heap:=h',toks:=t'}:=by
 have IC:∀b u,H b=some u→b∉fp:=fun b u e z=>by rw[(hf b z).1]at e;cases e
 have nT:∀b v,H b=some v→b≠T:=fun b v e z=>by rw[z,hT.1]at e;cases e
 refine I.step (g':=s.gens) (d':=s.drawn) (ch:=T::fp) (fun b hb=>?_) (fun b o _ _ hc e _=>k b o (fun z=>hc (Η z)) e) (fun b o _ _ hc e _=>⟨o.slots,k b o (fun z=>hc (Η z)) e⟩) (fun b _ hc _ n=>?_)
  (fun b o hc e=>⟨o,k b o (fun z=>hc (Η z)) e⟩) (fun b xs e=>by rw[ak (nT b _ e)];exact e) (fun b o v e=>by rw[ak (nT b _ e)];exact e) (fun b ps e=>⟨#[],by rw[ak (nT b _ e),e];simp⟩) (fun m hm=>?_) (fun b v e=>?_) I.bare
 ·rcases List.mem_cons.mp hb with z|z
  ·subst z;obtain⟨_,f1,_,f3,f4,f5⟩:=hT;exact⟨f3,f1,f4,f5⟩
  ·obtain⟨_,f1,_,f3,f4,f5⟩:=hf b z;exact⟨f3,f1,f4,f5⟩
 ·rw[ak (fun z=>hc (by simp[z]))];exact n
 ·obtain⟨o,es,ep,ho,r⟩:=hm;exact⟨o,es,ep,k _ o (fun z=>(hf _ z).2.1 rfl) ho,r⟩
 ·by_cases hb:b=T
  ·subst hb;rw[ae]at e;cases e;exact new
  ·rw[ak hb]at e;refine(I.bX b v e).wc (fun c v' hc q=>k c v' ?_ q) (fun c q=>by rw[ak (nT c _ q)];exact q) fun c xs q=>by rw[ak (nT c _ q)];exact q
   rcases hc with z|z
   ·rw[z];exact IC b v e
   ·exact IC c _ z
theorem Inv.swap{d:Addr}{u u':HO}(I:Inv X pins σ H s)(e:H d=some u)(ht:∀xs,u≠ .tup xs)(ho:∀x,u≠ .own x)(hb:∀ps,u≠ .Gz ps)(hf:∀o v,X.eY d≠some (.so o v))(new:cQ X.prog X.w (upd H d u') s.heap d u'):Inv X pins σ (upd H d u') s:=by
 have nd:∀b,H b=none→b≠d:=fun b n z=>by rw[z,e]at n;cases n
 have nt:∀b xs,H b=some (.tup xs)→b≠d:=fun b xs q z=>by rw[z,e]at q;cases q;exact ht xs rfl
 have no:∀b x,H b=some (.own x)→b≠d:=fun b xs q z=>by rw[z,e]at q;cases q;exact ho xs rfl
 refine⟨I.ok,I.os,I.bare,⟨I.base.keep,I.base.slot,fun b o q n hx=>?_,I.base.there,fun b xs q=>?_,fun b o v q=>?_,fun b ps q=>?_⟩,I.loc,I.cell,?_,fun x c q=>?_,fun p hp=>?_,fun b v q=>?_,I.len⟩
 ·have z:=I.base.free b o q n hx;rw[ak (nd b z)];exact z
 ·have z:=I.base.cC b xs q;rw[ak (nt b xs z)];exact z
 ·have z:=I.base.ow b o v q;rw[ak (fun y=>by subst y;exact hf o v q)];exact z
 ·obtain⟨m,z⟩:=I.base.rO b ps q;exact⟨m,by rw[ak (fun y=>by rw[y,e]at z;cases z;exact hb _ rfl)];exact z⟩
 ·rw[ak (nd _ I.free)];exact I.free
 ·rw[ak (nd _ (I.mW x c q))];exact I.mW x c q
 ·obtain⟨p1,p2,p3⟩:=I.pin p hp;exact⟨p1,by rw[ak (nd _ p2)];exact p2,p3⟩
 ·by_cases U_:b=d
  ·subst U_;rw[ae]at q;cases q;exact new
  ·rw[ak U_]at q;exact(I.bX b v q).wc (fun c v' _ z=>z) (fun c z=>by rw[ak (no c _ z)];exact z) fun c xs z=>by rw[ak (nt c _ z)];exact z
end
def My(K:Frag)(a:Addr):It:=
 ⟨fun i H=>∃xs x,iE K H a xs∧xs[i]?=some x,fun i H x H'=>∃T y,x= .ref T∧H T=none∧H'=upd H T (.tup [.int i,y])∧∀xs,iE K H a xs→xs[i]?=some y,fun i H=>∃xs,iE K H a xs∧xs.length≤i⟩
theorem CI{P:Program}{w:World}{K:Frag}{elts:List Expr}{n:Nat}{pos:Pos}(a e it:Addr)(eX:e≠it):
  Turn P w K (.Tuple elts n pos) (My K a) [e,it] e (fun i h=>(∃old,IsEnum h e it (i:Nat) old)∧h.IsListIter it a i) where
 mem:=Wv
 obj:=fun i h st b hb=>by
  obtain⟨⟨old,s1⟩,o,s2,_,s3⟩:=st;rcases List.mem_cons.mp hb with z|z
  ·subst z;exact⟨_,s1,fun v z=>by
    have z':Data.fields _=Data.cell v:=z;cases z'⟩
  ·have e:b=it:=by simpa using z
   subst e;exact⟨o,s2,fun v z=>by rw[s3]at z;cases z⟩
 keep:=fun i h h' st k=>⟨⟨st.1.choose,k e V9 _ st.1.choose_spec⟩,st.2.at fun o q=>k it (Wv) o q⟩
 item:=by
  intro X hP hw hK hc i pins s σ H E I hf st hg;subst hP hw hK;obtain⟨xs,x,hq,hx⟩:=hg;obtain⟨⟨old,s1⟩,s2⟩:=st;obtain⟨its,rv,p,hz⟩:=I.list hq;obtain⟨u,hu,ru⟩:=rv.get hx;refine wpAny_pyNext_enum_item s1 s2 p.isList (x:=u) (by simpa using hu) eX fun h' o1 o2 o3 o4 o5=>?_
  refine⟨_,rfl,wpAny_letOwnedTupleGo_enum (s:={s with heap:=h',toks:=s.toks+1}) o1 fun h2 q1 q2=>?_⟩;have uJ:h2.get? s.heap.objs.size=some {cls:=Value.type "tuple",data:=Data.seq #[Value.int (↑i) s.toks,u]}:=by
   exact(q2.2 _ (Nat.ne_of_gt (Zm s1))).trans o3
  have hT:iA X pins H s.heap.objs.size:=I.uH Zn (I.bX.fresh Zn);have I1:Inv X pins σ (upd H s.heap.objs.size (.tup [.int i,x])) {s with heap:=h2,toks:=s.toks+1}:=by
   refine I.BB hf hT (fun b o hb q=>?_) ⟨by simp[sizeLine],[Value.int (↑i) s.toks,u], .cons ⟨_,rfl⟩ (.cons ru .nil),?_⟩
   ·have b1:b≠e:=fun z=>hb (by simp[z])
    have b2:b≠it:=fun z=>hb (by simp[z])
    exact(q2.2 b b1).trans (o5 b o b1 b2 q)
   ·exact⟨_,uJ,rfl,_,rfl⟩
  refine⟨.ref s.heap.objs.size,_,I1,rfl,⟨_,x,rfl,hT.1,rfl,fun ys hy=>by rw[I.yo hy hq];exact hx⟩,⟨⟨u,by simpa using q1⟩,o2.at fun o q=>(q2.2 it (Ne.symm eX)).trans q⟩,fun b hb=>?_⟩;rw[ak (fun z=>?_)]
  ·exact(hf b hb).1
  ·have h1:=Heap.lt_size s1;obtain⟨_,h2,_⟩:=s2;have h3:=Zm h2;rcases List.mem_cons.mp hb with y|y
   ·rw[z.symm.trans y]at h1;exact ZE h1 (Nat.lt_irrefl _)
   ·have:b=it:=by simpa using y
    rw[z.symm.trans this]at h3;exact ZE h3 (Nat.lt_irrefl _)
 done:=by
  intro X hP hw hK hc i pins s σ H E I hf st hg;subst hP hw hK;obtain⟨xs,hq,hx⟩:=hg;obtain⟨⟨old,s1⟩,s2⟩:=st;obtain⟨its,rv,p,hz⟩:=I.list hq;have hl:=rv.length;exact wpAny_pyNext_enum_end (I.ok.hd hc) s1 s2 p.isList (by simp;lia) fun h' eb=>⟨rfl,I.Hn (t':=s.toks) hf (fun b o hb q=>eb b o (fun z=>hb (by simp[z])) q)⟩
 self:=fun _ _ _ _ _ st h=>wpAny_pyIter_enum st.1.choose_spec h
section
variable{X:Cx}{tg:Expr}
def Jc(K:Frag)(ta:TA):TI:=fun σ H R=>ta σ H fun vs H1=>∃a,vs=[.ref a]∧(∃xs,iE K H1 a xs)∧R (My K a) H1
theorem Ho{elts:List Expr}{n:Nat}{tp:Pos}{a:Expr}{ta:TA}{p pos:Pos}(hg:Gl X "enumerate")(hm:X.mg "enumerate"=none)(ha:PA X [a] ta)(hs:starEach [a] X.env=[(false,eval a X.env)]:=by rfl):
  PI X (.Tuple elts n tp) (.Call (.Name "enumerate" p) [a] [] pos) (Jc X.K ta):=by
 intro pins s σ H R I h;refine Call_ (lE I hg hm boot_enumerate (PyProof.Rows.callWith_type1 (cH (ha pos pins s σ H _ I h) fun us s1 ⟨vs,H1,I1,r1,q1⟩=>?_) hs rfl));obtain⟨l,e,⟨xs,hq⟩,q⟩:=q1;subst e;cases r1 with
 |cons r rr=>
  cases rr;cases r;obtain⟨its,rv,p,hz⟩:=I1.list hq;refine call_enumerate_list p.isList fun h' o1 o2 o3 o4=>?_
  refine wpAny_pyIter_enum (s:={s1 with heap:=h'}) o1 ?_;refine⟨s1.heap.objs.size+1,[s1.heap.objs.size+1,s1.heap.objs.size],_,_,H1,rfl,I1.kept (t':=s1.toks) o4,CI l _ _ (Nat.succ_ne_self _),⟨⟨_,o1⟩,o2⟩,fun b hb=>?_,q⟩;have Mz:s1.heap.objs.size≤b:=by
   rcases List.mem_cons.mp hb with y|y
   ·rw[y];exact Nat.le_succ _
   ·have:b=s1.heap.objs.size:=by simpa using y
    exact Nat.le_of_eq this.symm
  exact I1.uH Mz (I1.bX.fresh Mz)
end
theorem oQ{X:Cx}(K:Frag){elts:List Expr}{n:Nat}{tp:Pos}{a:Expr}{ta:TA}{p pos:Pos}(hg:Gl X "enumerate")(hm:X.mg "enumerate"=none)(ha:PA X [a] ta)(hs:starEach [a] X.env=[(false,eval a X.env)]:=by rfl)(h:X.K=K:=by rfl):
  PI X (.Tuple elts n tp) (.Call (.Name "enumerate" p) [a] [] pos) (Jc K ta):=h▸Ho hg hm ha hs
theorem yH{K:Frag}{a:Addr}{xs:List V}{g:TG}{tb:TS}{D:Ends}{σ:St}{H:Hp}(Pv:Nat→St→Hp→Prop)(h0:Pv 0 σ H)(hl:∀i σ H,i≤xs.length→Pv i σ H→iE K H a xs)
  (hs:∀i x T σ H,xs[i]?=some x→Pv i σ H→H T=none→g (.ref T) σ (upd H T (.tup [.int i,x])) fun f' H2=>tb {D with nx:=Pv (i+1),ct:=Pv (i+1),bk:=D.nx} f' H2) (hd:∀σ H,Pv xs.length σ H→D.nx σ H):
  ∃W:Nat→Nat→St→Hp→Prop,(∃m,W 0 m σ H)∧∀i m σ H,W i m σ H→
   ((My K a).stop i H∧D.nx σ H)∨((My K a).go i H∧∃N:St→Hp→Prop,(∀bj H',N bj H'→∃m',m'<m∧W (i+1) m' bj H')∧∀x H',(My K a).GC i H x H'→g x σ H' fun f' H2=>tb {D with nx:=N,ct:=N,bk:=D.nx} f' H2):=by
 refine⟨fun i m σ H=>m=xs.length-i∧i≤xs.length∧Pv i σ H,⟨xs.length,Wv,Nat.zero_le _,h0⟩,?_⟩;rintro i m σ H ⟨rfl,hi,p⟩;have hq:=hl i σ H hi p;by_cases gR:i<xs.length
 ·refine .inr ⟨⟨xs,xs[i],hq,by simp[gR]⟩,Pv (i+1),fun bj H' p'=>⟨xs.length-(i+1),by lia,rfl,gR,p'⟩,fun x H' y=>?_⟩;obtain⟨T,y,rfl,hT,rfl,hy⟩:=y;exact hs i y T σ H (hy xs hq) p hT
 ·have e:i=xs.length:=by lia
  subst e;exact .inl ⟨⟨xs,hq,Nat.le_refl _⟩,hd σ H p⟩
def NF(eY:Hp)(d:Addr):Prop:=∀o v,eY d≠some (.so o v)
section
variable{X:Cx}{tg:Expr}
end
end L2
namespace QF
open PySem L2
inductive wR(K:W.Frag)(vs:List V)(H:Hp)(Q:VK)(u3:XK):Prop
 |mk (a b:Addr) (ns:List Int) (zs:List Str) (c p m:Int) (_:vs=[.ref a, .int c, .int p, .int m, .ref b]) (_:iE K H a (ns.map V.int)) (_:H b=some (.lst (zs.map V.str))) (_:(1≤zs.length∧zs.length≤1000)) (_:0≤p) (_:0≤m) (_:m≤1000) (_:∀H' l (ws:List Str),ax H H'→H l=none→H' l=some (.lst (ws.map V.str))→ws.length=m.toNat→(∀w∈ws,w∈zs)→Q (.ref l) H'):wR K vs H Q u3
end QF
namespace L2
open PySem PySem.Spec PyProof.Rows PySem.W PySem.Calls
section
variable{X:Cx}
theorem Hq(K:Frag){T:String}{name:Str}{id:String}{r:V→List V→Hp→VK→Prop}{o:Expr}{apos eG:Pos}{to:TE}(pa:PlainAttrs T)(slot:Slot T name id)(DB:typeOf (.builtin id)=pure (.type "method_descriptor"))(hm:Qb X id r)(ho:PE X o to)
  (oG:attributeBase o name X.env (eval o X.env)=eval o X.env:=by rfl) (mZ:(apos.endLine==eG.line)=true:=by rfl) (hK:X.K=K:=by rfl):PE X (.Call (.Attribute o name apos) [] [] eG) (NP K T r to):=hK▸KA pa slot DB hm ho oG mZ
end
end L2
namespace QF
open PySem L2
def R7(c:Nat):Bool:=decide (65≤c)&&decide (c≤90)
def conv(c:Nat):Nat:=if low c=true then c else if R7 c=true then c+32 else 32
abbrev great:Str:=Str.ofString "ABCDEFGHIJKLMNOPQRSTUVWXYZ"
def rd(st:KWd.St)(cs:List Nat):KWd.St:=(cs.map conv).foldl KWd.step st
abbrev both:Str:=Str.ofString "abcdefghijklmnopqrstuvwxyzABCDEFGHIJKLMNOPQRSTUVWXYZ"
abbrev marks:Str:=Str.ofString " .,-'0123456789!?()[]{}@`_~/:;<=>#$&*+|^\\\""
end QF
namespace L2
open PySem PySem.Spec PyProof.Rows PySem.W PySem.Calls
section
variable{X:Cx}
def U'(xs ys:List V)(f:Nat→Bool):Prop:=∀(j:Nat)(x y:V),xs[j]?=some x→ys[j]?=some y→(iG x=true∧iG y=true∧f j=nF x y)∨(∃a,x= .ref a∧y= .ref a∧f j=true)
theorem EO{A:Around}{s:Shared}{xs ys:List V}{its dS:List Value}{f:Nat→Bool}(r:Vals xs its)(r2:Vals ys dS)(h:U' xs ys f):
  ∀j (h1:j<its.toArray.size) (h2:j<dS.toArray.size),SeqAt.EqAt A s its.toArray[j] dS.toArray[j] (f j):=fun j h1 h2=>by
 have Jd:j<xs.length:=by have:=r.length;simp at h1;lia
 have Je:j<ys.length:=by have:=r2.length;simp at h2;lia
 obtain⟨a1,e1,q1⟩:=r.get (i:=j) (x:=xs[j]) (by simp[Jd]);obtain⟨a2,e2,q2⟩:=r2.get (i:=j) (x:=ys[j]) (by simp[Je]);have g1:its.toArray[j]=a1:=by simpa[List.getElem?_eq_some_iff]using(Z' e1).2
 have g2:dS.toArray[j]=a2:=by simpa[List.getElem?_eq_some_iff]using(Z' e2).2
 rw[g1,g2];rcases h j xs[j] ys[j] (by simp[Jd]) (by simp[Je])with⟨f1,f2,ef⟩|⟨a,ex,ey,ef⟩
 ·rw[ef];exact sV q1 q2 f1 f2
 ·rw[ef];rw[ex]at q1;rw[ey]at q2;cases q1;cases q2;exact SeqAt.EqAt.same _
inductive Oh(K:Frag)(x:V)(y:V)(H:Hp)(Q:VK):Prop
 |mk (p:_) (q:_) (xs:_) (ys:_) (f:_) (_:x= .ref p) (_:y= .ref q) (_:iE K H p xs) (_:iE K H q ys) (_:U' xs ys f) (_:Q (.bl (decide (xs.length=ys.length)&&(Zj xs.length).all f)) H):Oh K x y H Q
theorem yI(K:Frag)(hu:X.A.units<cLine)(hK:X.K=K:=by rfl):rl X (compareOp .Eq) (Oh K):=by
 subst hK;intro pins s σ H x y v u Q I rx ry h;obtain⟨p,q,xs,ys,f,rfl,rfl,hp,hq,hf,k⟩:=h;cases rx;cases ry;obtain⟨its,r,pl,hz⟩:=I.list hp;obtain⟨dS,r2,Hi,Mw⟩:=I.list hq;have l1:=r.length;have l2:=r2.length;obtain⟨⟨cls,dd,data,sl⟩,ho,hc,n,hd⟩:=id pl.isList;obtain⟨⟨KZ,EF,data2,yb⟩,yc,uB,n2,hd2⟩:=id Hi.isList;simp only at hc hd uB hd2;subst hc hd uB hd2;by_cases e:xs.length=ys.length
 ·have hsz:its.toArray.size=dS.toArray.size:=by rw[List.size_toArray,List.size_toArray];lia
  refine richCompare_meets_room (op:= .Eq) ⟨_,ho,rfl⟩ ⟨_,yc,rfl⟩ F.slot_list_eq F.entry_list_eq (F.args_list_eq_2 _ _) (SeqAt.list_eqAt p q its.toArray dS.toArray n n2 dd EF sl yb hsz f) ⟨ho,yc,EO r r2 hf,?_⟩ hu;rw[decide_eq_true e,Bool.true_and]at k;refine⟨(fun x=>nomatch x), .bl ((Zj xs.length).all f),H,I,?_,k⟩;rw[List.size_toArray,←l1];rfl
 ·have hsz:(its.toArray.size !=dS.toArray.size)=true:=by
   rw[List.size_toArray,List.size_toArray];simp;lia
  refine richCompare_meets_room (op:= .Eq) ⟨_,ho,rfl⟩ ⟨_,yc,rfl⟩ F.slot_list_eq F.entry_list_eq (F.args_list_eq_2 _ _) (SeqAt.list_eq_lengthsAt p q its.toArray dS.toArray n n2 dd EF sl yb hsz) ⟨ho,yc,?_⟩ hu;rw[decide_eq_false e,Bool.false_and]at k;exact⟨(fun x=>nomatch x), .bl false,H,I,rfl,k⟩
end
section
variable{X:Cx}
end
end L2
namespace QF
open PySem L2
abbrev Pr:=Int×Int
def jA(p:Pr):List V:=[.int p.1, .int p.2]
def gK(H:Hp)(vs:List V)(ps:List Pr):Prop:=vs.length=ps.length∧∀(i:Nat)(p:Pr),ps[i]?=some p→∃t,vs[i]?=some (V.ref t)∧H t=some (.tup (jA p))
theorem gK.nil{H:Hp}:gK H [] []:=⟨rfl,fun i f e=>by simp at e⟩
theorem gK.cC{H H':Hp}{xs:List V}{fs:List Pr}(T:gK H xs fs)(k:c7 H H'):gK H' xs fs:=⟨T.1,fun i f e=>let ⟨b,h1,h2⟩:=T.2 i f e;⟨b,h1,k _ _ h2⟩⟩
theorem gK.same{H H':Hp}{xs:List V}{fs:List Pr}(t:gK H xs fs)(s:ax H H'):gK H' xs fs:=t.cC (c7.same s)
theorem gK.append{H:Hp}{xs ys:List V}{fs gs:List Pr}(T:gK H xs fs)(U:gK H ys gs):gK H (xs++ys) (fs++gs):=by
 refine⟨by simp[T.1,U.1],fun i p e=>?_⟩;by_cases h:i<fs.length
 ·rw[Zy h]at e;obtain⟨b,h1,h2⟩:=T.2 i p e;exact⟨b,by rw[Zy (by rw[T.1];exact h)];exact h1,h2⟩
 ·rw[Δ Mm]at e;obtain⟨b,h1,h2⟩:=U.2 _ p e;exact⟨b,by rw[Δ (by rw[T.1];lia),T.1];exact h1,h2⟩
theorem gK.one{H:Hp}{t:Addr}{p:Pr}(ht:H t=some (.tup (jA p))):gK H [.ref t] [p]:=by
 refine⟨rfl,fun i q e=>?_⟩
 match i,e with
 |0,e=>cases e;exact⟨t,rfl,ht⟩
 |i+1,e=>simp at e
def pr(ps:List Pr)(k:Nat):Pr:=ps.getD k (0,0)
theorem Jf{ps:List Pr}{k:Nat}(h:k<ps.length):ps[k]?=some (pr ps k):=by
 simp[pr,h]
theorem gK.K1{H:Hp}{xs:List V}{ps:List Pr}(T:gK H xs ps){k:Nat}(h:k<ps.length):∃t,xs[k]?=some (V.ref t)∧H t=some (.tup [.int (pr ps k).1, .int (pr ps k).2]):=T.2 k _ (Jf h)
theorem g8{ps:List Pr}{p:Pr}{k:Nat}(h:k<ps.length):pr (ps++[p]) k=pr ps k:=by
 simp[pr,List.getD_eq_getElem?_getD,Zy h]
theorem sE{ps:List Pr}{p:Pr}:pr (ps++[p]) ps.length=p:=by
 simp[pr,List.getD_eq_getElem?_getD]
structure Case where
 xs:List Str
 ys:List Str
 same:Int
 out:Int
 into:Int
 least:Int
 fs:List Form
structure jB(H:Hp)(a:Addr)(c:Case)(f g m l:Addr)(vs:List V):Prop where
 ca:H a=some (.lst [.ref f, .ref g, .ref m, .ref l])
 fi:H f=some (.lst (c.xs.map V.str))
 se:H g=some (.lst (c.ys.map V.str))
 nu:H m=some (.lst [.int c.same, .int c.out, .int c.into, .int c.least])
 ne:H l=some (.lst vs)
 tr:cZ H vs c.fs
theorem jB.keep{H H':Hp}{a:Addr}{c:Case}{f g m l:Addr}{vs:List V}(C:jB H a c f g m l vs)(s:ax H H'):jB H' a c f g m l vs:=⟨s _ _ C.ca,s _ _ C.fi,s _ _ C.se,s _ _ C.nu,s _ _ C.ne,C.tr.same s⟩
structure dM(most:Nat)(c:Case):Prop where
 x:c.xs.length≤most
 y:c.ys.length≤most
 good:bD c.fs=true
 same:1≤c.same∧c.same≤999999
 out:0≤c.out∧c.out≤999999
 into:0≤c.into∧c.into≤999999
 least:1≤c.least∧c.least≤999999
def wd(xs:List Str)(i:Int):Option Str:=if 0≤i then xs[i.toNat]? else none
theorem tw{xs:List Str}{i:Nat}:wd xs (i:Int)=xs[i]?:=by simp[wd]
theorem vO{xs:List Str}{i:Int}(h0:0≤i)(h:i<(xs.length:Int)):∃x,wd xs i=some x∧rP (xs.map V.str) i=some (.str x):=by
 obtain⟨j,rfl⟩:=Int.eq_ofNat_of_zero_le h0;have hj:j<xs.length:=by lia
 exact⟨xs[j],by rw[tw];simp[hj],au (by simp[hj])⟩
theorem BC{xs:List Str}{i:Int}{x:Str}(h:wd xs i=some x):0≤i∧i<(xs.length:Int):=by
 unfold wd at h;split at h
 ·have:=(Z' h).1
  lia
 ·cases h
def Case.pw(c:Case)(p:Pr):Option Int:=(wd c.xs p.1).bind fun x=>(wd c.ys p.2).bind fun y=>cI c.same c.fs x y
theorem Case.pw_of{c:Case}{p:Pr}{x y:Str}(h1:wd c.xs p.1=some x)(h2:wd c.ys p.2=some y):c.pw p=cI c.same c.fs x y:=by simp[Case.pw,h1,h2]
theorem Case.pw_in{c:Case}{p:Pr}{w:Int}(h:c.pw p=some w):(0≤p.1∧p.1<(c.xs.length:Int))∧(0≤p.2∧p.2<(c.ys.length:Int)):=by
 unfold Case.pw at h;cases e1:wd c.xs p.1 with
 |none=>rw[e1]at h;cases h
 |some x=>
  cases e2:wd c.ys p.2 with
  |none=>rw[e1,e2]at h;cases h
  |some y=>exact⟨BC e1,BC e2⟩
theorem Case.pw_out{c:Case}{p:Pr}(h:¬((0≤p.1∧p.1<(c.xs.length:Int))∧(0≤p.2∧p.2<(c.ys.length:Int)))):c.pw p=none:=by
 cases e:c.pw p with
 |none=>rfl
 |some w=>exact ZE (c.pw_in e) h
def stepOk(q p:Pr):Bool:=decide (q.1<p.1)&&decide (q.2<p.2)
def Case.gap(c:Case)(q p:Pr):Int:=c.out*(p.1-q.1-1)+c.into*(p.2-q.2-1)
def dF(c:Case)(ps:List Pr)(k:Nat):Bool:=(c.pw (pr ps k)).isSome&&(decide (k=0)||stepOk (pr ps (k-1)) (pr ps k))
def lN(c:Case)(ps:List Pr)(n:Nat):Prop:=∀k,k<n→dF c ps k=true
def k8(c:Case)(ps:List Pr):Bool:=!ps.isEmpty&&(Zj ps.length).all (dF c ps)
def dH(c:Case)(ps:List Pr):Nat→Int
 |0=>(c.pw (pr ps 0)).getD 0
 |k+1=>(c.pw (pr ps (k+1))).getD 0+dH c ps k-c.gap (pr ps k) (pr ps (k+1))
theorem mz{c:Case}{ps:List Pr}(h:ps≠[])(g:lN c ps ps.length):k8 c ps=true:=by
 have h1:ps.isEmpty=false:=by simpa using h
 have h2:(Zj ps.length).all (dF c ps)=true:=List.all_eq_true.mpr fun k hk=>g k (by simpa using hk)
 simp[k8,h1,h2]
theorem ER{c:Case}{ps:List Pr}{k:Nat}(hk:k<ps.length)(g:dF c ps k=false):k8 c ps=false:=by
 have h2:(Zj ps.length).all (dF c ps)=false:=by
  rw[Bool.eq_false_iff];intro z;rw[List.all_eq_true]at z;rw[z k (by simpa using hk)]at g;cases g
 simp[k8,h2]
theorem kE{c:Case}{ps:List Pr}(h:k8 c ps=true):ps≠[]∧lN c ps ps.length:=by
 simp only[k8,Bool.and_eq_true,List.all_eq_true]at h;refine⟨fun z=>by subst z;simp at h,fun k hk=>h.2 k (by simpa using hk)⟩
theorem lN.next{c:Case}{ps:List Pr}{n:Nat}(h:lN c ps n)(g:dF c ps n=true):lN c ps (n+1):=fun k hk=>by
 by_cases e:k=n
 ·rw[e];exact g
 ·exact h k (by lia)
theorem Hr{c:Case}{ps:List Pr}{k:Nat}(h:dF c ps k=true):∃w,c.pw (pr ps k)=some w:=by
 simp only[dF,Bool.and_eq_true]at h;exact Option.isSome_iff_exists.mp h.1
theorem CJ{c:Case}{ps:List Pr}{p:Pr}(g:lN c ps ps.length)(h:(c.pw p).isSome=true)(f:ps=[]∨stepOk (pr ps (ps.length-1)) p=true):lN c (ps++[p]) (ps.length+1):=fun k hk=>by
 by_cases e:k<ps.length
 ·have:=g k e;simp only[dF]at this⊢;rw[g8 e];by_cases k0:k=0
  ·subst k0;simpa using this
  ·rw[g8 (by lia:k-1<ps.length)];exact this
 ·have:k=ps.length:=by lia
  subst this;simp only[dF];rw[sE,h];rcases f with f|f
  ·subst f;rfl
  ·by_cases e0:ps.length=0
   ·simp[e0]
   ·rw[g8 Mm,f];simp
structure Jg(c:Case):Prop where
 out:0≤c.out∧c.out≤999999
 into:0≤c.into∧c.into≤999999
theorem dM.num{m:Nat}{c:Case}(h:dM m c):Jg c:=⟨h.out,h.into⟩
def yJ(H:Hp)(CT t:Addr)(c:Case):Prop:=∃n dx l d vs,kD H CT t n c.fs dx l d vs∧n.same=c.same∧n.out=c.out∧n.into=c.into∧n.least=c.least
theorem yJ.keep{H H':Hp}{CT t:Addr}{c:Case}(T:yJ H CT t c)(s:ax H H'):yJ H' CT t c:=by
 obtain⟨n,dx,l,d,vs,T,r⟩:=T;exact⟨n,dx,l,d,vs,T.same s,r⟩
inductive tD(K:W.Frag)(vs:List V)(H:Hp)(Q:VK)(u3:XK):Prop
 |mk (a b x:Addr) (ns:List Int) (zs ws:List Str) (c p m:Int) (_:vs=[.ref a, .int c, .int p, .int m, .ref x, .ref b]) (_:iE K H a (ns.map V.int)) (_:H b=some (.lst (zs.map V.str))) (_:H x=some (.lst (ws.map V.str))) (_:(1≤zs.length∧zs.length≤1000)) (_:ws.length≤1000) (_:(∀w∈ws,w∈zs)) (_:0≤p) (_:0≤m) (_:m≤1000) (_:∀H' l (ws:List Str),ax H H'→H l=none→H' l=some (.lst (ws.map V.str))→ws.length=m.toNat→(∀w∈ws,w∈zs)→Q (.ref l) H'):tD K vs H Q u3
inductive qp(C:Addr)(vs:List V)(H:Hp)(Q:VK)(u3:XK):Prop
 |mk (a:Addr) (c:Case) (f g m l:Addr) (us:List V) (most:Nat) (_:vs=[.ref a]) (_:jB H a c f g m l us) (_:dM most c) (_:∀H' t,ax H H'→yJ H' C t c→Q (.ref t) H'):qp C vs H Q u3
inductive qr(vs:List V)(H:Hp)(Q:VK)(u3:XK):Prop
 |mk (a:Addr) (us:List V) (ps:List Pr) (_:vs=[.ref a]) (_:H a=some (.lst us)) (_:gK H us ps) (_:Q (.bl true) H):qr vs H Q u3
inductive tE(vs:List V)(H:Hp)(Q:VK)(u3:XK):Prop
 |mk (a w:Addr) (c:Case) (f g m l:Addr) (us:List V) (ws:List V) (ps:List Pr) (_:vs=[.ref a, .ref w]) (_:jB H a c f g m l us) (_:H w=some (.lst ws)) (_:gK H ws ps) (_:ps.length≤10000) (_:∀H',ax H H'→Q (.bl (k8 c ps)) H'):tE vs H Q u3
inductive qt(vs:List V)(H:Hp)(Q:VK)(u3:XK):Prop
 |mk (a w:Addr) (c:Case) (f g m l:Addr) (us:List V) (ws:List V) (ps:List Pr) (_:vs=[.ref a, .ref w]) (_:jB H a c f g m l us) (_:Jg c) (_:H w=some (.lst ws)) (_:gK H ws ps) (_:ps.length≤10000) (_:k8 c ps=true) (_:Q (.int (dH c ps (ps.length-1))) H):qt vs H Q u3
end QF
namespace L2
open PySem PySem.Spec PyProof.Rows PySem.W PySem.Calls
section
variable{pg:Program}{wd:World}{Ar:Around}{Rs:Result→Shared→Prop}{it:Addr}{fp wr:List Addr}{n:Nat}{Pv:Nat→Value→Prop}{Sv:Nat→Heap→Prop}
def wU:(toString "max"++toString ".loop":String)="max.loop":=U7
theorem CK(Wk:Walks pg wd Ar.in1 it fp wr n Pv Sv)(bt:Nat→Nat→Bool)(cmp:CmpOf pg wd Ar.in1 .Gt Pv bt)(B:Addr)(nb:B∉fp)(dv:Value):
  ∀(k j:Nat)(st:Shared)(old:List Value)(c:Nat),n-j=k→j≤n→Sv j st.heap→((j=0∧old=[])∨∃vb,0<j∧old=[vb,vb]∧Pv (argBest bt (j-1)) vb)→
  st.heap.get? B=some {cls:= .type "list",dict:=none,data:= .seq old.toArray c,slots:=#[]}→
  (∀v h' tk,((n=0∧v=dv)∨(0<n∧Pv (argBest bt (n-1)) v))→(∀b o,b∉wr→b≠B→st.heap.get? b=some o→h'.get? b=some o)→Rs (.ok (.ret v)) {st with heap:=h',toks:=tk})→
  codeAny (model pg wd) Ar (.builtin "max.loop" ⟨[.ref it, .none, .ref B],[("default",dv)]⟩) Rs st:=by
 have nw:B∉wr:=fun z=>nb (Wk.sub _ z)
 intro k
 induction k with
 |zero=>
  intro j st old c ek lj sv ol eB fin;have ej:j=n:=by lia
  subst ej;refine codeAny_builtin F.entry_max_loop ?_;rw[Around.under_plainId F.plain_max_loop _];show wpAny _ Ar.in1 (seqItems? (.ref B)>>=_) _ _ st;refine wpAny_bind (wpAny_seqItems eB rfl ?_);show wpAny _ Ar.in1 (tryCatch (pyNext (.ref it)) _>>=_) _ _ st;refine wpAny_bind (wpAny_tryCatch (Wk.done st _ _ sv fun h' tk kp=>?_));rcases ol with⟨z0,rfl⟩|⟨vb,z0,rfl,pb⟩
  ·refine wpAny_bind (wpAny_rule (ZL ?_));exact fin dv _ tk (.inl ⟨z0,rfl⟩) fun b o hb _ e=>kp b o hb e
  ·have K2:=kp B _ nw eB;show wpAny _ Ar.in1 (updateSeq B (fun _=>#[])>>=_) _ _ _;refine wpAny_bind ?_;refine wpAny_updateSeq K2 rfl (ZX (wpAny_letGo (ZL ?_)));exact fin vb _ tk (.inr ⟨z0,pb⟩) fun b o hb hB e=>(Heap.get?_update_other _ _ (Ne.symm hB)).trans (kp b o hb e)
 |succ k ih=>
  intro j st old c ek lj sv ol eB fin;have lt:j<n:=by lia
  refine codeAny_builtin F.entry_max_loop ?_;rw[Around.under_plainId F.plain_max_loop _];show wpAny _ Ar.in1 (seqItems? (.ref B)>>=_) _ _ st;refine wpAny_bind (wpAny_seqItems eB rfl ?_);show wpAny _ Ar.in1 (tryCatch (pyNext (.ref it)) _>>=_) _ _ st;refine wpAny_bind (wpAny_tryCatch (Wk.item j st _ _ lt sv fun v h' tk pv Su kp=>?_));have K2:=kp B _ nw eB;have up:∀(g:Array Value→Array Value)(b:Addr),b∈fp→∀o,h'.get? b=some o→(h'.update B (Obj.mapSeq g)).get? b=some o:=fun g b hb o e=>(Heap.get?_update_other _ _ (fun z:B=b=>nb (by rw[z];exact hb))).trans e
  rcases ol with⟨rfl,rfl⟩|⟨vb,z0,rfl,pb⟩
  ·show wpAny _ Ar.in1 (updateSeq B (fun _=>#[v,v])>>=_) _ _ _;refine wpAny_bind ?_;refine wpAny_updateSeq K2 rfl ?_;rw[wU];refine wpAny_pure ⟨plainId_quiet F.plain_max_loop _,ih 1 _ [v,v] _ (by lia) lt (Wk.frame _ _ _ Su (up _)) (.inr ⟨v,U7,rfl,pv⟩) (Heap.get?_update_self _ K2 rfl) fun v' h2 Oi pf Oj=>?_⟩;exact fin v' h2 Oi pf fun b o hb hB e=>Oj b o hb hB ((Heap.get?_update_other _ _ (Ne.symm hB)).trans (kp b o hb e))
  ·obtain⟨i,rfl⟩:∃i,j=i+1:=⟨j-1,by lia⟩
   have pb:Pv (argBest bt i) vb:=pb;show wpAny _ Ar.in1 (tryCatch (holding [v,v] (richCompare .Gt v vb>>=_)) _>>=_) _ _ _;refine wpAny_bind (wpAny_tryCatch (wpAny_holding (ZX (cmp (i+1) (argBest bt i) v vb _ _ _ pv pb ?_))));refine wpAny_bind (wpAny_holding (wpAny_truthy_bool ?_));refine wpAny_bind (wpAny_letGo (ZL ?_));cases hb:bt (i+1) (argBest bt i)with
   |true=>
    simp only[if_true];refine wpAny_bind ?_;refine wpAny_updateSeq K2 rfl (ZX (wpAny_letGo ?_));rw[wU];refine wpAny_pure ⟨plainId_quiet F.plain_max_loop _,ih (i+2) _ [v,v] _ (by lia) lt (Wk.frame _ _ _ Su (up _)) (.inr ⟨v,by lia,rfl,?_⟩) (Heap.get?_update_self _ K2 rfl) fun v' h2 Oi pf Oj=>?_⟩
    ·show Pv (argBest bt (i+1)) v;simp only[argBest,hb,if_true];exact pv
    ·exact fin v' h2 Oi pf fun b o hb hB e=>Oj b o hb hB ((Heap.get?_update_other _ _ (Ne.symm hB)).trans (kp b o hb e))
   |false=>
    simp only[Bool.false_eq_true,if_false];refine wpAny_bind (wpAny_letGo ?_);rw[wU];refine wpAny_pure ⟨plainId_quiet F.plain_max_loop _,ih (i+2) _ [vb,vb] c (by lia) lt Su (.inr ⟨vb,by lia,rfl,?_⟩) K2 fun v' h2 Oi pf Oj=>?_⟩
    ·show Pv (argBest bt (i+1)) vb;simp only[argBest,hb,Bool.false_eq_true,if_false];exact pb
    ·exact fin v' h2 Oi pf fun b o hb hB e=>Oj b o hb hB (kp b o hb e)
theorem CL(a d:Value):argsOk "max" ⟨[a],[("default",d)]⟩:=by unfold argsOk;kernel_rfl
end
section
variable{X:Cx}
def K3:Option Int→V
 |none=> .cK
 |some i=> .int i
theorem Al{is:List Int}{us:List Value}(r:Vals (is.map V.int) us):us.length=is.length∧∀(j:Nat)(v:Value),us[j]?=some v→∃t,v= .int (is.getD j 0) t:=by
 have hl:=r.length;rw[List.length_map]at hl;refine⟨hl.symm,fun j v e=>?_⟩;have hj:j<is.length:=by have:=(Z' e).1;lia
 obtain⟨u,eu,ru⟩:=r.get (i:=j) (x:= .int is[j]) (by simp[hj]);rw[e]at eu;cases eu;obtain⟨t,rfl⟩:=ru;exact⟨t,by simp[hj]⟩
theorem K4{is:List Int}{k:Nat}(hk:k<is.length)(h:∀j,j<is.length→is.getD j 0≤is.getD k 0):is.max?=some (is.getD k 0):=by
 rw[List.max?_eq_some_iff];refine⟨by simp[hk],fun b hb=>?_⟩;obtain⟨j,hj,rfl⟩:=List.mem_iff_getElem.mp hb;have:=h j hj;simpa[hj]using this
theorem CM(hc:X.calm=true){pins:List (Addr×Obj)}{s:Shared}{σ:St}{H:Hp}{a:Addr}{is:List Int}{Q:VK}(I:Inv X pins σ H s)(hq:iE X.K H a (is.map V.int))(q:Q (K3 is.max?) H):
  wpAny (model X.prog X.w) X.A (call (.builtin "max") [.ref a] [("default", .none)]) (EP X pins σ Q) X.xe s:=by
 obtain⟨its,rv,p,hz⟩:=I.list hq;obtain⟨hl,hv⟩:=Al rv;refine wpAny_call (codeAny_call_builtin F.plain_max F.entry_max ?_);simp only[checkBuiltinCall,F.kind_max];have body:wpAny (model X.prog X.w) X.A.in1 (Builtin.«max» ⟨[.ref a],[("default", .none)]⟩) (fun fin s'=>match fin with
   | .done f=>(match (Except.ok f:Result)with| .ok (.ret v)=>EP X pins σ Q v s'| .ok _=>False| .error e=>X.xe e s')
   | .again c'=>c'.quiet=true∧codeAny (model X.prog X.w) X.A c' (fun r s'=>match r with| .ok (.ret v)=>EP X pins σ Q v s'| .ok _=>False| .error e=>X.xe e s') s') X.xe s:=by
  show wpAny _ X.A.in1 (Builtin.Builtins.bindParams "max" ["key","default"] 0 ⟨[],[("default", .none)]⟩>>=_) _ _ s;refine wpAny_bind (wpAny_of_eq (show Builtin.Builtins.bindParams "max" ["key","default"] 0 ⟨[],[("default", .none)]⟩=pure [none,some .none]from rfl) ?_);refine wpAny_bind (ZL (ZX (wpAny_pyIter_list p.isList ?_)));have eX:a≠s.heap.objs.size:=by
   obtain⟨o,n,e,_⟩:=p;exact Nat.ne_of_lt (Zm e)
  refine wpAny_bind (wpAny_newObj_type ?_);rw[wU];have eS:(s.heap.push {cls:= .type "list_iterator",data:= .fields #[.ref a, .int 0 0]}).objs.size=s.heap.objs.size+1:=by simp[Heap.push]
  have Wk:=Walks.list (prog:=X.prog) (w:=X.w) (A:=X.A.in1) (show X.A.in1.handled=none from I.ok.hd hc) s.heap.objs.size a eX its.toArray;refine wpAny_pure ⟨plainId_quiet F.plain_max_loop _,CK (pg:=X.prog) (wd:=X.w) Wk _ (CmpOf.ints_gt (fun j=>is.getD j 0) fun j v e=>hv j v (by simpa using e)) (s.heap.push {cls:= .type "list_iterator",data:= .fields #[.ref a, .int 0 0]}).objs.size ?_ .none _ 0 _ [] 0 rfl (Nat.zero_le _) ?_ (.inl ⟨rfl,rfl⟩) ?_ fun v h' tk pf kp=>?_⟩
  ·intro z;simp only[List.mem_cons,List.not_mem_nil,or_false]at z;rw[eS]at z;rcases z with z|z
   ·exact Nat.succ_ne_self _ z
   ·obtain⟨o,n,e,_⟩:=p;have lt:=Zm e;rw[←z]at lt;exact Nat.lt_irrefl _ (Nat.lt_of_succ_lt lt)
  ·exact⟨⟨_,Zp (Heap.get?_push_size _ rfl),rfl,rfl⟩,p.isList.at fun o e=>Zp (Zp e)⟩
  ·exact Heap.get?_push_size _ rfl
  ·have keep:∀b o,s.heap.get? b=some o→h'.get? b=some o:=fun b o e=>by
    have lt:=Zm e;refine kp b o (fun z=>?_) (fun z=>?_) (Zp (Zp e))
    ·have z:b=s.heap.objs.size:=by simpa using z
     rw[z]at lt;exact Nat.lt_irrefl _ lt
    ·rw[z,eS]at lt;exact Nat.lt_irrefl _ (Nat.lt_of_succ_lt lt)
   have sz:its.toArray.size=is.length:=by simp[hl]
   rcases pf with⟨h0,rfl⟩|⟨h0,pf⟩
   ·have:is=[]:=List.length_eq_zero_iff.mp Mm;subst this;exact⟨.cK,H,I.kept (t':=tk) keep,rfl,q⟩
   ·rw[List.getElem?_toArray]at pf;obtain⟨t,rfl⟩:=hv _ v pf;obtain⟨b1,b2⟩:=argBest_gt (fun j=>is.getD j 0) (its.toArray.size-1);have em:=K4 (is:=is) (k:=argBest (fun i j=>decide (is.getD i 0>is.getD j 0)) (its.toArray.size-1)) (by lia) fun j hj=>b2 j Mm
    rw[em]at q;exact⟨.int _,H,I.kept (t':=tk) keep,⟨t,rfl⟩,q⟩
 cases Sx:Manifest.signature? "max" with
 |none=>exact ZL body
 |some sig=>
  have ha:=CL (.ref a) .none;simp only[argsOk,Sx]at ha;have h2:Bind.checkArgs "max" sig ⟨[.ref a],[("default", .none)]⟩=pure ():=ha;show wpAny _ X.A.in1 (Bind.checkArgs "max" sig ⟨[.ref a],[("default", .none)]⟩) _ _ s;rw[h2];exact ZL body
def Ol(K:Frag)(ta:TE):TE:=fun σ H Q=>ta σ H fun x H1=>∃(a:Addr)(is:List Int),x= .ref a∧iE K H1 a (is.map V.int)∧Q (K3 is.max?) H1
theorem Hs(K:Frag){e:Expr}{ta:TE}{p pos kp cp:Pos}{j:Nat}(hc:X.calm=true)(hg:Gl X "max")(hm:X.mg "max"=none)(he:PE X e ta)(hs:starEach [e] X.env=[(false,eval e X.env)]:=by rfl)(hK:X.K=K:=by rfl):
  PE X (.Call (.Name "max" p) [e] [⟨some "default", .Constant .none j cp,kp⟩] pos) (Ol K ta):=by
 subst hK;intro pins s σ H Q I h;refine wpAny_Call_Name_kw (lE I hg hm (PyProof.Rows.Boot.«max») ?_ (U7) (U7));rw[hs];refine callWith_builtin_kwB (first:=[]) rfl rfl (evalArgs_kwB rfl ?_);refine Calls.spliced_cons ?_;show wpAny _ _ (eval e X.env) _ _ s;refine cH (he pins s σ H _ I h) fun v s1 ⟨x,H1,I1,r1,q1⟩=>Calls.spliced_nil ?_
 obtain⟨a,is,rfl,hq,q⟩:=q1;cases r1;refine kws_cons ?_;refine Constant_none ?_;refine kws_nil ?_;exact CM hc I1 hq q
def uK:List V→List V→Bool
 |[],[]=>true
 |x::xs,y::ys=>nF x y&&uK xs ys
 | _,_=>false
theorem kF:∀(xs ys:List V),((Zj (min xs.length ys.length)).all (fun j=>nF (xs.getD j .cK) (ys.getD j .cK))&&xs.length==ys.length)=uK xs ys
 |[],[]=>rfl
 |[],y::ys=>by simp[uK]
 |x::xs,[]=>by simp[uK]
 |x::xs,y::ys=>by
  have ih:=kF xs ys;simp only[uK];rw[←ih];have e:min (x::xs).length (y::ys).length=min xs.length ys.length+1:=by simp[Nat.succ_min_succ]
  rw[e,List.range_succ_eq_map,List.all_cons,List.all_map];simp only[List.getD_cons_zero,Function.comp_def,List.getD_cons_succ,List.length_cons,Bool.and_assoc]
  congr 2
  simp
theorem tF{A:Around}{s:Shared}{xs ys:List V}{its dS:List Value}(r:Vals xs its)(r2:Vals ys dS)(f1:xs.all iG=true)(f2:ys.all iG=true):
  ∀j (h1:j<its.toArray.size) (h2:j<dS.toArray.size),SeqAt.EqAt A s its.toArray[j] dS.toArray[j] ((fun j=>nF (xs.getD j .cK) (ys.getD j .cK)) j):=by
 refine EO r r2 fun j x y hx hy=> .inl ⟨List.all_eq_true.mp f1 x (ZO hx),List.all_eq_true.mp f2 y (ZO hy),?_⟩
 simp[List.getD_eq_getElem?_getD,hx,hy]
open Classical in
end
theorem vP{K:Frag}{a:Addr}{xs:List V}{ls:List Str}{js:List Nat}{g:TG}{tt:TT}{te:TE}{σ:St}{H1:Hp}{D:Addr}{Q:VK}(Pv:Nat→List V→St→Hp→Prop)
  (h0:Pv 0 [] (lJ ls js σ) (upd H1 D (.lst []))) (hl:∀i ys σ H,i≤xs.length→Pv i ys σ H→iE K H a xs)
  (hs:∀i x T ys σ H,xs[i]?=some x→Pv i ys σ H→H T=none→g (.ref T) σ (upd H T (.tup [.int i,x])) fun f' H3=>tt f' H3 fun b H4=>if b=true then te f' H4 fun y H5=>H5 D=some (.lst ys)∧ys.length<sizeLine∧Pv (i+1) (ys++[y]) f' (upd H5 D (.lst (ys++[y])))else Pv (i+1) ys f' H4)
  (hd:∀ys σ H,Pv xs.length ys σ H→Q (.ref D) H):
  sX (My K a) ls js g tt te σ H1 D Q:=
 oM (n:=xs.length) Pv h0 (fun i ys σ H hi p=>⟨xs,xs[i],hl i ys σ H (Nat.le_of_lt hi) p,by simp[hi]⟩) (fun ys σ H p=>⟨xs,hl _ ys σ H Zn p,Nat.le_refl _⟩)
  (fun i ys σ H x H2 hi p y=>by
   obtain⟨T,z,rfl,hT,rfl,hy⟩:=y;exact hs i z T ys σ H (hy xs (hl i ys σ H (Nat.le_of_lt hi) p)) p hT) hd
end L2
namespace QF
open PySem L2
def f7(S:Int→Prop):Option Int→Prop
 |none=>∀v,¬S v
 |some m=>S m∧∀v,S v→v≤m
theorem f7.iff{S T:Int→Prop}{a:Option Int}(ha:f7 S a)(h:∀v,S v↔T v):f7 T a:=by
 cases a with
 |none=>exact fun v hv=>ha v ((h v).mpr hv)
 |some m=>exact⟨(h m).mp ha.1,fun v hv=>ha.2 v ((h v).mpr hv)⟩
def bB:Option Int→Int→Option Int
 |none,_=>none
 |some v,p=>some (v-p)
theorem f7.less{S:Int→Prop}{a:Option Int}(ha:f7 S a)(p:Int):f7 (fun v=>∃u,S u∧v=u-p) (bB a p):=by
 cases a with
 |none=>exact fun v ⟨u,hu,_⟩=>ha u hu
 |some m=>
  refine⟨⟨m,ha.1,rfl⟩,?_⟩;rintro v ⟨u,hu,rfl⟩;have:=ha.2 u hu
  lia
def oR(l:List (Option Int)):Option Int:=(l.filterMap id).max?
theorem kG(l:List (Option Int)):f7 (fun v=>some v∈l) (oR l):=by
 have key:∀v,v∈l.filterMap id↔some v∈l:=fun v=>by
  rw[List.mem_filterMap];exact⟨fun⟨o,ho,eo⟩=>by have eo:o=some v:=eo;rw[eo]at ho;exact ho,fun h=>⟨some v,h,rfl⟩⟩
 unfold oR;cases e:(l.filterMap id).max? with
 |none=>
  rw[List.max?_eq_none_iff]at e;intro v hv;have:=(key v).mpr hv;rw[e]at this;cases this
 |some m=>
  rw[List.max?_eq_some_iff]at e;exact⟨(key m).mp e.1,fun v hv=>e.2 v ((key v).mpr hv)⟩
theorem f7.Va{S T:Int→Prop}{a:Option Int}(ha:f7 S a)(h1:∀v,S v→T v)(h2:∀v,T v→∃u,S u∧v≤u):f7 T a:=by
 cases a with
 |none=>
  intro v hv;obtain⟨u,hu,_⟩:=h2 v hv;exact ha u hu
 |some m=>
  refine⟨h1 m ha.1,fun v hv=>?_⟩;obtain⟨u,hu,hle⟩:=h2 v hv;have:=ha.2 u hu
  lia
theorem yK{S1 S2 S3:Int→Prop}{a b c:Option Int}(h1:f7 S1 a)(h2:f7 S2 b)(h3:f7 S3 c):f7 (fun v=>S1 v∨S2 v∨S3 v) (oR [a,b,c]):=by
 refine(kG [a,b,c]).Va (fun v hv=>?_) (fun v hv=>?_)
 ·simp only[List.mem_cons,List.not_mem_nil,or_false]at hv;rcases hv with e|e|e
  ·rw[←e]at h1;exact .inl h1.1
  ·rw[←e]at h2;exact .inr (.inl h2.1)
  ·rw[←e]at h3;exact .inr (.inr h3.1)
 ·have one:∀{S:Int→Prop}{o:Option Int},f7 S o→S v→o∈[a,b,c]→∃u,some u∈[a,b,c]∧v≤u:=fun{S o} hm hs ho=>by
   cases o with
   |none=>exact ZE hs (hm v)
   |some m=>exact⟨m,ho,hm.2 v hs⟩
  rcases hv with hs|hs|hs
  ·exact one h1 hs V9
  ·exact one h2 hs V9
  ·exact one h3 hs V9
def kc(ps:List Pr):Pr:=pr ps (ps.length-1)
def wW(c:Case)(ps:List Pr):Int:=dH c ps (ps.length-1)
def oS(c:Case)(shut:List Pr)(ps:List Pr):Prop:=k8 c ps=true∧∀p∈ps,p∉shut
def mM(c:Case)(shut:List Pr)(p:Pr):Option Int:=if p∈shut then none else c.pw p
theorem nJ{ps:List Pr}{p:Pr}:kc (ps++[p])=p:=by
 unfold kc;rw[List.length_append];exact sE
theorem tG{c:Case}{ps:List Pr}{p:Pr}:∀{k:Nat},k<ps.length→dH c (ps++[p]) k=dH c ps k
 |0,h=>by simp only[dH];rw[g8 h]
 |k+1,h=>by simp only[dH];rw[g8 h,g8 (by lia:k<ps.length),tG (by lia:k<ps.length)]
theorem K5{c:Case}{p:Pr}{w:Int}(h:c.pw p=some w):wW c [p]=w:=by
 simp[wW,dH,pr,h]
theorem Ht{c:Case}{ps:List Pr}{p:Pr}{w:Int}(eX:ps≠[])(h:c.pw p=some w):wW c (ps++[p])=w+wW c ps-c.gap (kc ps) p:=by
 have hp:0<ps.length:=List.length_pos_iff.mpr eX;obtain⟨k,hk⟩:∃k,ps.length=k+1:=⟨ps.length-1,by lia⟩
 have e1:(ps++[p]).length-1=k+1:=by rw[List.length_append];simp;lia
 unfold wW kc;rw[e1];have e2:pr (ps++[p]) (k+1)=p:=by rw[←hk];exact sE
 simp only[dH,e2,h,Option.getD_some];rw[g8 (by lia:k<ps.length),tG (by lia:k<ps.length),hk];rfl
theorem oS.one{c:Case}{shut:List Pr}{p:Pr}{w:Int}(h:mM c shut p=some w):oS c shut [p]:=by
 unfold mM at h;split at h
 ·cases h
 ·rename_i hs
  refine⟨mz V9 fun k hk=>?_,fun q hq=>?_⟩
  ·have:k=0:=by simp at hk;exact hk
   subst this;simp[dF,pr,h]
  ·have:q=p:=by simpa using hq
   rw[this];exact hs
theorem oS.snoc{c:Case}{shut:List Pr}{ps:List Pr}{p:Pr}{w:Int}(o:oS c shut ps)(h:mM c shut p=some w)(st:stepOk (kc ps) p=true):oS c shut (ps++[p]):=by
 obtain⟨eX,hg⟩:=kE o.1;unfold mM at h;split at h
 ·cases h
 ·rename_i hs
  refine⟨mz V9 ?_,fun q hq=>?_⟩
  ·rw[List.length_append];exact CJ hg (by rw[h];rfl) (.inr st)
  ·rcases List.mem_append.mp hq with hq|hq
   ·exact o.2 q hq
   ·have:q=p:=by simpa using hq
    rw[this];exact hs
theorem yL{c:Case}{ps:List Pr}{p:Pr}{k:Nat}(h:k<ps.length):dF c (ps++[p]) k=dF c ps k:=by
 simp only[dF];rw[g8 h,g8 (by lia:k-1<ps.length)]
theorem oS.split{c:Case}{shut:List Pr}{ps:List Pr}(o:oS c shut ps):∃qs,ps=qs++[kc ps]∧(∃w,mM c shut (kc ps)=some w)∧(qs=[]∨(oS c shut qs∧stepOk (kc qs) (kc ps)=true)):=by
 obtain⟨eX,hg⟩:=kE o.1;obtain⟨qs,p,rfl⟩:∃qs p,ps=qs++[p]:=⟨ps.dropLast,ps.getLast eX,(List.dropLast_concat_getLast eX).symm⟩
 rw[nJ];have gl:=hg qs.length V9;simp only[dF,sE,Bool.and_eq_true]at gl;refine⟨qs,rfl,?_,?_⟩
 ·obtain⟨w,hw⟩:=Option.isSome_iff_exists.mp gl.1;have:=o.2 p V9;exact⟨w,by simp[mM,this,hw]⟩
 ·by_cases e:qs=[]
  ·exact .inl e
  ·have hp:0<qs.length:=List.length_pos_iff.mpr e;refine .inr ⟨⟨mz e fun k hk=>?_,fun q hq=>o.2 q (Ω hq)⟩,?_⟩
   ·have:=hg k (by simp;lia);rwa[yL hk]at this
   ·have g2:=gl.2;simp only[Bool.or_eq_true,decide_eq_true_eq]at g2;rcases g2 with g2|g2
    ·lia
    ·rw[g8 (by lia:qs.length-1<qs.length)]at g2;exact g2
def Hu:Option Int→Option Int→Option Int
 |none,_=>none
 |some w,none=>some w
 |some w,some b=>if b<0 then some w else some (w+b)
def Bq(f:Nat→Nat→Option Int)(o p:Int):Nat→Nat→Option Int
 |0,_=>none
 | _+1,0=>none
 |i+1,j+1=>oR [Hu (f i j) (Bq f o p i j),bB (Bq f o p i (j+1)) o,bB (Bq f o p (i+1) j) p]
termination_by i j=>(i,j)
def dG(f:Nat→Nat→Option Int)(o p:Int)(i j:Nat):Option Int:=Hu (f i j) (Bq f o p i j)
def jm(c:Case)(shut:List Pr)(i j:Nat):Option Int:=mM c shut ((i:Int),(j:Int))
theorem yM{q p:Pr}:stepOk q p=true↔q.1<p.1∧q.2<p.2:=by simp[stepOk]
theorem Hv(o:Option Int):K3 o=bC o:=by cases o<;>rfl
def gh(H:Hp)(vs:List V)(L:List (List Pr)):Prop:=vs.length=L.length∧∀(k:Nat)(ps:List Pr),L[k]?=some ps→∃a us,vs[k]?=some (V.ref a)∧H a=some (.lst us)∧gK H us ps
def Om(l:Addr)(vs:List V):Prop:=∀k:Nat,vs[k]?≠some (V.ref l)
theorem gh.nil{H:Hp}:gh H [] []:=⟨rfl,fun k ps e=>by simp at e⟩
theorem gh.same{H H':Hp}{vs:List V}{L:List (List Pr)}(w:gh H vs L)(s:ax H H'):gh H' vs L:=⟨w.1,fun k ps e=>let ⟨a,us,h1,h2,h3⟩:=w.2 k ps e;⟨a,us,h1,s _ _ h2,h3.same s⟩⟩
theorem gh.put{H:Hp}{vs:List V}{L:List (List Pr)}{l:Addr}{zs:List V}{o:HO}(w:gh H vs L)(n:Om l vs)(h:H l=some (.lst zs)):gh (upd H l o) vs L:=⟨w.1,fun k ps e=>by
 obtain⟨a,us,h1,h2,h3⟩:=w.2 k ps e;refine⟨a,us,h1,?_,h3.cC (c7.lst h)⟩;rw[ak (fun z=>n k (by rw[h1,z]))];exact h2⟩
theorem gh.append{H:Hp}{vs ws:List V}{L M:List (List Pr)}(a:gh H vs L)(b:gh H ws M):gh H (vs++ws) (L++M):=by
 refine⟨by simp[a.1,b.1],fun i p e=>?_⟩;by_cases h:i<L.length
 ·rw[Zy h]at e;obtain⟨x,us,h1,h2⟩:=a.2 i p e;exact⟨x,us,by rw[Zy (by rw[a.1];exact h)];exact h1,h2⟩
 ·rw[Δ Mm]at e;obtain⟨x,us,h1,h2⟩:=b.2 _ p e;exact⟨x,us,by rw[Δ (by rw[a.1];lia),a.1];exact h1,h2⟩
theorem gh.one{H:Hp}{a:Addr}{us:List V}{ps:List Pr}(h:H a=some (.lst us))(P:gK H us ps):gh H [.ref a] [ps]:=by
 refine⟨rfl,fun i q e=>?_⟩
 match i,e with
 |0,e=>cases e;exact⟨a,us,rfl,h,P⟩
 |i+1,e=>simp at e
def de(m:Nat)(f:Nat→Option Int):List V:=(Zj m).map fun j=>bC (f j)
theorem dh(m:Nat)(f:Nat→Option Int):(de m f).length=m:=by simp[de]
theorem dj{m j:Nat}{f:Nat→Option Int}(h:j<m):(de m f)[j]?=some (bC (f j)):=by simp[de,h]
theorem qu(m:Nat)(f:Nat→Option Int):de (m+1) f=de m f++[bC (f m)]:=by simp[de,List.range_succ]
structure ja(H:Hp)(as:List Addr)(f:Nat→Nat→Option Int)(n m:Nat):Prop where
 len:as.length=n
 row:∀(i:Nat)(a:Addr),as[i]?=some a→H a=some (.lst (de m (f i)))
theorem ja.same{H H':Hp}{as:List Addr}{f:Nat→Nat→Option Int}{n m:Nat}(t:ja H as f n m)(s:ax H H'):ja H' as f n m:=⟨t.len,fun i a e=>s _ _ (t.row i a e)⟩
theorem ja.at{H:Hp}{as:List Addr}{f:Nat→Nat→Option Int}{n m i:Nat}(t:ja H as f n m)(h:i<n):∃a,as[i]?=some a∧(as.map V.ref)[i]?=some (.ref a)∧H a=some (.lst (de m (f i))):=by
 have hi:i<as.length:=by rw[t.len];exact h
 refine⟨as[i],by simp[hi],by simp[hi],t.row i _ (by simp[hi])⟩
def Tab(H H':Hp)(e:Addr)(f:Nat→Nat→Option Int)(n m:Nat):Prop:=∃as:List Addr,H' e=some (.lst (as.map V.ref))∧H e=none∧ja H' as f n m∧∀a∈as,H a=none
structure BD(K:W.Frag)(C:Addr):Prop where
 cl:wm K C
 out:bZ K C "out"
 into:bZ K C "into"
 kH:bZ K C "ending"
 jC:bZ K C "brought"
def gO(o p:Int)(e b:Addr):List (Str×V):=[("out", .int o),("into", .int p),("ending", .ref e),("brought", .ref b)]
theorem Jh(o p:Int)(e b:Addr):(gO o p e b).lookup ("out":Str)=some (V.int o):=by kernel_rfl
theorem ES(o p:Int)(e b:Addr):(gO o p e b).lookup ("into":Str)=some (V.int p):=by kernel_rfl
theorem il(o p:Int)(e b:Addr):(gO o p e b).lookup ("ending":Str)=some (V.ref e):=by kernel_rfl
theorem gT(o p:Int)(e b:Addr):(gO o p e b).lookup ("brought":Str)=some (V.ref b):=by kernel_rfl
theorem ET(o p:Int)(e b:Addr):(gO o p e b).lookup ("brought_behind":Str)=none:=by kernel_rfl
theorem Oo(o p:Int)(e b:Addr):bq "brought" (.ref b) (bq "ending" (.ref e) (bq "into" (.int p) (bq "out" (.int o) [])))=gO o p e b:=by kernel_rfl
def rR(f g:Nat→Option Int)(o p:Int):Nat→Option Int
 |0=>none
 |j+1=>oR [f j,bB (g (j+1)) o,bB (rR f g o p j) p]
theorem BE(f:Nat→Nat→Option Int)(o p:Int)(i:Nat):∀j,rR (dG f o p i) (Bq f o p i) o p j=Bq f o p (i+1) j
 |0=>by unfold rR Bq;rfl
 |j+1=>by
  rw[rR,Bq,BE f o p i j];rfl
theorem iL(f:Nat→Nat→Option Int)(o p:Int)(j:Nat):Bq f o p 0 j=none:=by unfold Bq;rfl
inductive lO(vs:List V)(H:Hp)(Q:VK)(u3:XK):Prop
 |mk (a:Addr) (os:List (Option Int)) (_:vs=[.ref a]) (_:H a=some (.lst (os.map bC))) (_:os.length≤1000) (_:∀H',ax H H'→Q (bC (oR os)) H'):lO vs H Q u3
inductive wV(vs:List V)(H:Hp)(Q:VK)(u3:XK):Prop
 |mk (o:Option Int) (p:Int) (_:vs=[bC o, .int p]) (_:Q (bC (bB o p)) H):wV vs H Q u3
inductive Am(vs:List V)(H:Hp)(Q:VK)(u3:XK):Prop
 |mk (w b:Option Int) (_:vs=[bC w,bC b]) (_:Q (bC (Hu w b)) H):Am vs H Q u3
inductive qv(C:Addr)(vs:List V)(H:Hp)(Q:VK)(u3:XK):Prop
 |mk (x e a dx te tb:Addr) (o p:Int) (m:Nat) (f g:Nat→Option Int) (_:vs=[.ref x, .ref e, .ref a]) (_:H x=some (.ins C dx (gO o p te tb))) (_:H e=some (.lst (de m f))) (_:H a=some (.lst (de (m+1) g))) (_:m≤1000) (_:∀H' r,ax H H'→H r=none→H' r=some (.lst (de (m+1) (rR f g o p)))→Q (.ref r) H'):qv C vs H Q u3
def EU(H:Hp)(v:V)(shut:List Pr):Prop:=(v= .cK∧shut=[])∨∃l us,v= .ref l∧H l=some (.lst us)∧gK H us shut
def bb(p:Pr):List Key:=[.inl p.1, .inl p.2]
def m7(kvs:List (List Key×V))(shut:List Pr):Prop:=∀p:Pr,(bx kvs (bb p)).isSome=decide (p∈shut)
inductive wX(vs:List V)(H:Hp)(Q:VK)(u3:XK):Prop
 |mk (v:V) (shut:List Pr) (_:vs=[v]) (_:EU H v shut) (_:shut.length≤1000) (_:∀H' d kvs,ax H H'→H' d=some (.dT kvs)→m7 kvs shut→Q (.ref d) H'):wX vs H Q u3
theorem gK.last{H:Hp}{xs:List V}{ps:List Pr}(P:gK H xs ps)(eX:ps≠[]):∃t,rP xs (-1)=some (.ref t)∧H t=some (.tup [.int (kc ps).1, .int (kc ps).2]):=by
 have hp:0<ps.length:=List.length_pos_iff.mpr eX;have hl:=P.1;obtain⟨t,h1,h2⟩:=P.K1 (k:=ps.length-1) (by lia);refine⟨t,?_,h2⟩;have e:xs=xs.take (ps.length-1)++[V.ref t]:=by
  apply List.ext_getElem?;intro n;by_cases hn:n<ps.length-1
  ·rw[Zy (by rw[List.length_take];lia),List.getElem?_take,U6 hn]
  ·rw[Δ (by rw[List.length_take];lia),List.length_take];by_cases ya:n=ps.length-1
   ·subst ya;rw[h1];have:ps.length-1-min (ps.length-1) xs.length=0:=by lia
    rw[this];rfl
   ·rw[List.getElem?_eq_none Mm,List.getElem?_eq_none (by simp;lia)]
 rw[e];exact yy _ _
theorem wY(p q:Pr):uK (jA p) (jA q)=decide (p=q):=by
 simp only[jA,uK,nF,Bool.and_true];rw[Bool.eq_iff_iff];simp[Prod.ext_iff]
theorem EV{m j:Nat}{f:Nat→Option Int}{u:Option Int}:(de m f).set j (bC u)=de m (fun k=>if k=j then u else f k):=by
 apply List.ext_getElem?;intro k;by_cases hk:k<m
 ·rw[dj hk];by_cases e:j=k
  ·subst e;rw[List.getElem?_set_self (by rw[dh];exact hk)];simp
  ·rw[List.getElem?_set_ne e,dj hk];have:¬k=j:=fun z=>e z.symm
   simp[this]
 ·rw[List.getElem?_eq_none (by rw[List.length_set,dh];lia),List.getElem?_eq_none (by rw[dh];lia)]
end QF
namespace L2
open PySem PySem.Spec PyProof.Rows PySem.W PySem.Calls
section
variable{X:Cx}{tg:Expr}
end
section
variable{X:Cx}
end
section
variable{X:Cx}
end
end L2
namespace QF
open PySem L2
def Sy(fs:List Form)(x t:Str):Bool:=decide (x=t)||fs.any fun f=>(decide (f.1=x)&&decide (f.2.1=t))||(decide (f.1=t)&&decide (f.2.1=x))
def Oq(fs:List Form)(t:Str):List Str:=[t]++(fs.filter fun f=>decide (f.1=t)).map (·.2.1)++(fs.filter fun f=>decide (f.2.1=t)).map (·.1)
def Ji(p:Nat→Bool):Nat→Int
 |0=> -1
 |n+1=>if p n then(n:Int)else Ji p n
structure NS where
 ws:List Str
 ts:List Str
 fs:List Form
 span:Nat
def NS.p(c:NS)(t:Str)(i:Nat):Bool:=match c.ws[i]? with
 |some x=>Sy c.fs x t
 |none=>false
def NS.Ot(c:NS)(n:Nat):List Int:=c.ts.map fun t=>Ji (c.p t) n
def NS.low(c:NS)(n:Nat):Int:=((c.Ot n).min?).getD (-1)
def NS.at_(c:NS)(h:Nat):Option Pr:=if c.low h<c.low (h+1)∧(h:Int)-c.low (h+1)<c.span then some (c.low (h+1),(h:Int))else none
def NS.told(c:NS)(k:Nat):List Pr:=(Zj k).filterMap c.at_
def NS.holds(c:NS)(l h:Nat):Bool:=c.ts.all fun t=>(((c.ws.map fun x=>decide (x∈Oq c.fs t)).drop l).take (h-l)).any id
def NS.ok(c:NS)(l h:Nat):Bool:=c.holds l (h+1)&&!(c.holds (l+1) (h+1))&&!(c.holds l h)
def NS.row(c:NS)(l k:Nat):List Pr:=(Zj k).filterMap fun d=>if c.ok l (l+d)=true then some ((l:Int),((l+d:Nat):Int))else none
def NS.aak(c:NS)(i:Nat):List Pr:=(Zj i).flatMap fun l=>c.row l (min c.ws.length (l+c.span)-l)
end QF
namespace L2
open PySem PySem.Spec PyProof.Rows PySem.W PySem.Calls
section
variable{X:Cx}{tg:Expr}
end
section
variable{pg:Program}{wd:World}{Ar:Around}{sh:Shared}{Rs:Result→Shared→Prop}{it:Addr}{fp wr:List Addr}{Gn:Array GenState→Array GenState→Prop}{n:Nat}{Pv:Nat→Value→Prop}{Sv:Nat→Shared→Prop}
end
section
variable{X:Cx}
end
end L2
namespace QF
open PySem L2
def zE(q p:Pr):Prop:=q.1<p.1∧q.2<p.2
def gp(o i:Int)(q p:Pr):Int:=o*(p.1-q.1-1)+i*(p.2-q.2-1)
structure Wy(g:Pr→Option Int)(ps:List Pr):Prop where
 ne:ps≠[]
 ok:∀p∈ps,(g p).isSome=true
 up:ps.Pairwise zE
def vl(g:Pr→Option Int)(o i:Int):List Pr→Int
 |[]=>0
 |[p]=>(g p).getD 0
 |p::q::r=>(g p).getD 0-gp o i p q+vl g o i (q::r)
def lh(ps:List Pr):Pr:=ps.headD (0,0)
def lstP(ps:List Pr):Pr:=ps.getLastD (0,0)
theorem dN{ps:List Pr}{p:Pr}:lstP (ps++[p])=p:=by simp[lstP]
theorem wZ(g:Pr→Option Int)(o i:Int)(q:Pr)(bs:List Pr):∀(as:List Pr),vl g o i (as++q::bs)=vl g o i (as++[q])+vl g o i (q::bs)-(g q).getD 0
 |[]=>by simp only[List.nil_append,vl];lia
 |[a]=>by
  simp only[List.cons_append,List.nil_append,vl]
  lia
 |a::b::r=>by
  have ih:=wZ g o i q bs (b::r);simp only[List.cons_append]at ih⊢;simp only[vl];rw[ih]
  lia
theorem oT(g:Pr→Option Int)(o i:Int){ps:List Pr}(eX:ps≠[])(p:Pr):vl g o i (ps++[p])=(g p).getD 0+vl g o i ps-gp o i (lstP ps) p:=by
 obtain⟨qs,q,rfl⟩:∃qs q,ps=qs++[q]:=⟨ps.dropLast,ps.getLast eX,(List.dropLast_concat_getLast eX).symm⟩
 rw[dN,List.append_assoc];have:=wZ g o i q [p] qs;simp only[List.singleton_append]at this⊢;rw[this];simp only[vl]
 lia
theorem Wy.one{g:Pr→Option Int}{p:Pr}(h:(g p).isSome=true):Wy g [p]:=by
 refine⟨Wv,fun q hq=>?_,Wv⟩;have e:q=p:=by simpa using hq
 rw[e];exact h
theorem qw{a b c:Pr}(h1:zE a b)(h2:zE b c):zE a c:=⟨Int.lt_trans h1.1 h2.1,Int.lt_trans h1.2 h2.2⟩
theorem pw_lst{ps:List Pr}(h:ps.Pairwise zE){q:Pr}(hq:q∈ps):q=lstP ps∨zE q (lstP ps):=by
 have eX:ps≠[]:=fun z=>by rw[z]at hq;cases hq
 obtain⟨qs,x,rfl⟩:∃qs x,ps=qs++[x]:=⟨ps.dropLast,ps.getLast eX,(List.dropLast_concat_getLast eX).symm⟩
 rw[dN];rcases List.mem_append.mp hq with hq|hq
 ·exact .inr ((List.pairwise_append.mp h).2.2 q hq x (Wv))
 ·exact .inl (by simpa using hq)
theorem Wy.snoc{g:Pr→Option Int}{ps:List Pr}{p:Pr}(w:Wy g ps)(h:(g p).isSome=true)(s:zE (lstP ps) p):Wy g (ps++[p]):=by
 refine⟨Wv,fun q hq=>?_,List.pairwise_append.mpr ⟨w.up,Wv,fun a ha b hb=>?_⟩⟩
 ·rcases List.mem_append.mp hq with hq|hq
  ·exact w.ok q hq
  ·have:q=p:=by simpa using hq
   rw[this];exact h
 ·have:b=p:=by simpa using hb
  rw[this];rcases pw_lst w.up ha with e|e
  ·rw[e];exact s
  ·exact qw e s
theorem Wy.split{g:Pr→Option Int}{ps:List Pr}(w:Wy g ps):∃qs,ps=qs++[lstP ps]∧(∃v,g (lstP ps)=some v)∧(qs=[]∨(Wy g qs∧zE (lstP qs) (lstP ps))):=by
 obtain⟨qs,x,rfl⟩:∃qs x,ps=qs++[x]:=⟨ps.dropLast,ps.getLast w.ne,(List.dropLast_concat_getLast w.ne).symm⟩
 rw[dN];refine⟨qs,rfl,Option.isSome_iff_exists.mp (w.ok x (Wv)),?_⟩;by_cases e:qs=[]
 ·exact .inl e
 ·have h:=List.pairwise_append.mp w.up;refine .inr ⟨⟨e,fun q hq=>w.ok q (Ω hq),h.1⟩,h.2.2 _ ?_ x (Wv)⟩;obtain⟨rs,y,rfl⟩:∃rs y,qs=rs++[y]:=⟨qs.dropLast,qs.getLast e,(List.dropLast_concat_getLast e).symm⟩
  rw[dN];simp
theorem dq{ps:List Pr}(h:ps≠[]):lstP ps∈ps:=by
 obtain⟨rs,y,rfl⟩:∃rs y,ps=rs++[y]:=⟨ps.dropLast,ps.getLast h,(List.dropLast_concat_getLast h).symm⟩
 rw[dN];simp
def lf(f:Nat→Nat→Option Int)(p:Pr):Option Int:=if 0≤p.1∧0≤p.2 then f p.1.toNat p.2.toNat else none
theorem qx(f:Nat→Nat→Option Int)(i j:Nat):lf f ((i:Int),(j:Int))=f i j:=by simp[lf]
theorem BF{f:Nat→Nat→Option Int}{p:Pr}(h:(lf f p).isSome=true):∃i j:Nat,p=((i:Int),(j:Int)):=by
 unfold lf at h;split at h
 ·rename_i hh
  exact⟨p.1.toNat,p.2.toNat,Prod.ext (by simp;lia) (by simp;lia)⟩
 ·cases h
def Qo(f:Nat→Nat→Option Int)(o p:Int)(i j:Nat)(v:Int):Prop:=∃ps,Wy (lf f) ps∧(lstP ps).1<(i:Int)∧(lstP ps).2<(j:Int)∧v=vl (lf f) o p ps-(o*((i:Int)-1-(lstP ps).1)+p*((j:Int)-1-(lstP ps).2))
def Qp(f:Nat→Nat→Option Int)(o p:Int)(q:Pr)(v:Int):Prop:=∃ps,Wy (lf f) ps∧lstP ps=q∧v=vl (lf f) o p ps
theorem BG{f:Nat→Nat→Option Int}{o p:Int}{i j:Nat}{b:Option Int}(h:f7 (Qo f o p i j) b):f7 (Qp f o p ((i:Int),(j:Int))) (Hu (f i j) b):=by
 cases e:f i j with
 |none=>
  rintro v ⟨ps,w,el,rfl⟩;obtain⟨qs,_,⟨x,hx⟩,_⟩:=w.split;rw[el,qx,e]at hx;cases hx
 |some x=>
  have eg:lf f ((i:Int),(j:Int))=some x:=by rw[qx];exact e
  have An:∀ps,Wy (lf f) ps→lstP ps=((i:Int),(j:Int))→vl (lf f) o p ps=x∨∃v,Qo f o p i j v∧vl (lf f) o p ps=x+v:=fun ps w el=>by
   obtain⟨qs,eq,_,hq⟩:=w.split;rw[el]at eq hq;rcases hq with rfl|⟨wq,st⟩
   ·left
    rw[eq];simp[vl,eg]
   ·right
    refine⟨_,⟨qs,wq,st.1,st.2,rfl⟩,?_⟩;rw[eq,oT _ _ _ wq.ne,eg];simp only[gp,Option.getD_some];have e1:(i:Int)-(lstP qs).1-1=(i:Int)-1-(lstP qs).1:=by lia
    have e2:(j:Int)-(lstP qs).2-1=(j:Int)-1-(lstP qs).2:=by lia
    rw[e1,e2]
    lia
  have alone:Qp f o p ((i:Int),(j:Int)) x:=⟨[((i:Int),(j:Int))], .one (by rw[eg];rfl),rfl,by simp[vl,eg]⟩
  have more:∀v,Qo f o p i j v→Qp f o p ((i:Int),(j:Int)) (x+v):=by
   rintro v ⟨ps,w,l1,l2,rfl⟩;refine⟨ps++[((i:Int),(j:Int))],w.snoc (by rw[eg];rfl) ⟨l1,l2⟩,dN,?_⟩;rw[oT _ _ _ w.ne,eg];simp only[gp,Option.getD_some];have e1:(i:Int)-(lstP ps).1-1=(i:Int)-1-(lstP ps).1:=by lia
   have e2:(j:Int)-(lstP ps).2-1=(j:Int)-1-(lstP ps).2:=by lia
   rw[e1,e2]
   lia
  cases b with
  |none=>
   refine⟨alone,?_⟩;rintro v ⟨ps,w,el,rfl⟩;rcases An ps w el with h1|⟨u,hu,_⟩
   ·lia
   ·exact ZE hu (h u)
  |some m=>
   simp only[Hu];split
   ·refine⟨alone,?_⟩;rintro v ⟨ps,w,el,rfl⟩;rcases An ps w el with h1|⟨u,hu,h2⟩
    ·lia
    ·have:=h.2 u hu
     lia
   ·refine⟨more m h.1,?_⟩;rintro v ⟨ps,w,el,rfl⟩;rcases An ps w el with h1|⟨u,hu,h2⟩
    ·lia
    ·have:=h.2 u hu
     lia
theorem yN{f:Nat→Nat→Option Int}{ps:List Pr}(w:Wy (lf f) ps):0≤(lstP ps).1∧0≤(lstP ps).2:=by
 obtain⟨a,b,e⟩:=BF (w.ok _ (dq w.ne));rw[e];simp
theorem f9(f:Nat→Nat→Option Int)(o p:Int):∀i j:Nat,f7 (Qo f o p i j) (Bq f o p i j)
 |0,j=>by
  unfold Bq;rintro v ⟨ps,w,l1,_⟩;have:=yN w;simp at l1
  lia
 |i+1,0=>by
  unfold Bq;rintro v ⟨ps,w,_,l2,_⟩;have:=yN w;simp at l2
  lia
 |i+1,j+1=>by
  rw[Bq];refine(yK (BG (f9 f o p i j)) ((f9 f o p i (j+1)).less o) ((f9 f o p (i+1) j).less p)).iff fun v=>?_
  constructor
  ·rintro(⟨ps,w,el,rfl⟩|⟨u,⟨ps,w,l1,l2,rfl⟩,rfl⟩|⟨u,⟨ps,w,l1,l2,rfl⟩,rfl⟩)
   ·refine⟨ps,w,by rw[el];simp;lia,by rw[el];simp;lia,?_⟩;rw[el];have e1:((i+1:Nat):Int)-1-(i:Int)=0:=by lia
    have e2:((j+1:Nat):Int)-1-(j:Int)=0:=by lia
    simp only[e1,e2,Int.mul_zero]
    lia
   ·refine⟨ps,w,by lia,by lia,?_⟩;have e1:((i+1:Nat):Int)-1-(lstP ps).1=((i:Int)-1-(lstP ps).1)+1:=by lia
    rw[e1,Int.mul_add]
    lia
   ·refine⟨ps,w,by lia,by lia,?_⟩;have e1:((j+1:Nat):Int)-1-(lstP ps).2=((j:Int)-1-(lstP ps).2)+1:=by lia
    rw[e1,Int.mul_add]
    lia
  ·rintro⟨ps,w,l1,l2,rfl⟩;by_cases h1:(lstP ps).1<(i:Int)
   ·right;left
    refine⟨_,⟨ps,w,h1,l2,rfl⟩,?_⟩;have e1:((i+1:Nat):Int)-1-(lstP ps).1=((i:Int)-1-(lstP ps).1)+1:=by lia
    rw[e1,Int.mul_add]
    lia
   ·by_cases h2:(lstP ps).2<(j:Int)
    ·right;right
     refine⟨_,⟨ps,w,l1,h2,rfl⟩,?_⟩;have e1:((j+1:Nat):Int)-1-(lstP ps).2=((j:Int)-1-(lstP ps).2)+1:=by lia
     rw[e1,Int.mul_add]
     lia
    ·left
     have a1:(lstP ps).1=(i:Int):=by lia
     have a2:(lstP ps).2=(j:Int):=by lia
     refine⟨ps,w,Prod.ext a1 a2,?_⟩;have e1:((i+1:Nat):Int)-1-(lstP ps).1=0:=by lia
     have e2:((j+1:Nat):Int)-1-(lstP ps).2=0:=by lia
     simp only[e1,e2,Int.mul_zero]
     lia
termination_by i j=>(i,j)
theorem tH(f:Nat→Nat→Option Int)(o p:Int)(i j:Nat):f7 (Qp f o p ((i:Int),(j:Int))) (dG f o p i j):=BG (f9 f o p i j)
def fr(f:Nat→Nat→Option Int)(n m:Nat)(a b:Nat):Option Int:=if a<n∧b<m then f (n-1-a) (m-1-b)else none
def DC(f:Nat→Nat→Option Int)(n m:Nat):Prop:=∀i j,(f i j).isSome=true→i<n∧j<m
theorem w6(c:Case)(shut:List Pr)(p:Pr):lf (jm c shut) p=mM c shut p:=by
 unfold lf;split
 ·rename_i h
  unfold jm
  congr 1
  exact Prod.ext (by simp;lia) (by simp;lia)
 ·rename_i h
  unfold mM;split
  ·rfl
  ·exact(c.pw_out Mm).symm
theorem K6(c:Case)(shut:List Pr):DC (jm c shut) c.xs.length c.ys.length:=fun i j h=>by
 unfold jm mM at h;split at h
 ·cases h
 ·obtain⟨w,hw⟩:=Option.isSome_iff_exists.mp h;have:=c.pw_in hw;simp at this
  lia
theorem BH{ps:List Pr}(h:ps≠[]):kc ps=lstP ps:=by
 obtain⟨qs,x,rfl⟩:∃qs x,ps=qs++[x]:=⟨ps.dropLast,ps.getLast h,(List.dropLast_concat_getLast h).symm⟩
 rw[nJ,dN]
theorem K7{c:Case}{shut:List Pr}{p:Pr}{w:Int}(h:mM c shut p=some w):c.pw p=some w∧p∉shut:=by
 unfold mM at h;split at h
 ·cases h
 ·rename_i hs
  exact⟨h,hs⟩
theorem w8{c:Case}{shut:List Pr}:∀{k:Nat}{ps:List Pr},ps.length=k→oS c shut ps→Wy (mM c shut) ps∧wW c ps=vl (mM c shut) c.out c.into ps
 |0,ps,hk,o=>ZE (List.length_eq_zero_iff.mp hk) (kE o.1).1
 |k+1,ps,hk,o=>by
  obtain⟨qs,eq,⟨w,hw⟩,hq⟩:=o.split;generalize kc ps=p at eq hw hq;subst eq;have hp:=K7 hw;rcases hq with rfl|⟨oq,st⟩
  ·exact⟨.one (by rw[hw];rfl),by rw[List.nil_append,K5 hp.1];simp[vl,hw]⟩
  ·have hlen:qs.length=k:=by simpa using hk
   obtain⟨wq,vq⟩:=w8 hlen oq;have el:=BH wq.ne;rw[yM,el]at st;refine⟨wq.snoc (by rw[hw];rfl) st,?_⟩;rw[Ht wq.ne hp.1,oT _ _ _ wq.ne,hw,vq,el];rfl
theorem BI{c:Case}{shut:List Pr}:∀{k:Nat}{ps:List Pr},ps.length=k→Wy (mM c shut) ps→oS c shut ps
 |0,ps,hk,w=>ZE (List.length_eq_zero_iff.mp hk) w.ne
 |k+1,ps,hk,w=>by
  obtain⟨qs,eq,⟨v,hv⟩,hq⟩:=w.split;generalize lstP ps=p at eq hv hq;subst eq;rcases hq with rfl|⟨wq,st⟩
  ·exact .one hv
  ·have hlen:qs.length=k:=by simpa using hk
   exact(BI hlen wq).snoc hv (yM.mpr (by rw[BH wq.ne];exact st))
theorem yO{c:Case}{shut:List Pr}{ps:List Pr}:oS c shut ps↔Wy (lf (jm c shut)) ps:=by
 have:lf (jm c shut)=mM c shut:=by funext p;exact w6 c shut p
 rw[this];exact⟨fun o=>(w8 rfl o).1,fun w=>BI rfl w⟩
theorem Hw{c:Case}{shut:List Pr}{ps:List Pr}(o:oS c shut ps):wW c ps=vl (lf (jm c shut)) c.out c.into ps:=by
 have:lf (jm c shut)=mM c shut:=by funext p;exact w6 c shut p
 rw[this];exact(w8 rfl o).2
end QF
namespace L2
open PySem PySem.Spec PyProof.Rows PySem.W PySem.Calls
section
variable{X:Cx}
open Classical in
end
end L2
namespace QF
open PySem L2
theorem gK.first{H:Hp}{xs:List V}{ps:List Pr}(P:gK H xs ps)(eX:ps≠[]):∃t,rP xs 0=some (.ref t)∧H t=some (.tup [.int (lh ps).1, .int (lh ps).2]):=by
 cases ps with
 |nil=>exact absurd rfl eX
 |cons p r=>
  obtain⟨t,h1,h2⟩:=P.2 0 p rfl;exact⟨t,au (j:=0) h1,h2⟩
end QF
namespace L2
open PySem PySem.Spec PyProof.Rows PySem.W PySem.Calls
section
variable{prog:Program}{w:World}{κ:Type}[DecidableEq κ]{knd:HeapKind prog w κ}{A:Around}{E:Value→Shared→Prop}{s:Shared}
theorem vQ{α β:Type}(f:α→β):∀(xs:List α)(j:Nat),(xs.eraseIdx j).map f=(xs.map f).eraseIdx j
 |[],_=>Wv
 | _::_,0=>Wv
 | _::r,j+1=>by simp[vQ f r j]
theorem CO{xs:List (κ×Addr×Value)}(hn:(xs.map (·.1)).Nodup):∀{j:Nat}{k:κ}{p:Addr×Value},xs[j]?=some (k,p)→xs.eraseIdx j=xs.filter fun x=>decide (x.1≠k):=by
 induction xs with
 |nil=>intro j k p h;simp at h
 |cons x r ih=>
  intro j k p h;have DS:=List.nodup_cons.mp (by simpa using hn:(x.1::r.map (·.1)).Nodup);cases j with
  |zero=>
   have:x=(k,p):=by simpa using h
   subst this;have hf:r.filter (fun x=>decide (x.1≠k))=r:=List.filter_eq_self.mpr fun y hy=>by
    have:y.1≠k:=fun e=>DS.1 (List.mem_map.mpr ⟨y,hy,e⟩)
    simpa using this
   simp only[List.eraseIdx_cons_zero,List.filter_cons];rw[hf];simp
  |succ j=>
   have hj:r[j]?=some (k,p):=by simpa using h
   have hx:x.1≠k:=fun e=>DS.1 (e▸(List.mem_map.mpr ⟨(k,p),ZO hj,rfl⟩))
   simp only[List.eraseIdx_cons_succ,List.filter_cons];rw[ih DS.2 hj,U6 (by simpa using hx)]
theorem w9{d a:Addr}{xs:List (κ×Addr×Value)}{k:κ}{p:Addr×Value}{Q:Option DictEntry→Shared→Prop}(hu:knd.room A)(oC:knd.is s.heap k a)(hm:s.heap.DictOfH knd d xs)(hp:atKey xs k=some p)(hsz:xs.length≤sizeLine)
  (h:∀h' e,e.val=p.2→h'.DictOfH knd d (xs.filter fun x=>decide (x.1≠k))→Heap.SameBut d s.heap h'→Q (some e) {s with heap:=h',toks:=s.toks+knd.draws k}):wpAny (model prog w) A (Builtin.Dict.takeOut d (.ref a)) Q E s:=by
 obtain⟨o,es,ep,ho,hc,hd,he,Sz,hn⟩:=hm;unfold Builtin.Dict.takeOut
 try with_reducible refine wpAny_holding ?_
 refine wpAny_bind (knd.pyHash hu oC ?_);refine wpAny_bind (wpAny_dictFind_heap (s:={s with toks:=s.toks+knd.draws k}) hu oC ho hd he Sz hn ?_ ?_)
 ·intro Af;rw[atKey_none_of_get Af]at hp;cases hp
 ·intro j q hj;have eq:q=p:=by rw[atKey_of_get hn hj]at hp;exact ZV hp
  subst eq;refine wpAny_bind (wpAny_dictEntries (s:={s with toks:=s.toks+knd.draws k}) ho hd ?_);rw[entry_at he j,hj];refine wpAny_bind (wpAny_updateDictKeys (hz:=by have e:=size_of_entries he;lia) (s:={s with toks:=s.toks+knd.draws k}) ho hd (wpAny_pure (h _ _ rfl ⟨_,_,ep+1,Heap.get?_update_self _ ho (Obj.isFreed_of_dict (Obj.data_mapDictKeys hd _)),
   hc.mapDictKeys _,Obj.data_mapDictKeys hd _,?_,?_,?_⟩ (Heap.SameBut.update ..))))
  ·rw[←CO hn hj,vQ,←he];obtain⟨l⟩:=es;simp
  ·intro x hx;exact knd.keeps (Sz x (List.mem_filter.mp hx).1) ho hd (Heap.SameBut.update ..)
  ·exact hn.sublist (List.filter_sublist.map _)
theorem Ao(d a:Addr):
  MeetsIn prog w (Builtin.«dict.pop» ⟨[.ref d, .ref a],[]⟩) (fun A R s=>knd.room A.in1∧∃k xs p,knd.is s.heap k a∧s.heap.DictOfH knd d xs∧xs.length≤sizeLine∧atKey xs k=some p∧
   ∀h',h'.DictOfH knd d (xs.filter fun x=>decide (x.1≠k))→Heap.SameBut d s.heap h'→R (.ok (.ret p.2)) {s with heap:=h',toks:=s.toks+knd.draws k}):=
 .of_wp fun A R s ⟨hu,k,xs,p,oC,hm,hsz,hp,h⟩=>by
  obtain⟨o,es,ep,ho,hc,hd,he,Sz,hn⟩:=id hm;have eX:es.isEmpty=false:=by
   cases hx:xs with
   |nil=>rw[hx]at hp;cases hp
   |cons x r=>
    have:=size_of_entries he;rw[hx]at this;simp at this;rw[Array.isEmpty_eq_false_iff];intro e;rw[e]at this;simp at this
  unfold Builtin.«dict.pop»;refine wpAny_bind ?_;unfold Builtin.Dict.keyAndDefault;refine wpAny_bind (wpAny_notOrdered_dict hm.typeIs ?_);show wpAny _ _ (pure (d,Value.ref a,none)) _ _ s;refine wpAny_pure ?_;have Ou:(keyPart (Value.ref a)).isSome=false:=rfl;simp only[Ou,Bool.false_eq_true,if_false];refine wpAny_bind (wpAny_dictEntries ho hd (ZX (ZL ?_)));rw[eX];simp only[Bool.false_eq_true,if_false];refine wpAny_bind (w9 hu oC hm hp hsz fun h' e Xl yE m6=>?_);simp only[Option.isNone_some,Bool.false_eq_true,if_false];exact ZX (wpAny_letGo (ZL ⟨e.val,rfl,by rw[Xl];exact h h' yE m6⟩))
end
section
variable{X:Cx}{pins:List (Addr×Obj)}{σ:St}{H:Hp}{s:Shared}{a:Addr}{u:Value}{A:Around}{E:Value→Shared→Prop}{kvs:List (List Key×V)}
theorem KT.drop{xs:List (List Key×Addr×Value)}(r:KT H kvs xs)(k:List Key):KT H (i7 kvs k) (xs.filter fun x=>decide (x.1≠k)):=by
 unfold i7
 induction r with
 |nil=>exact .nil
 |cons z t ih=>
  simp only[List.filter_cons];rw[z.1];split
  ·exact .cons z ih
  ·exact ih
theorem K8{v:V}{k:List Key}{b:Addr}{Q:Value→Shared→Prop}(hu:A.units+1<cLine)(I:Inv X pins σ H s)(e:H a=some (.dT kvs))(eb:H b=some (.tup (k.map kV)))(l:bx kvs k=some v)
  (h:∀w' s',Inv X pins σ (upd H a (.dT (i7 kvs k))) s'→RelV v w'→Q w' s'):wpAny (model X.prog X.w) A (call (.builtin "dict.pop") [.ref a, .ref b]) Q E s:=by
 obtain⟨z,hd,xs,rel,dd⟩:=IQ I.bX e;have rv:=rel.val k;rw[l]at rv;obtain⟨w',hw,iF⟩:=ky.some_of rv;obtain⟨p,hp,rfl⟩:=Option.map_eq_some_iff.mp hw;refine call_meetsIn PySem.F.slot_dict_pop dd.typeIs PySem.F.entry_dict_pop (PySem.F.args_dict_pop_2 _ _) (Ao (knd:=tupleKind (cV X.prog X.w)) a b)
  ⟨tupleKind_room_in1 hu,k,xs,p,nE I.bX eb,dd,by rw[←Paired.length rel];exact z,hp,fun h' IS hs=>h _ _ ?_ iF⟩
 obtain⟨q,es,ep,hq,h2,h3,h4,_,h5⟩:=IS;refine wz I (by rw[e];exact True.intro) hs ⟨q,hq⟩ ⟨Nat.le_trans (yv kvs k) z,hd,_,(rel.drop k).keeps fun c ys ec=>?_,q,es,ep,hq,h2,h3,h4,h5⟩;rw[ak (i5 ec e (fun z=>nomatch z))];exact ec
end
inductive Jj(x y:V)(H:Hp)(Q:VK):Prop
 |mk (a b:Addr) (kvs:List (List Key×V)) (k:List Key) (v:V) (_:x= .ref a) (_:y= .ref b) (_:H a=some (.dT kvs)) (_:H b=some (.tup (k.map kV))) (_:bx kvs k=some v) (_:Q v (upd H a (.dT (i7 kvs k)))):Jj x y H Q
def Ov(td ty:TE):TE:=fun σ H Q=>td σ H fun x H1=>∃a,x= .ref a∧RR H1 a∧ty σ H1 fun y H2=>Jj x y H2 Q
theorem EW{X:Cx}{o e:Expr}{apos eG:Pos}{td ty:TE}(hu:X.A.units+1<cLine)(ho:PE X o td)(he:PE X e ty)(m:M1 X o "pop" apos e eG):PE X (.Call (.Attribute o "pop" apos) [e] [] eG) (Ov td ty):=by
 intro pins s σ H Q I h;refine wpAny_Call_method m.base m.sT m.line PySem.F.plainAttrs_dict PySem.F.slot_dict_pop PySem.F.type_dict_pop (cH (ho pins s σ H _ I h) fun u s1 ⟨x,H1,I1,rx,a,ex,d,q1⟩=>?_);subst ex;obtain rfl:u=Value.ref a:=rx;obtain⟨t1,t2,_⟩:=Eb I1 d;refine⟨t1,t2,?_⟩;rw[m.trees];refine Calls.callWith_builtin rfl (Calls.evalArgs_plain (Calls.spliced_cons (cH (he pins s1 σ H1 _ I1 q1) fun iv s2 ⟨y,H2,I2,ry,q2⟩=>Calls.spliced_nil ?_)));obtain⟨a',b,kvs,k,v,e1,rfl,e2,e3,l,q⟩:=q2;cases e1;obtain rfl:iv=Value.ref b:=ry;exact K8 hu I2 e2 e3 l fun w' s3 I3 iF=>⟨v,_,I3,iF,q⟩
section
variable{prog:Program}{w:World}{A:Around}{E:Value→Shared→Prop}{s:Shared}{it d:Addr}{i ep:Nat}{od:Obj}{es:Array DictEntry}{Q:Option Value→Shared→Prop}
theorem EX(hit:s.heap.IsValIter it d i es.size ep)(Jk:s.heap.get? d=some od)(Jl:od.data= .dict es ep)(hi:i<es.size)
  (hQ:∀h',h'.IsValIter it d (i+1) es.size ep→Heap.SameBut it s.heap h'→Q (some es[i].val) {s with heap:=h'}):wpAny (model prog w) A (pyNext (.ref it)) Q E s:=by
 obtain⟨o,ho,hc,hd⟩:=id hit;have T:=hit.typeIs;have Af:Builtin.Dict_items.ownsTuple "dict_valueiterator"=false:=U7;unfold pyNext;refine wpAny_bind (wpAny_attempt (wpAny_callSpecial?_slot (name:=Str.ofString "__next__") T F.slot_dict_valueiterator_next (wpAny_call_entry F.slot_dict_valueiterator_next T F.entry_dict_valueiterator_next ?_ (F.args_dict_valueiterator_next_1 _))));refine wpAny_bind (ZL (ZX (ZX ?_)));first|refine wpAny_bind (wpAny_typeNameOfWhole_valiter T (ZL ?_))|refine wpAny_bind (wpAny_typeNameOf_valiter T (ZL ?_))
 refine wpAny_bind (wpAny_fieldsOf ho hd ?_);simp only[Af,Bool.false_eq_true,if_false];show wpAny _ _ (if (Value.ref d==Value.none)=true then _ else _) _ _ s;rw[Sn (show ¬((Value.ref d==Value.none)=true)from Bool.false_ne_true)];refine wpAny_bind (ZL (ZX (wpAny_dictEntries Jk Jl ?_)));rw[if_neg V9];refine wpAny_bind (ZL (ZX (wpAny_dictEpoch Jk Jl ?_)));rw[if_neg V9];refine wpAny_pure ?_;simp only[show ¬((i:Int)<0)from by lia,if_false,Int.toNat_natCast,Array.getElem?_eq_getElem hi];refine wpAny_bind ?_;first|refine wpAny_bind (wpAny_typeNameOfWhole_valiter T (ZL ?_))|refine wpAny_bind (wpAny_typeNameOf_valiter T (ZL ?_))
 refine wpAny_bind (wpAny_isOneOf_valiter T ?_);show wpAny _ _ (setField (.ref it) 1 (rawInt ((i:Int)+1))>>=_) _ _ s;refine wpAny_bind (wpAny_setField ho hd V9 ?_);have ht:(s.heap.update it (Obj.mapFields (·.setIfInBounds 1 (rawInt ((i:Int)+1))))).IsValIter it d (i+1) es.size ep:=
  ⟨_,Heap.get?_update_self _ ho (Obj.isFreed_of_fields (Obj.data_mapFields hd _)),(Obj.cls_mapFields ..).trans hc,by rw[Obj.data_mapFields hd];simp[rawInt]⟩
 refine wpAny_bind (wpAny_holding (ZX (wpAny_isOneOf_valiter (s:={s with heap:=s.heap.update it (Obj.mapFields (·.setIfInBounds 1 (rawInt ((i:Int)+1))))}) ht.typeIs ?_)));refine wpAny_bind (wpAny_isOneOf_valiter (s:={s with heap:=s.heap.update it (Obj.mapFields (·.setIfInBounds 1 (rawInt ((i:Int)+1))))}) ht.typeIs ?_);show wpAny _ _ (pure es[i].val) _ _ _;exact ZL (ZL ⟨_,rfl,ZL (hQ _ ht (Heap.SameBut.update ..))⟩)
theorem Hx(hh:A.handled=none)(hit:s.heap.IsValIter it d i es.size ep)(Jk:s.heap.get? d=some od)(Jl:od.data= .dict es ep)(hi:es.size≤i)
  (hQ:∀h',Heap.ExtBut it s.heap h'→Q none {s with heap:=h'}):wpAny (model prog w) A (pyNext (.ref it)) Q E s:=by
 obtain⟨o,ho,hc,hd⟩:=id hit;have T:=hit.typeIs;have Af:Builtin.Dict_items.ownsTuple "dict_valueiterator"=false:=U7;unfold pyNext;refine wpAny_bind (wpAny_attempt (wpAny_callSpecial?_slot (name:=Str.ofString "__next__") T F.slot_dict_valueiterator_next (wpAny_call_entry F.slot_dict_valueiterator_next T F.entry_dict_valueiterator_next ?_ (F.args_dict_valueiterator_next_1 _))));refine wpAny_bind (ZL (ZX (ZX ?_)));first|refine wpAny_bind (wpAny_typeNameOfWhole_valiter T (ZL ?_))|refine wpAny_bind (wpAny_typeNameOf_valiter T (ZL ?_))
 refine wpAny_bind (wpAny_fieldsOf ho hd ?_);simp only[Af,Bool.false_eq_true,if_false];show wpAny _ _ (if (Value.ref d==Value.none)=true then _ else _) _ _ s;rw[Sn (show ¬((Value.ref d==Value.none)=true)from Bool.false_ne_true)];refine wpAny_bind (ZL (ZX (wpAny_dictEntries Jk Jl ?_)));rw[if_neg V9];refine wpAny_bind (ZL (ZX (wpAny_dictEpoch Jk Jl ?_)));rw[if_neg V9];refine wpAny_pure ?_;simp only[show ¬((i:Int)<0)from by lia,if_false,Int.toNat_natCast,Array.getElem?_eq_none hi];refine wpAny_bind ?_;first|refine wpAny_bind (wpAny_typeNameOfWhole_valiter T (ZL ?_))|refine wpAny_bind (wpAny_typeNameOf_valiter T (ZL ?_))
 show wpAny _ _ (setField (.ref it) 0 .none>>=_) _ _ s;refine wpAny_bind (wpAny_setField ho hd V9 ?_);show wpAny _ _ (newExc (.type "StopIteration") []>>=_) _ _ _;refine wpAny_bind ?_;simp only[newExc,newTuple];refine wpAny_bind (wpAny_newObj_type ?_ (by size_fits));refine wpAny_bind (m:=firstArgMember _ _) (wpAny_of_eq (a:=Value.none) (by first|rfl|(simp only[firstArgMember];rfl)) ?_);refine wpAny_newObj_type ?_ (by size_fits);simp only[raiseNew];refine wpAny_bind (wpAny_handled ?_);rw[show A.in1.handled=none from hh];refine wpAny_bind (ZL (wpAny_throw ?_));refine wpAny_bind (wpAny_isInstance (T:="StopIteration") (b:=true) ⟨_,Heap.get?_push_size _ rfl,rfl⟩ isSubtype_stop ?_);exact ZL (hQ _ (((Heap.SameBut.update ..).extBut.push _).push _))
end
theorem vR{α β:Type}{F:α→β→Prop}:∀{l:List α}{m:List β}{i:Nat}{a:α},Paired F l m→l[i]?=some a→∃b,m[i]?=some b∧F a b
 | _,_,_,_, .nil,e=>by simp at e
 | _,_,0,_, .cons r _,e=>by simp at e;subst e;exact⟨_,rfl,r⟩
 | _,_,i+1,_, .cons _ t,e=>by
  obtain⟨b,h,f⟩:=vR (i:=i) t (by simpa using e);exact⟨b,by simpa using h,f⟩
def SA(d:Addr)(o:Obj)(kvs:List (List Key×V)):It:=
 ⟨fun i H=>H d=some (.so o (.dT kvs))∧i<kvs.length,fun i H x H'=>H'=H∧∃p,kvs[i]?=some p∧x=p.2,fun i H=>H d=some (.so o (.dT kvs))∧kvs.length≤i⟩
theorem BJ{P:Program}{w:World}{H:Hp}{h:Heap}{d:Addr}{o:Obj}{kvs:List (List Key×V)}{es:Array DictEntry}{ep:Nat}(ok:lD P w H h)(e:H d=some (.so o (.dT kvs)))(hd:o.data= .dict es ep):
  h.get? d=some o∧es.size=kvs.length∧∀i (hi:i<es.size) p,kvs[i]?=some p→RelV p.2 es[i].val:=by
 obtain⟨q1,_,_,xs,r,o',yk,P7,z1,z2,z3,z4,_⟩:=ok d _ e;rw[q1]at z1;cases z1;rw[hd]at z3;cases z3;have hs:=size_of_entries z4;have hl:=Paired.length r;refine⟨q1,by rw[hs,hl],fun i hi p hp=>?_⟩;obtain⟨x,hx,rx⟩:=vR r hp;have e1:=entry_at z4 i;rw[hx,Array.getElem?_eq_getElem hi]at e1;have:es[i]=entryOfKey (tupleKind (cV P w)) x:=ZV e1;rw[this];exact rx.2.2
theorem turn_val{P:Program}{w:World}{K:Frag}{tg:Expr}{it d:Addr}{o:Obj}{kvs:List (List Key×V)}{es:Array DictEntry}{ep:Nat}(hd:o.data= .dict es ep):Turn P w K tg (SA d o kvs) [it] it (fun i h=>h.IsValIter it d i es.size ep) where
 mem:=Wv
 obj:=fun i h st b hb=>by
  have e:b=it:=by simpa using hb
  subst e;obtain⟨o,e,c,d⟩:=st;exact⟨o,e,fun v z=>by rw[d]at z;cases z⟩
 keep:=fun i h h' st k=>let ⟨o,ho,r⟩:=st;⟨o,k it (Wv) o ho,r⟩
 item:=by
  intro X hP hw hK hc i pins s σ H E I hf st hg;subst hP hw hK;obtain⟨hg,hi⟩:=hg;obtain⟨f0,f1,f2,f3,f4,f5⟩:=hf it (Wv);obtain⟨g1,g2,g3⟩:=BJ I.bX hg hd;have Br:i<es.size:=by lia
  refine EX st g1 hd Br fun h' aT sb=>?_
  have I1:Inv X pins σ H {s with heap:=h'}:=I.turned (t':=s.toks) (fun b o hb e=>(sb.2 b hb).trans e) f0 f1 f3 f4 f5;obtain⟨oi,q1,q2,q3⟩:=id aT;exact⟨_,rfl,yp (s:={s with heap:=h'}) q1 q2 q3 (U7) ⟨_,H,I1,g3 i Br kvs[i] (by simp[hi]),⟨rfl,kvs[i],by simp[hi],rfl⟩,aT,fun b hb=>(hf b hb).1⟩⟩
 done:=by
  intro X hP hw hK hc i pins s σ H E I hf st hg;subst hP hw hK;obtain⟨hg,hi⟩:=hg;obtain⟨f0,f1,f2,f3,f4,f5⟩:=hf it (Wv);obtain⟨g1,g2,g3⟩:=BJ I.bX hg hd;exact Hx (I.ok.hd hc) st g1 hd Mm fun h' eb=>⟨rfl,I.turned (t':=s.toks) (fun b o hb e=>eb b o hb e) f0 f1 f3 f4 f5⟩
 self:=fun _ _ _ _ _ st h=>wpAny_pyIter_valiter st h
section
variable{prog:Program}{w:World}{A:Around}{E:Value→Shared→Prop}{s:Shared}
theorem CP(d:Addr)(hd:(d==sysModules)=false):MeetsIn prog w (Builtin.«dict.values» ⟨[.ref d],[]⟩) (fun _ R s=>s.TypeIs (.ref d) "dict"∧
   R (.ok (.ret (.ref s.heap.objs.size))) {s with heap:=s.heap.push {cls:= .type "dict_values",data:= .fields #[.ref d]}}):=
 .of_wp fun A R s ⟨ht,h⟩=>by
  refine wpAny_bind ?_;unfold Builtin.Dict.noArgs;refine wpAny_bind (wpAny_notOrdered_dict ht ?_);show wpAny _ _ (pure d) _ _ s;refine wpAny_pure ?_;show wpAny _ _ (Builtin.Dict.showsAll d>>=_) _ _ s;unfold Builtin.Dict.showsAll;rw[Sn (by rw[hd];exact Bool.false_ne_true)];exact ZX (ZL (ZX (wpAny_newObj_type (ZL ⟨_,rfl,h⟩))))
theorem CQ{v d:Addr}{od:Obj}{es:Array DictEntry}{ep:Nat}{Q:Value→Shared→Prop}(hv:s.heap.IsValuesView v d)(Jk:s.heap.get? d=some od)(Jl:od.data= .dict es ep)
  (hQ:Q (.ref s.heap.objs.size) {s with heap:=s.heap.push {cls:= .type "dict_valueiterator",data:= .fields #[.ref d, .int 0 0, .int es.size 0, .int ep 0]}}):wpAny (model prog w) A (pyIter (.ref v)) Q E s:=by
 obtain⟨ov,Xm,aaP,Xn⟩:=id hv;refine wpAny_pyIter_slot hv.typeIs F.slot_dict_values_iter (wpAny_call_entry F.slot_dict_values_iter hv.typeIs F.entry_dict_values_iter ?_ (F.args_dict_values_iter_1 _));unfold Builtin.«dict_values.__iter__»;refine wpAny_bind (ZL (ZX ?_));unfold Builtin.Dict_items.dictOf;refine wpAny_bind (wpAny_field Xm Xn (x:= .ref d) rfl (ZL (ZX ?_)));unfold Builtin.Dict_items.newIterator;refine wpAny_bind (wpAny_dictEntries Jk Jl (ZX (wpAny_dictEpoch Jk Jl ?_)));have Af:Builtin.Dict_items.ownsTuple "dict_valueiterator"=false:=U7;simp only[Af,Bool.false_eq_true,if_false];refine wpAny_newObj_type (ZL ⟨_,rfl,"dict_valueiterator",_,⟨_,Heap.get?_push_size _ rfl,rfl⟩,F.slot_dict_valueiterator_next.lookup,?_⟩);simpa[rawInt]using hQ
end
def Ow(eY:Hp)(tl:TE):TI:=fun σ H R=>tl σ H fun x H1=>∃d kvs,x= .ref d∧H1 d=some (.dT kvs)∧∀o,NF eY d→R (SA d o kvs) (upd H1 d (.so o (.dT kvs)))
theorem Hy{X:Cx}(eY:Hp){tg o:Expr}{tl:TE}{apos eG:Pos}(hl:PE X o tl)(oG:attributeBase o "values" X.env (eval o X.env)=eval o X.env:=by rfl)(mZ:(apos.endLine==eG.line)=true:=by rfl)(hH:X.eY=eY:=by rfl):
  PI X tg (.Call (.Attribute o "values" apos) [] [] eG) (Ow eY tl):=by
 subst hH;intro pins s σ H R I h;refine wpAny_Call_method0_late oG mZ (cH (hl pins s σ H _ I h) fun v s1 ⟨x,H1,I1,r1,q1⟩=>?_);obtain⟨d,kvs,e,hd,q⟩:=q1;subst e;cases r1;obtain⟨z1,z2,xs,r,o,es,ep,g1,g2,g3,g4,g5⟩:=I1.bX d _ hd;have nf:NF X.eY d:=fun o v e=>by
  have:=I1.base.ow d o v e;rw[hd]at this;cases this
 refine⟨"dict",_,F.plainAttrs_dict,F.slot_dict_values,F.type_dict_values,⟨o,g1,g2.1⟩,fun b hb=>?_,Calls.callWith_builtin rfl (PySem.evalArgs_none ?_)⟩
 ·cases hb;exact⟨o,g1,g2.2.1⟩
 refine call_meetsIn F.slot_dict_values ⟨o,g1,g2.1⟩ F.entry_dict_values (F.args_dict_values_1 _) (CP d z2) ⟨⟨o,g1,g2.1⟩,?_⟩;have Xo:=Heap.get?_push_of_some {cls:= .type "dict_values",data:= .fields #[.ref d]} g1;refine CQ (s:={s1 with heap:=s1.heap.push {cls:= .type "dict_values",data:= .fields #[.ref d]}}) ⟨_,Heap.get?_push_size _ rfl,rfl,rfl⟩ Xo g3 ?_;have Iz:Inv X pins σ (upd H1 d (.so o (.dT kvs))) s1:=I1.swap hd (fun _ z=>nomatch z) (fun _ z=>nomatch z) (fun _ z=>nomatch z) nf ⟨g1,z1,z2,xs,KT.keeps r (fun c ys ec=>by rw[ak (i5 ec hd (fun z=>nomatch z))];exact ec),o,es,ep,g1,g2,g3,g4,g5⟩;have I2:=Iz.kept (t':=s1.toks) fun b o e=>Heap.get?_push_of_some {cls:= .type "dict_values",data:= .fields #[.ref d]} e
 refine⟨_,[_],_,_,_,rfl,I2.kept (t':=s1.toks) fun b o e=>Zp e,turn_val (o:=o) (kvs:=kvs) g3,⟨_,Heap.get?_push_size _ rfl,rfl,rfl⟩,fun b hb=>?_,q o nf⟩;have e:b=(s1.heap.push {cls:= .type "dict_values",data:= .fields #[.ref d]}).objs.size:=by simpa using hb
 subst e;exact I2.uH Zn (I2.bX.fresh Zn)
structure Ap(n:Nat)(lt:Nat→Nat→Bool):Prop where
 tr:∀i j k,i<n→j<n→k<n→lt i j=true→lt j k=true→lt i k=true
 as:∀i j,i<n→j<n→lt i j=true→lt j i=false
 SD:∀i j,i<n→j<n→i≠j→lt i j=true∨lt j i=true
def yd(n:Nat)(p:Array Nat):Prop:=p.toList.Perm (Zj n)
abbrev gd(p:Array Nat)(k:Nat):Nat:=p.getD k 0
theorem EY(p:Array Nat)(k:Nat):gd p k=(p[k]?).getD 0:=by unfold gd;rw[Array.getD_eq_getD_getElem?]
theorem yd.size{n:Nat}{p:Array Nat}(h:yd n p):p.size=n:=by have:=h.length_eq;simpa using this
def Sd(lt:Nat→Nat→Bool)(p:Array Nat)(m:Nat):Prop:=∀i j,i<j→j<m→lt (gd p i) (gd p j)=true
section
variable{n:Nat}{lt:Nat→Nat→Bool}(L:Ap n lt)
include L
omit L in
omit L in
omit L in
end
def yP:Bool→Keyed→Array Keyed→Nat→Nat→Nat→StateT SortSt Sem (Option Nat):=sortPriv%PySem.Builtin.gallop
def K9:Array Keyed→Array Keyed→StateT SortSt Sem (Array Keyed):=sortPriv%PySem.Builtin.mergeLo
def K_:Array Keyed→Array Keyed→StateT SortSt Sem (Array Keyed):=sortPriv%PySem.Builtin.mergeHi
def Aq(l:Bool)(key:Keyed)(xs:Array Keyed)(b i:Nat):StateT SortSt Sem (Option Bool):=do
 let x←elem' xs (b+i)
 if l then lt' x key else return (←lt' key x).map (!·)
theorem Hz(l:Bool)(key:Keyed)(xs:Array Keyed)(b n h:Nat):yP l key xs b n h=(do
 let mut u:=0
 let mut v:=1
 let mut lo:=0
 let mut hi:=0
 let some r←Aq l key xs b h|return none
 if r then
  let mx:=n-h
  for _ in [0:n] do
   if v≥mx then break
   let some z←Aq l key xs b (h+v)|return none
   if !z then break
   u:=v
   v:=2*v+1
  lo:=h+u+1
  hi:=h+min v mx
 else
  let mx:=h+1
  for _ in [0:n] do
   if v≥mx then break
   let some z←Aq l key xs b (h-v)|return none
   if z then break
   u:=v
   v:=2*v+1
  lo:=h+1-min v mx
  hi:=h-u
 for _ in [0:n] do
  if lo≥hi then break
  let m:=lo+(hi-lo)/2
  let some z←Aq l key xs b m|return none
  if z then lo:=m+1 else hi:=m
 return some hi):=rfl
section
variable{prog:Program}{w:World}{A:Around}{E:Value→Shared→Prop}{s:Shared}
structure EZ(prog:Program)(w:World)(A:Around)(s:Shared)(X:List Keyed)(κ:SortKind)(lt:Keyed→Keyed→Bool):Prop where
 run:∀x∈X,∀y∈X,∀C:Bool→Shared→Prop,C (lt x y) s→wpAny (model prog w) A (keyLt' κ x.1 y.1) C (fun _ _=>False) s
 tr:∀x∈X,∀y∈X,∀z∈X,lt x y=true→lt y z=true→lt x z=true
 as:∀x∈X,∀y∈X,lt x y=true→lt y x=false
 SD:∀x∈X,∀y∈X,x≠y→lt x y=true∨lt y x=true
 nd:X.Nodup
variable{X:List Keyed}{κ:SortKind}{lt:Keyed→Keyed→Bool}(C:EZ prog w A s X κ lt)
include C
theorem EZ.no{x y:Keyed}(h1:x∈X)(h2:y∈X)(hn:x≠y)(h:lt x y=false):lt y x=true:=(C.SD x h1 y h2 hn).resolve_left (by rw[h];simp)
theorem EZ.ask{st:SortSt}{x y:Keyed}{Q:Option Bool→SortSt→Prop}(hk:kindOf st=κ)(h1:x∈X)(h2:y∈X)(h:Q (some (lt x y)) st):wpS (model prog w) A E s (lt' x y) Q st:=by
 rw[lt'_eq];refine wpS_bind (wpS_get ?_);rw[hk];refine wpS_bind (wpS_lift (wpAny_attempt (wpAny_mono (C.run x h1 y h2 (fun b s'=>b=lt x y∧s'=s) ⟨rfl,rfl⟩) ?_ fun _ _ e=>e.elim)));rintro b s' ⟨rfl,rfl⟩;exact⟨rfl,ZU h⟩
omit C in
theorem e6{st:SortSt}{xs:Array Keyed}{i:Nat}{x:Keyed}{Q:Keyed→SortSt→Prop}(e:xs[i]?=some x)(h:Q x st):wpS (model prog w) A E s (elem' xs i) Q st:=by
 rw[elem'_eq,e];exact ZU h
def lp(lt:Keyed→Keyed→Bool)(l:Bool)(key x:Keyed):Bool:=if l then lt x key else !lt key x
theorem sF{st:SortSt}{l:Bool}{key x:Keyed}{xs:Array Keyed}{b i:Nat}{Q:Option Bool→SortSt→Prop}(hk:kindOf st=κ)(h1:key∈X)(h2:x∈X)(e:xs[b+i]?=some x)(h:Q (some (lp lt l key x)) st):wpS (model prog w) A E s (Aq l key xs b i) Q st:=by
 unfold Aq;refine wpS_bind (e6 e ?_);cases l with
 |true=>exact C.ask hk h2 h1 h
 |false=>exact wpS_bind (C.ask hk h1 h2 (ZU h))
theorem qy{st:SortSt}{l:Bool}{key:Keyed}{xs:Array Keyed}{b n h:Nat}{Q:Option Nat→SortSt→Prop}(g:Nat→Keyed)(hk:kindOf st=κ)(h1:key∈X)(hg:∀i,i<n→xs[b+i]?=some (g i)∧g i∈X)(R4:∀i j,i<j→j<n→lt (g i) (g j)=true)(hh:h<n)
  (q:∀k,k≤n→(∀i,i<k→lp lt l key (g i)=true)→(∀i,k≤i→i<n→lp lt l key (g i)=false)→Q (some k) st):wpS (model prog w) A E s (yP l key xs b n h) Q st:=by
 have dn:∀i j,i≤j→j<n→lp lt l key (g j)=true→lp lt l key (g i)=true:=fun i j uC hj hb=>by
  by_cases e:i=j
  ·rw[e];exact hb
  have hl:=R4 i j Mm hj;unfold lp at hb⊢;cases l with
  |true=>exact C.tr _ (hg i Mm).2 _ (hg j hj).2 _ h1 hl hb
  |false=>
   simp only[Bool.false_eq_true,if_false,Bool.not_eq_true']at hb⊢;cases e2:lt key (g i)with
   |false=>rfl
   |true=>rw[C.tr _ h1 _ (hg i Mm).2 _ (hg j hj).2 e2 hl]at hb;cases hb
 have up:∀i j,i≤j→j<n→lp lt l key (g i)=false→lp lt l key (g j)=false:=fun i j uC hj hb=>by
  cases e:lp lt l key (g j)with
  |false=>rfl
  |true=>rw[dn i j uC hj e]at hb;cases hb
 have bin:∀lo hi,lo≤hi→hi≤n→(∀i,i<lo→lp lt l key (g i)=true)→(∀i,hi≤i→i<n→lp lt l key (g i)=false)→wpS (model prog w) A E s (do
   let r←forIn [0:n] ((none,lo,hi):Option (Option Nat)×Nat×Nat) fun _ __s=>
    if __s.2.1≥__s.2.2 then pure (ForInStep.done (none,__s.2.1,__s.2.2))
    else do
     let __x←Aq l key xs b (__s.2.1+(__s.2.2-__s.2.1)/2)
     match __x with
     |some z=>if z=true then pure (ForInStep.yield (none,__s.2.1+(__s.2.2-__s.2.1)/2+1,__s.2.2))else pure (ForInStep.yield (none,__s.2.1,__s.2.1+(__s.2.2-__s.2.1)/2))
     | _=>pure (ForInStep.done (some none,__s.2.1,__s.2.2))
   match r.1 with
   |some r=>pure r
   |none=>pure (some r.2.2)) Q st:=fun lo hi h2 h3 h4 h5=>by
  refine wpS_bind (wpS_mono (wpS_forRange (I:=fun x c aT=>aT=st∧∃lo hi,c=(none,lo,hi)∧lo≤hi∧hi≤n∧(∀i,i<lo→lp lt l key (g i)=true)∧(∀i,hi≤i→i<n→lp lt l key (g i)=false)∧hi-lo+x≤n) (Q:=fun c aT=>aT=st∧∃k,c.1=none∧c.2.2=k∧k≤n∧(∀i,i<k→lp lt l key (g i)=true)∧(∀i,k≤i→i<n→lp lt l key (g i)=false)) ?_ ?_ ⟨rfl,lo,hi,rfl,h2,h3,h4,h5,by lia⟩) ?_)
  ·rintro x c aT _ hx ⟨rfl,lo,hi,rfl,a1,a2,a3,a4,a5⟩;dsimp only;by_cases Vc:lo≥hi
   ·rw[U6 Vc];have:lo=hi:=by lia
    subst this;exact ZU ⟨rfl,lo,rfl,rfl,a2,a3,a4⟩
   ·rw[Sn Vc];have hm:lo+(hi-lo)/2<n:=by lia
    obtain⟨g1,g2⟩:=hg _ hm;refine wpS_bind (sF C hk h1 g2 g1 ?_);dsimp only;cases e:lp lt l key (g (lo+(hi-lo)/2))with
    |true=>
     simp only[if_true];exact ZU ⟨rfl,_,hi,rfl,by lia,a2,fun i Br=>dn i _ (by lia) hm e,a4,by lia⟩
    |false=>
     simp only[Bool.false_eq_true,if_false];exact ZU ⟨rfl,lo,_,rfl,by lia,by lia,a3,fun i Br lI=>up _ i Br lI e,by lia⟩
  ·rintro c aT ⟨rfl,lo,hi,rfl,a1,a2,a3,a4,a5⟩;have:lo=hi:=by lia
   subst this;exact⟨rfl,lo,rfl,rfl,a2,a3,a4⟩
  ·rintro⟨c1,c2,c3⟩ aT ⟨rfl,k,e1,e2,a2,a3,a4⟩;dsimp only at e1 e2⊢;subst e1 e2;exact ZU (q _ a2 a3 a4)
 rw[Hz];obtain⟨Xp,Xq⟩:=hg h hh;refine wpS_bind (sF C hk h1 Xq Xp ?_);dsimp only;cases e:lp lt l key (g h)with
 |true=>
  simp only[if_true];refine wpS_bind (wpS_mono (wpS_forRange (I:=fun x c aT=>aT=st∧∃u v,c=(none,u,v)∧u<v∧h+u<n∧lp lt l key (g (h+u))=true∧x<v) (Q:=fun c aT=>aT=st∧∃u v,c=(none,u,v)∧u<v∧h+u<n∧lp lt l key (g (h+u))=true∧(n-h≤v∨(h+v<n∧lp lt l key (g (h+v))=false))) ?_ ?_ ⟨rfl,0,1,rfl,by lia,by lia,e,by lia⟩) ?_)
  ·rintro x c aT _ hx ⟨rfl,u,v,rfl,a1,a2,a3,a4⟩;dsimp only;by_cases hv:v≥n-h
   ·rw[U6 hv];exact ZU ⟨rfl,u,v,rfl,a1,a2,a3, .inl hv⟩
   ·rw[Sn hv];obtain⟨g1,g2⟩:=hg (h+v) (by lia);refine wpS_bind (sF C hk h1 g2 g1 ?_);dsimp only;cases e2:lp lt l key (g (h+v))with
    |false=>
     simp only[Bool.not_false,if_true];exact ZU ⟨rfl,u,v,rfl,a1,a2,a3, .inr ⟨by lia,e2⟩⟩
    |true=>
     simp only[Bool.not_true,Bool.false_eq_true,if_false];exact ZU ⟨rfl,v,2*v+1,rfl,by lia,by lia,e2,by lia⟩
  ·rintro c aT ⟨rfl,u,v,rfl,a1,a2,a3,a4⟩;exact⟨rfl,u,v,rfl,a1,a2,a3, .inl Mm⟩
  ·rintro c aT ⟨rfl,u,v,rfl,a1,a2,a3,a4⟩;dsimp only;refine Eq.mp (by kernel_rfl) (bin (h+u+1) (h+min v (n-h)) (by lia) (by lia) (fun i hi=>dn i (h+u) (by lia) a2 a3) fun i hi lI=>?_);rcases a4 with a4|⟨a4,a5⟩
   ·lia
   ·exact up (h+v) i Mm lI a5
 |false=>
  simp only[Bool.false_eq_true,if_false];refine wpS_bind (wpS_mono (wpS_forRange (I:=fun x c aT=>aT=st∧∃u v,c=(none,u,v)∧u<v∧u≤h∧lp lt l key (g (h-u))=false∧x<v) (Q:=fun c aT=>aT=st∧∃u v,c=(none,u,v)∧u<v∧u≤h∧lp lt l key (g (h-u))=false∧(h+1≤v∨(v≤h∧lp lt l key (g (h-v))=true))) ?_ ?_ ⟨rfl,0,1,rfl,by lia,by lia,e,by lia⟩) ?_)
  ·rintro x c aT _ hx ⟨rfl,u,v,rfl,a1,a2,a3,a4⟩;dsimp only;by_cases hv:v≥h+1
   ·rw[U6 hv];exact ZU ⟨rfl,u,v,rfl,a1,a2,a3, .inl hv⟩
   ·rw[Sn hv];obtain⟨g1,g2⟩:=hg (h-v) (by lia);refine wpS_bind (sF C hk h1 g2 g1 ?_);dsimp only;cases e2:lp lt l key (g (h-v))with
    |true=>
     simp only[if_true];exact ZU ⟨rfl,u,v,rfl,a1,a2,a3, .inr ⟨by lia,e2⟩⟩
    |false=>
     simp only[Bool.false_eq_true,if_false];exact ZU ⟨rfl,v,2*v+1,rfl,by lia,by lia,e2,by lia⟩
  ·rintro c aT ⟨rfl,u,v,rfl,a1,a2,a3,a4⟩;exact⟨rfl,u,v,rfl,a1,a2,a3, .inl Mm⟩
  ·rintro c aT ⟨rfl,u,v,rfl,a1,a2,a3,a4⟩;dsimp only;refine Eq.mp (by kernel_rfl) (bin (h+1-min v (h+1)) (h-u) (by lia) (by lia) (fun i hi=>?_) fun i hi lI=>up (h-u) i Mm lI a3);rcases a4 with a4|⟨a4,a5⟩
   ·lia
   ·exact dn i (h-v) (by lia) (by lia) a5
end
def setG(g:Nat):StateT SortSt Sem Unit:=modify fun st=>SortSt.mk' (kindOf st) (WJ st) (ZJ st) g (failedOf st)
def Gj(a b out:Array Keyed)(i j:Nat):Array Keyed:=out++a.extract i a.size++b.extract j b.size
def MA(a b out:Array Keyed)(i j:Nat):Array Keyed:=out++b.extract j b.size++a.extract i a.size
abbrev S1:=Option (Array Keyed)×Array Keyed×Nat×Nat×Nat×Nat
abbrev S2:=Option (Array Keyed)×Array Keyed×Nat×Nat×Nat×Nat×Nat
abbrev S3:=Option (Array Keyed)×Array Keyed×Nat×Nat×Nat
def lo1(a b:Array Keyed)(mg:Nat)(c:S1):StateT SortSt Sem (ForInStep S1):=do
 let y←elem' b c.2.2.2.1
 let x←elem' a c.2.2.1
 let z←lt' y x
 match z with
 |some bw=>
  if bw=true then do
   let y←elem' b c.2.2.2.1
   if (c.2.2.2.1+1==b.size)=true then pure (.done (some (Gj a b (c.2.1.push y) c.2.2.1 (c.2.2.2.1+1)),c.2.1.push y,c.2.2.1,c.2.2.2.1+1,0,c.2.2.2.2.2+1))
   else if c.2.2.2.2.2+1≥mg then pure (.done (none,c.2.1.push y,c.2.2.1,c.2.2.2.1+1,0,c.2.2.2.2.2+1))
   else pure (.yield (none,c.2.1.push y,c.2.2.1,c.2.2.2.1+1,0,c.2.2.2.2.2+1))
  else do
   let x←elem' a c.2.2.1
   if (c.2.2.1+1+1==a.size)=true then pure (.done (some (MA a b (c.2.1.push x) (c.2.2.1+1) c.2.2.2.1),c.2.1.push x,c.2.2.1+1,c.2.2.2.1,c.2.2.2.2.1+1,0))
   else if c.2.2.2.2.1+1≥mg then pure (.done (none,c.2.1.push x,c.2.2.1+1,c.2.2.2.1,c.2.2.2.2.1+1,0))
   else pure (.yield (none,c.2.1.push x,c.2.2.1+1,c.2.2.2.1,c.2.2.2.2.1+1,0))
 | _=>pure (.done (some (Gj a b c.2.1 c.2.2.1 c.2.2.2.1),c.2.1,c.2.2.1,c.2.2.2.1,c.2.2.2.2.1,c.2.2.2.2.2))
def Qq(a b o:Array Keyed)(i j mg k l:Nat):StateT SortSt Sem (ForInStep S2):=do
 let x←elem' a i
 if (i+1+1==a.size)=true then pure (.done (some (MA a b (o.push x) (i+1) j),o.push x,i+1,j,mg,k,l))
 else if (decide (k<7)&&decide (l<7))=true then pure (.done (none,o.push x,i+1,j,mg,k,l))
 else pure (.yield (none,o.push x,i+1,j,mg,k,l))
def SE(a b o:Array Keyed)(i j mg k bc:Nat):StateT SortSt Sem (ForInStep S2):=do
 let x←elem' a i
 let z←yP true x b j (b.size-j) 0
 match z with
 |some l=>if l>0 then(if (j+l==b.size)=true then pure (.done (some (Gj a b (o++b.extract j (j+l)) i (j+l)),o++b.extract j (j+l),i,j+l,mg,k,l))else Qq a b (o++b.extract j (j+l)) i (j+l) mg k l)else Qq a b o i j mg k l
 | _=>pure (.done (some (Gj a b o i j),o,i,j,mg,k,bc))
def Qr(a b o:Array Keyed)(i j mg k bc:Nat):StateT SortSt Sem (ForInStep S2):=do
 let y←elem' b j
 if (j+1==b.size)=true then pure (.done (some (Gj a b (o.push y) i (j+1)),o.push y,i,j+1,mg,k,bc))else SE a b (o.push y) i (j+1) mg k bc
def Qs(a b o:Array Keyed)(i j mg ac bc:Nat):StateT SortSt Sem (ForInStep S2):=do
 setG mg
 let y←elem' b j
 let z←yP false y a i (a.size-i) 0
 match z with
 |some k=>if k>0 then(if (i+k+1==a.size)=true then pure (.done (some (MA a b (o++a.extract i (i+k)) (i+k) j),o++a.extract i (i+k),i+k,j,mg,k,bc))else if (i+k==a.size)=true then pure (.done (some (Gj a b (o++a.extract i (i+k)) (i+k) j),o++a.extract i (i+k),i+k,j,mg,k,bc))else Qr a b (o++a.extract i (i+k)) (i+k) j mg k bc)else Qr a b o i j mg k bc
 | _=>pure (.done (some (Gj a b o i j),o,i,j,mg,ac,bc))
def SF(a b:Array Keyed)(c:S2):StateT SortSt Sem (ForInStep S2):=if c.2.2.2.2.1>1 then Qs a b c.2.1 c.2.2.1 c.2.2.2.1 (c.2.2.2.2.1-1) c.2.2.2.2.2.1 c.2.2.2.2.2.2 else Qs a b c.2.1 c.2.2.1 c.2.2.2.1 c.2.2.2.2.1 c.2.2.2.2.2.1 c.2.2.2.2.2.2
def SG(a b:Array Keyed)(c:S3):StateT SortSt Sem (ForInStep S3):=do
 let t←forIn [0:a.size+b.size] ((none,c.2.1,c.2.2.1,c.2.2.2.1,0,0):S1) (fun _=>lo1 a b c.2.2.2.2)
 match t.1 with
 |some r=>pure (.done (some r,t.2.1,t.2.2.1,t.2.2.2.1,c.2.2.2.2))
 |none=>do
  liftM (rule "list.sort.gallop")
  let u←forIn [0:a.size+b.size] ((none,t.2.1,t.2.2.1,t.2.2.2.1,c.2.2.2.2+1,t.2.2.2.2.1,t.2.2.2.2.2):S2) (fun _=>SF a b)
  match u.1 with
  |some r=>pure (.done (some r,u.2.1,u.2.2.1,u.2.2.2.1,u.2.2.2.2.1))
  |none=>do
   setG (u.2.2.2.2.1+1)
   pure (.yield (none,u.2.1,u.2.2.1,u.2.2.2.1,u.2.2.2.2.1+1))
theorem HA(a b:Array Keyed):K9 a b=(do
 liftM (rule "list.sort.merge-lo")
 let y←elem' b 0
 if (1==b.size)=true then pure (Gj a b #[y] 0 1)
 else if (0+1==a.size)=true then pure (MA a b #[y] 0 1)
 else do
  let g←get
  let t←forIn [0:a.size+b.size] ((none,#[y],0,1,gallopOf g):S3) (fun _=>SG a b)
  match t.1 with
  |some r=>pure r
  |none=>unsupported "internal:list.sort.merge-bound"):=by kernel_rfl
def Gk(a b o:Array Keyed)(i j:Nat):Array Keyed:=a.extract 0 i++b.extract 0 j++o.reverse
def MB(a b o:Array Keyed)(i j:Nat):Array Keyed:=b.extract 0 j++a.extract 0 i++o.reverse
abbrev T1:=Option (Array Keyed)×Nat×Nat×Array Keyed×Nat×Nat
abbrev T2:=Option (Array Keyed)×Nat×Nat×Array Keyed×Nat×Nat×Nat
abbrev T3:=Option (Array Keyed)×Nat×Nat×Array Keyed×Nat
def SH(a b:Array Keyed)(mg:Nat)(c:T1):StateT SortSt Sem (ForInStep T1):=do
 let y←elem' b (c.2.2.1-1)
 let x←elem' a (c.2.1-1)
 let z←lt' y x
 match z with
 |some aw=>
  if aw=true then do
   let x←elem' a (c.2.1-1)
   if (c.2.1-1==0)=true then pure (.done (some (Gk a b (c.2.2.2.1.push x) (c.2.1-1) c.2.2.1),c.2.1-1,c.2.2.1,c.2.2.2.1.push x,c.2.2.2.2.1+1,0))
   else if c.2.2.2.2.1+1≥mg then pure (.done (none,c.2.1-1,c.2.2.1,c.2.2.2.1.push x,c.2.2.2.2.1+1,0))
   else pure (.yield (none,c.2.1-1,c.2.2.1,c.2.2.2.1.push x,c.2.2.2.2.1+1,0))
  else do
   let y←elem' b (c.2.2.1-1)
   if (c.2.2.1-1==1)=true then pure (.done (some (MB a b (c.2.2.2.1.push y) c.2.1 (c.2.2.1-1)),c.2.1,c.2.2.1-1,c.2.2.2.1.push y,0,c.2.2.2.2.2+1))
   else if c.2.2.2.2.2+1≥mg then pure (.done (none,c.2.1,c.2.2.1-1,c.2.2.2.1.push y,0,c.2.2.2.2.2+1))
   else pure (.yield (none,c.2.1,c.2.2.1-1,c.2.2.2.1.push y,0,c.2.2.2.2.2+1))
 | _=>pure (.done (some (Gk a b c.2.2.2.1 c.2.1 c.2.2.1),c.2.1,c.2.2.1,c.2.2.2.1,c.2.2.2.2.1,c.2.2.2.2.2))
def Qt(a b o:Array Keyed)(i j mg k l:Nat):StateT SortSt Sem (ForInStep T2):=do
 let x←elem' a (i-1)
 if (i-1==0)=true then pure (.done (some (Gk a b (o.push x) (i-1) j),i-1,j,o.push x,mg,k,l))
 else if (decide (k<7)&&decide (l<7))=true then pure (.done (none,i-1,j,o.push x,mg,k,l))
 else pure (.yield (none,i-1,j,o.push x,mg,k,l))
def SI(a b o:Array Keyed)(i j mg k bc:Nat):StateT SortSt Sem (ForInStep T2):=do
 let x←elem' a (i-1)
 let z←yP true x b 0 j (j-1)
 match z with
 |some t=>if j-t>0 then(if (t==1)=true then pure (.done (some (MB a b (o++(b.extract t j).reverse) i t),i,t,o++(b.extract t j).reverse,mg,k,j-t))else if (t==0)=true then pure (.done (some (Gk a b (o++(b.extract t j).reverse) i t),i,t,o++(b.extract t j).reverse,mg,k,j-t))else Qt a b (o++(b.extract t j).reverse) i t mg k (j-t))else Qt a b o i j mg k (j-t)
 | _=>pure (.done (some (Gk a b o i j),i,j,o,mg,k,bc))
def Qu(a b o:Array Keyed)(i j mg k bc:Nat):StateT SortSt Sem (ForInStep T2):=do
 let y←elem' b (j-1)
 if (j-1==1)=true then pure (.done (some (MB a b (o.push y) i (j-1)),i,j-1,o.push y,mg,k,bc))else SI a b (o.push y) i (j-1) mg k bc
def Gm(a b o:Array Keyed)(i j mg ac bc:Nat):StateT SortSt Sem (ForInStep T2):=do
 setG mg
 let y←elem' b (j-1)
 let z←yP false y a 0 i (i-1)
 match z with
 |some t=>if i-t>0 then(if (t==0)=true then pure (.done (some (Gk a b (o++(a.extract t i).reverse) t j),t,j,o++(a.extract t i).reverse,mg,i-t,bc))else Qu a b (o++(a.extract t i).reverse) t j mg (i-t) bc)else Qu a b o i j mg (i-t) bc
 | _=>pure (.done (some (Gk a b o i j),i,j,o,mg,ac,bc))
def SJ(a b:Array Keyed)(c:T2):StateT SortSt Sem (ForInStep T2):=if c.2.2.2.2.1>1 then Gm a b c.2.2.2.1 c.2.1 c.2.2.1 (c.2.2.2.2.1-1) c.2.2.2.2.2.1 c.2.2.2.2.2.2 else Gm a b c.2.2.2.1 c.2.1 c.2.2.1 c.2.2.2.2.1 c.2.2.2.2.2.1 c.2.2.2.2.2.2
def SK(a b:Array Keyed)(c:T3):StateT SortSt Sem (ForInStep T3):=do
 let t←forIn [0:a.size+b.size] ((none,c.2.1,c.2.2.1,c.2.2.2.1,0,0):T1) (fun _=>SH a b c.2.2.2.2)
 match t.1 with
 |some r=>pure (.done (some r,t.2.1,t.2.2.1,t.2.2.2.1,c.2.2.2.2))
 |none=>do
  liftM (rule "list.sort.gallop")
  let u←forIn [0:a.size+b.size] ((none,t.2.1,t.2.2.1,t.2.2.2.1,c.2.2.2.2+1,t.2.2.2.2.1,t.2.2.2.2.2):T2) (fun _=>SJ a b)
  match u.1 with
  |some r=>pure (.done (some r,u.2.1,u.2.2.1,u.2.2.2.1,u.2.2.2.2.1))
  |none=>do
   setG (u.2.2.2.2.1+1)
   pure (.yield (none,u.2.1,u.2.2.1,u.2.2.2.1,u.2.2.2.2.1+1))
theorem HB(a b:Array Keyed):K_ a b=(do
 liftM (rule "list.sort.merge-hi")
 let x←elem' a (a.size-1)
 if (a.size-1==0)=true then pure (Gk a b #[x] (a.size-1) b.size)
 else if (b.size==1)=true then pure (MB a b #[x] (a.size-1) b.size)
 else do
  let g←get
  let t←forIn [0:a.size+b.size] ((none,a.size-1,b.size,#[x],gallopOf g):T3) (fun _=>SK a b)
  match t.1 with
  |some r=>pure r
  |none=>unsupported "internal:list.sort.merge-bound"):=by kernel_rfl
theorem lP{α:Type}{l:List α}{i:Nat}{x:α}:x∈l.drop i↔∃t:Nat,l[i+t]?=some x:=by
 rw[List.mem_iff_getElem?];simp only[List.getElem?_drop]
theorem tI{α:Type}{l:List α}{i k:Nat}{x:α}:x∈(l.drop i).take k↔∃t:Nat,t<k∧l[i+t]?=some x:=by
 rw[List.mem_iff_getElem?];constructor
 ·rintro⟨t,ht⟩;rw[List.getElem?_take]at ht;split at ht
  ·rw[List.getElem?_drop]at ht;exact⟨t,by assumption,ht⟩
  ·cases ht
 ·rintro⟨t,h1,h2⟩;exact⟨t,by rw[List.getElem?_take,U6 h1,List.getElem?_drop];exact h2⟩
theorem oU{α:Type}{l:List α}{i:Nat}{x:α}(h:l[i]?=some x):l.drop i=x::l.drop (i+1):=by
 obtain⟨h1,h2⟩:=Z' h;rw[List.drop_eq_getElem_cons h1,h2]
theorem oV{α:Type}(l:List α)(i k:Nat):l.drop i=(l.drop i).take k++l.drop (i+k):=by
 rw[←List.drop_drop,List.take_append_drop]
abbrev Pw(lt:Keyed→Keyed→Bool)(l:List Keyed):Prop:=l.Pairwise fun x y=>lt x y=true
theorem Pw.at{lt:Keyed→Keyed→Bool}{l:List Keyed}(h:Pw lt l){i j:Nat}{x y:Keyed}(uC:i<j)(hx:l[i]?=some x)(hy:l[j]?=some y):lt x y=true:=by
 obtain⟨h1,e1⟩:=Z' hx;obtain⟨h2,e2⟩:=Z' hy;have:=List.pairwise_iff_getElem.mp h i j h1 h2 uC;rw[e1,e2]at this;exact this
section
variable{X:List Keyed}{lt:Keyed→Keyed→Bool}{P Q:List Keyed}
structure MC(X:List Keyed)(lt:Keyed→Keyed→Bool)(P Q:List Keyed):Prop where
 sa:Pw lt P
 sb:Pw lt Q
 ia:∀x∈P,x∈X
 ib:∀x∈Q,x∈X
 ne:∀x∈P,∀y∈Q,x≠y
 fst:∀x∈P,∀y,Q[0]?=some y→lt y x=true
 lst:∀y∈Q,∀x,P[P.length-1]?=some x→lt y x=true
structure ML(lt:Keyed→Keyed→Bool)(P Q O:List Keyed)(i j:Nat):Prop where
 hi:i≤P.length
 hj:j≤Q.length
 qz:Pw lt O
 low:∀x∈O,∀y,y∈P.drop i∨y∈Q.drop j→lt x y=true
 HC:(O++(P.drop i++Q.drop j)).Perm (P++Q)
def MG(lt:Keyed→Keyed→Bool)(P Q R:List Keyed):Prop:=R.Perm (P++Q)∧Pw lt R
theorem ML.a{O:List Keyed}{i j k:Nat}(M:MC X lt P Q)(m:ML lt P Q O i j)(hk:i+k≤P.length)(h:∀x∈(P.drop i).take k,∀y∈Q.drop j,lt x y=true):ML lt P Q (O++(P.drop i).take k) (i+k) j:=by
 have sp:=oV P i k;have sd:Pw lt (P.drop i):=M.sa.sublist (List.drop_sublist _ _);rw[sp]at sd;obtain⟨s1,s2,s3⟩:=List.pairwise_append.mp sd;refine⟨hk,m.hj,List.pairwise_append.mpr ⟨m.qz,s1,fun x hx y hy=>m.low x hx y (.inl (List.mem_of_mem_take hy))⟩,fun x hx y hy=>?_,?_⟩
 ·rcases List.mem_append.mp hx with hx|hx
  ·exact m.low x hx y (hy.imp (fun z=>by rw[sp];exact Ε z) id)
  ·rcases hy with hy|hy
   ·exact s3 x hx y hy
   ·exact h x hx y hy
 ·have:=m.HC;rw[sp]at this;rw[List.append_assoc,←List.append_assoc ((P.drop i).take k)];exact this
theorem ML.b{O:List Keyed}{i j k:Nat}(M:MC X lt P Q)(m:ML lt P Q O i j)(hk:j+k≤Q.length)(h:∀y∈(Q.drop j).take k,∀x∈P.drop i,lt y x=true):ML lt P Q (O++(Q.drop j).take k) i (j+k):=by
 have sp:=oV Q j k;have sd:Pw lt (Q.drop j):=M.sb.sublist (List.drop_sublist _ _);rw[sp]at sd;obtain⟨s1,s2,s3⟩:=List.pairwise_append.mp sd;refine⟨m.hi,hk,List.pairwise_append.mpr ⟨m.qz,s1,fun x hx y hy=>m.low x hx y (.inr (List.mem_of_mem_take hy))⟩,fun x hx y hy=>?_,?_⟩
 ·rcases List.mem_append.mp hx with hx|hx
  ·exact m.low x hx y (hy.imp id (fun z=>by rw[sp];exact Ε z))
  ·rcases hy with hy|hy
   ·exact h x hx y hy
   ·exact s3 x hx y hy
 ·have:=m.HC;rw[sp]at this;refine List.Perm.trans ?_ this;rw[List.append_assoc];refine List.Perm.append_left O ?_;rw[←List.append_assoc,←List.append_assoc];exact List.Perm.append_right _ List.perm_append_comm
theorem ML.dn{O:List Keyed}{i j:Nat}(M:MC X lt P Q)(m:ML lt P Q O i j)(h:i=P.length∨j=Q.length):MG lt P Q (O++P.drop i++Q.drop j):=by
 refine⟨by rw[List.append_assoc];exact m.HC,?_⟩;have sa:Pw lt (P.drop i):=M.sa.sublist (List.drop_sublist _ _);have sb:Pw lt (Q.drop j):=M.sb.sublist (List.drop_sublist _ _);rw[List.append_assoc];refine List.pairwise_append.mpr ⟨m.qz,List.pairwise_append.mpr ⟨sa,sb,fun x hx y hy=>?_⟩,fun x hx y hy=>m.low x hx y (List.mem_append.mp hy)⟩;rcases h with h|h
 ·rw[h,List.drop_length]at hx;cases hx
 ·rw[h,List.drop_length]at hy;cases hy
theorem ML.ls{O:List Keyed}{i j:Nat}(M:MC X lt P Q)(m:ML lt P Q O i j)(h:i+1=P.length):MG lt P Q (O++Q.drop j++P.drop i):=by
 have sa:Pw lt (P.drop i):=M.sa.sublist (List.drop_sublist _ _);have sb:Pw lt (Q.drop j):=M.sb.sublist (List.drop_sublist _ _);rw[List.append_assoc];refine⟨(List.Perm.append_left O List.perm_append_comm).trans m.HC,List.pairwise_append.mpr ⟨m.qz,List.pairwise_append.mpr ⟨sb,sa,fun y hy x hx=>?_⟩,fun x hx y hy=>m.low x hx y (List.mem_append.mp hy).symm⟩⟩;obtain⟨t,ht⟩:=lP.mp hx;have hl:=(Z' ht).1;exact M.lst y (List.mem_of_mem_drop hy) x (by rw[←ht];congr 1;lia)
end
def Eg(st aT:SortSt):Prop:=kindOf aT=kindOf st∧arrOf aT=arrOf st∧pendingOf aT=pendingOf st∧failedOf aT=failedOf st
theorem Eg.refl(st:SortSt):Eg st st:=⟨rfl,rfl,rfl,rfl⟩
theorem Eg.trans{a b c:SortSt}(h:Eg a b)(k:Eg b c):Eg a c:=⟨k.1.trans h.1,k.2.1.trans h.2.1,k.2.2.1.trans h.2.2.1,k.2.2.2.trans h.2.2.2⟩
section
variable{prog:Program}{w:World}{A:Around}{E:Value→Shared→Prop}{s:Shared}{X:List Keyed}{κ:SortKind}{lt:Keyed→Keyed→Bool}(C:EZ prog w A s X κ lt){a b:Array Keyed}(M:MC X lt a.toList b.toList)
theorem sG{st:SortSt}{g:Nat}{Q:Unit→SortSt→Prop}(h:∀aT,Eg st aT→Q () aT):wpS (model prog w) A E s (setG g) Q st:=wpS_modify (h _ ⟨rfl,rfl,rfl,rfl⟩)
theorem yQ(o:Array Keyed)(i j:Nat):(Gj a b o i j).toList=o.toList++a.toList.drop i++b.toList.drop j:=by
 unfold Gj;simp[Array.toList_extract,List.extract_eq_take_drop];rw[List.take_of_length_le V9,List.take_of_length_le V9]
theorem BK(o:Array Keyed)(i j:Nat):(MA a b o i j).toList=o.toList++b.toList.drop j++a.toList.drop i:=by
 unfold MA;simp[Array.toList_extract,List.extract_eq_take_drop];rw[List.take_of_length_le V9,List.take_of_length_le V9]
theorem Jm(o:Array Keyed)(c:Array Keyed)(i k:Nat):(o++c.extract i (i+k)).toList=o.toList++(c.toList.drop i).take k:=by
 simp[Array.toList_extract,List.extract_eq_take_drop]
theorem Gp{l:List Keyed}{i:Nat}{x:Keyed}(h:l[i]?=some x):(l.drop i).take 1=[x]:=by rw[oU h];simp
def BL(lt:Keyed→Keyed→Bool)(a b:Array Keyed)(o:Array Keyed)(i j m:Nat):Prop:=ML lt a.toList b.toList o.toList i j∧i+1<a.size∧j<b.size∧m≤i+j
def P2(lt:Keyed→Keyed→Bool)(a b:Array Keyed)(m:Nat)(st:SortSt)(r:ForInStep S2)(aT:SortSt):Prop:=Eg st aT∧match r with
 | .done c=>(∃x,c.1=some x∧MG lt a.toList b.toList x.toList)∨(c.1=none∧BL lt a b c.2.1 c.2.2.1 c.2.2.2.1 m)
 | .yield c=>c.1=none∧BL lt a b c.2.1 c.2.2.1 c.2.2.2.1 m
include C M
theorem E2{st:SortSt}{o:Array Keyed}{i j mg k l m:Nat}(ml:ML lt a.toList b.toList o.toList i j)(hi:i+1<a.size)(hj:j<b.size)(hm:m≤i+j+1)(h:∀x,a.toList[i]?=some x→∀y∈b.toList.drop j,lt x y=true):wpS (model prog w) A E s (Qq a b o i j mg k l) (P2 lt a b m st) st:=by
 unfold Qq;have ex:a[i]?=some a[i]:=Wv;have gL:a.toList[i]?=some a[i]:=by rw[Array.getElem?_toList];exact ex
 refine wpS_bind (e6 ex ?_);have m2:ML lt a.toList b.toList (o.push a[i]).toList (i+1) j:=by
  have:=ml.a M (k:=1) (by simp;lia) (fun x hx y hy=>by
   rw[Gp gL]at hx;have:x=a[i]:=by simpa using hx
   rw[this];exact h _ gL y hy)
  rw[Gp gL]at this;rw[Array.toList_push];exact this
 by_cases e:(i+1+1==a.size)=true
 ·rw[U6 e];refine wpS_pure ⟨.refl _, .inl ⟨_,rfl,?_⟩⟩;rw[BK];exact m2.ls M (by have:=beq_iff_eq.mp e;simp;lia)
 ·rw[Sn e];have e:i+1+1≠a.size:=fun z=>e Ο
  split
  ·exact ZU ⟨.refl _, .inr ⟨rfl,m2,by show i+1+1<a.size;lia,hj,by show m≤i+1+j;lia⟩⟩
  ·exact ZU ⟨.refl _,rfl,m2,by show i+1+1<a.size;lia,hj,by show m≤i+1+j;lia⟩
theorem K'{st:SortSt}{o:Array Keyed}{i j mg k bc m:Nat}(hk:kindOf st=κ)(ml:ML lt a.toList b.toList o.toList i j)(hi:i+1<a.size)(hj:j<b.size)(hm:m≤i+j+1):wpS (model prog w) A E s (SE a b o i j mg k bc) (P2 lt a b m st) st:=by
 unfold SE;have ex:a[i]?=some a[i]:=Wv;have gL:a.toList[i]?=some a[i]:=by rw[Array.getElem?_toList];exact ex
 have hx:a[i]∈a.toList:=ZO gL;refine wpS_bind (e6 ex ?_);generalize a[i]=x at ex gL hx;have gb:∀t,t<b.size-j→b[j+t]?=some (b.getD (j+t) (.none, .none)):=fun t ht=>by simp[show j+t<b.size by lia]
 have rS:∀t,t<b.size-j→b.toList[j+t]?=some (b.getD (j+t) (.none, .none)):=fun t ht=>by rw[Array.getElem?_toList];exact gb t ht
 refine wpS_bind (qy C (fun t=>b.getD (j+t) (.none, .none)) hk (M.ia _ hx) (fun t ht=>⟨gb t ht,M.ib _ (ZO (rS t ht))⟩) (fun t u h1 h2=>M.sb.at (i:=j+t) (j:=j+u) (by lia) (rS t (by lia)) (rS u h2)) (by lia) fun l hl h1 h2=>?_);dsimp only;have low:∀y∈(b.toList.drop j).take l,∀z∈a.toList.drop i,lt y z=true:=fun y hy z hz=>by
  obtain⟨t,ht,et⟩:=tI.mp hy;rw[rS t (by lia)]at et;cases et;have hb:=h1 t ht;simp only[lp,if_true]at hb;rw[oU gL]at hz;rcases List.mem_cons.mp hz with rfl|hz
  ·exact hb
  ·obtain⟨u,hu⟩:=lP.mp hz;exact C.tr _ (M.ib _ (ZO (rS t (by lia)))) _ (M.ia _ hx) _ (M.ia _ (ZO hu)) hb (M.sa.at Mm gL hu)
 have zF:∀y∈b.toList.drop (j+l),lt x y=true:=fun y hy=>by
  obtain⟨t,ht⟩:=lP.mp hy;have gR:=(Z' ht).1;have gR:j+l+t<b.size:=by simpa using gR
  have hb:=h2 (l+t) (by lia) (by lia);have e:b.toList[j+(l+t)]?=some y:=by rw[←Nat.add_assoc];exact ht
  rw[rS (l+t) (by lia)]at e;have e:=ZV e;simp only[lp,if_true]at hb;rw[e]at hb;exact C.no (M.ib _ (ZO ht)) (M.ia _ hx) (fun z=>M.ne _ hx _ (ZO ht) z.symm) hb
 have m2:ML lt a.toList b.toList (o++b.extract j (j+l)).toList i (j+l):=by
  rw[Jm];exact ml.b M (by simp;lia) low
 by_cases Lb:l>0
 ·rw[U6 Lb];by_cases e:(j+l==b.size)=true
  ·rw[U6 e];refine wpS_pure ⟨.refl _, .inl ⟨_,rfl,?_⟩⟩;rw[yQ];exact m2.dn M (.inr (by have:=beq_iff_eq.mp e;simpa using this))
  ·rw[Sn e];have e:j+l≠b.size:=fun z=>e Ο
   exact E2 C M m2 hi Mm (by lia) fun y hy=>by rw[gL]at hy;cases hy;exact zF
 ·rw[Sn Lb];have:l=0:=by lia
  subst this;exact E2 C M ml hi hj hm fun y hy=>by rw[gL]at hy;cases hy;exact zF
theorem E3{st:SortSt}{o:Array Keyed}{i j mg k bc m:Nat}(hk:kindOf st=κ)(ml:ML lt a.toList b.toList o.toList i j)(hi:i+1<a.size)(hj:j<b.size)(hm:m≤i+j+2)(h:∀y,b.toList[j]?=some y→∀x∈a.toList.drop i,lt y x=true):wpS (model prog w) A E s (Qr a b o i j mg k bc) (P2 lt a b m st) st:=by
 unfold Qr;have ex:b[j]?=some b[j]:=Wv;have gL:b.toList[j]?=some b[j]:=by rw[Array.getElem?_toList];exact ex
 refine wpS_bind (e6 ex ?_);have m2:ML lt a.toList b.toList (o.push b[j]).toList i (j+1):=by
  have:=ml.b M (k:=1) (by simp;lia) (fun x hx y hy=>by
   rw[Gp gL]at hx;have:x=b[j]:=by simpa using hx
   rw[this];exact h _ gL y hy)
  rw[Gp gL]at this;rw[Array.toList_push];exact this
 by_cases e:(j+1==b.size)=true
 ·rw[U6 e];refine wpS_pure ⟨.refl _, .inl ⟨_,rfl,?_⟩⟩;rw[yQ];exact m2.dn M (.inr (by have:=beq_iff_eq.mp e;simpa using this))
 ·rw[Sn e];have e:j+1≠b.size:=fun z=>e Ο
  exact K' C M hk m2 hi Mm (by lia)
theorem E4{st:SortSt}{o:Array Keyed}{i j mg ac bc m:Nat}(hk:kindOf st=κ)(h:BL lt a b o i j m):wpS (model prog w) A E s (Qs a b o i j mg ac bc) (P2 lt a b (m+2) st) st:=by
 obtain⟨ml,hi,hj,hm⟩:=h;unfold Qs;refine wpS_bind (sG fun As eg=>?_);have Jn:kindOf As=κ:=eg.1.trans hk;have fin:∀{m:Nat}{p:StateT SortSt Sem (ForInStep S2)},wpS (model prog w) A E s p (P2 lt a b m As) As→wpS (model prog w) A E s p (P2 lt a b m st) As:=fun h=>wpS_mono h fun r aT z=>⟨eg.trans z.1,z.2⟩
 refine fin ?_;have ex:b[j]?=some b[j]:=Wv;have gL:b.toList[j]?=some b[j]:=by rw[Array.getElem?_toList];exact ex
 have hx:b[j]∈b.toList:=ZO gL;refine wpS_bind (e6 ex ?_);generalize b[j]=y at ex gL hx;have gb:∀t,t<a.size-i→a[i+t]?=some (a.getD (i+t) (.none, .none)):=fun t ht=>by simp[show i+t<a.size by lia]
 have rS:∀t,t<a.size-i→a.toList[i+t]?=some (a.getD (i+t) (.none, .none)):=fun t ht=>by rw[Array.getElem?_toList];exact gb t ht
 refine wpS_bind (qy C (fun t=>a.getD (i+t) (.none, .none)) Jn (M.ib _ hx) (fun t ht=>⟨gb t ht,M.ia _ (ZO (rS t ht))⟩) (fun t u h1 h2=>M.sa.at (i:=i+t) (j:=i+u) (by lia) (rS t (by lia)) (rS u h2)) (by lia) fun k hl h1 h2=>?_);dsimp only;have low:∀x∈(a.toList.drop i).take k,∀z∈b.toList.drop j,lt x z=true:=fun x uD z hz=>by
  obtain⟨t,ht,et⟩:=tI.mp uD;rw[rS t (by lia)]at et;cases et;have jb:=ZO (rS t (by lia));have hb:=h1 t ht;simp only[lp,Bool.false_eq_true,if_false,Bool.not_eq_true']at hb;have hb:=C.no (M.ib _ hx) (M.ia _ jb) (fun z=>M.ne _ jb _ hx z.symm) hb;rw[oU gL]at hz;rcases List.mem_cons.mp hz with rfl|hz
  ·exact hb
  ·obtain⟨u,hu⟩:=lP.mp hz;exact C.tr _ (M.ia _ jb) _ (M.ib _ hx) _ (M.ib _ (ZO hu)) hb (M.sb.at Mm gL hu)
 have zF:∀x∈a.toList.drop (i+k),lt y x=true:=fun x uD=>by
  obtain⟨t,ht⟩:=lP.mp uD;have gR:=(Z' ht).1;have gR:i+k+t<a.size:=by simpa using gR
  have hb:=h2 (k+t) (by lia) (by lia);have e:a.toList[i+(k+t)]?=some x:=by rw[←Nat.add_assoc];exact ht
  rw[rS (k+t) (by lia)]at e;have e:=ZV e;simp only[lp,Bool.false_eq_true,if_false,Bool.not_eq_false']at hb;rw[e]at hb;exact hb
 have m2:ML lt a.toList b.toList (o++a.extract i (i+k)).toList (i+k) j:=by
  rw[Jm];exact ml.a M (by simp;lia) low
 by_cases w_:k>0
 ·rw[U6 w_];by_cases e:(i+k+1==a.size)=true
  ·rw[U6 e];refine wpS_pure ⟨.refl _, .inl ⟨_,rfl,?_⟩⟩;rw[BK];exact m2.ls M (by have:=beq_iff_eq.mp e;simpa using this)
  ·rw[Sn e];have e:i+k+1≠a.size:=fun z=>e Ο
   by_cases e2:(i+k==a.size)=true
   ·rw[U6 e2];refine wpS_pure ⟨.refl _, .inl ⟨_,rfl,?_⟩⟩;rw[yQ];exact m2.dn M (.inl (by have:=beq_iff_eq.mp e2;simpa using this))
   ·rw[Sn e2];have e2:i+k≠a.size:=fun z=>e2 Ο
    exact E3 C M Jn m2 Mm hj Mm fun z hz=>by rw[gL]at hz;cases hz;exact zF
 ·rw[Sn w_];have:k=0:=by lia
  subst this;exact E3 C M Jn ml hi hj Mm fun z hz=>by rw[gL]at hz;cases hz;exact zF
theorem Lc{st:SortSt}{c:S2}{m:Nat}(hk:kindOf st=κ)(h:BL lt a b c.2.1 c.2.2.1 c.2.2.2.1 m):wpS (model prog w) A E s (SF a b c) (P2 lt a b (m+2) st) st:=by
 unfold SF;split
 ·exact E4 C M hk h
 ·exact E4 C M hk h
theorem Ld{st:SortSt}{c:S1}{mg m:Nat}(hk:kindOf st=κ)(h:BL lt a b c.2.1 c.2.2.1 c.2.2.2.1 m):wpS (model prog w) A E s (lo1 a b mg c) (fun r aT=>aT=st∧match r with
  | .done c=>(∃x,c.1=some x∧MG lt a.toList b.toList x.toList)∨(c.1=none∧BL lt a b c.2.1 c.2.2.1 c.2.2.2.1 (m+1))
  | .yield c=>c.1=none∧BL lt a b c.2.1 c.2.2.1 c.2.2.2.1 (m+1)) st:=by
 obtain⟨r,o,i,j,ac,bc⟩:=c;obtain⟨ml,hi,hj,hm⟩:=h;dsimp only at ml hi hj hm;unfold lo1;dsimp only;have ex:a[i]?=some a[i]:=Wv;have gL:a.toList[i]?=some a[i]:=by rw[Array.getElem?_toList];exact ex
 have ey:b[j]?=some b[j]:=Wv;have zG:b.toList[j]?=some b[j]:=by rw[Array.getElem?_toList];exact ey
 have hx:a[i]∈a.toList:=ZO gL;have hy:b[j]∈b.toList:=ZO zG;refine wpS_bind (e6 ey (wpS_bind (e6 ex ?_)));generalize a[i]=x at ex gL hx;generalize b[j]=y at ey zG hy;refine wpS_bind (C.ask hk (M.ib _ hy) (M.ia _ hx) ?_);dsimp only;cases e:lt y x with
 |true=>
  rw[if_pos rfl];refine wpS_bind (e6 ey ?_);have m2:ML lt a.toList b.toList (o.push y).toList i (j+1):=by
   have:=ml.b M (k:=1) (by simp;lia) (fun y' Ox z hz=>by
    rw[Gp zG]at Ox;have:y'=y:=by simpa using Ox
    rw[this];rw[oU gL]at hz;rcases List.mem_cons.mp hz with rfl|hz
    ·exact e
    ·obtain⟨u,hu⟩:=lP.mp hz;exact C.tr _ (M.ib _ hy) _ (M.ia _ hx) _ (M.ia _ (ZO hu)) e (M.sa.at Mm gL hu))
   rw[Gp zG]at this;rw[Array.toList_push];exact this
  by_cases e2:(j+1==b.size)=true
  ·rw[U6 e2];refine wpS_pure ⟨rfl, .inl ⟨_,rfl,?_⟩⟩;rw[yQ];exact m2.dn M (.inr (by have:=beq_iff_eq.mp e2;simpa using this))
  ·rw[Sn e2];have e2:j+1≠b.size:=fun z=>e2 Ο
   split
   ·exact ZU ⟨rfl, .inr ⟨rfl,m2,hi,by show j+1<b.size;lia,by show m+1≤i+(j+1);lia⟩⟩
   ·exact ZU ⟨rfl,rfl,m2,hi,by show j+1<b.size;lia,by show m+1≤i+(j+1);lia⟩
 |false=>
  rw[if_neg V9];refine wpS_bind (e6 ex ?_);have e:=C.no (M.ib _ hy) (M.ia _ hx) (fun z=>M.ne _ hx _ hy z.symm) e;have m2:ML lt a.toList b.toList (o.push x).toList (i+1) j:=by
   have:=ml.a M (k:=1) (by simp;lia) (fun x' uD z hz=>by
    rw[Gp gL]at uD;have:x'=x:=by simpa using uD
    rw[this];rw[oU zG]at hz;rcases List.mem_cons.mp hz with rfl|hz
    ·exact e
    ·obtain⟨u,hu⟩:=lP.mp hz;exact C.tr _ (M.ia _ hx) _ (M.ib _ hy) _ (M.ib _ (ZO hu)) e (M.sb.at Mm zG hu))
   rw[Gp gL]at this;rw[Array.toList_push];exact this
  by_cases e2:(i+1+1==a.size)=true
  ·rw[U6 e2];refine wpS_pure ⟨rfl, .inl ⟨_,rfl,?_⟩⟩;rw[BK];exact m2.ls M (by have:=beq_iff_eq.mp e2;simpa using this)
  ·rw[Sn e2];have e2:i+1+1≠a.size:=fun z=>e2 Ο
   split
   ·exact ZU ⟨rfl, .inr ⟨rfl,m2,by show i+1+1<a.size;lia,hj,by show m+1≤i+1+j;lia⟩⟩
   ·exact ZU ⟨rfl,rfl,m2,by show i+1+1<a.size;lia,hj,by show m+1≤i+1+j;lia⟩
theorem Le{st:SortSt}{c:S3}{m:Nat}(hk:kindOf st=κ)(h:BL lt a b c.2.1 c.2.2.1 c.2.2.2.1 m):wpS (model prog w) A E s (SG a b c) (fun r aT=>Eg st aT∧match r with
  | .done c=>∃x,c.1=some x∧MG lt a.toList b.toList x.toList
  | .yield c=>c.1=none∧BL lt a b c.2.1 c.2.2.1 c.2.2.2.1 (m+1)) st:=by
 unfold SG;refine wpS_bind (wpS_mono (wpS_forRange (I:=fun x c aT=>aT=st∧c.1=none∧BL lt a b c.2.1 c.2.2.1 c.2.2.2.1 (m+x)) (Q:=fun c aT=>aT=st∧((∃x,c.1=some x∧MG lt a.toList b.toList x.toList)∨(c.1=none∧BL lt a b c.2.1 c.2.2.1 c.2.2.2.1 (m+1)))) ?_ ?_ ⟨rfl,rfl,h⟩) ?_)
 ·rintro x c aT _ hx ⟨rfl,hc,hI⟩;refine wpS_mono (Ld C M hk hI) fun r aT hr=>?_
  obtain⟨rfl,hr⟩:=hr;cases r with
  |done c=>exact⟨rfl,hr.imp id fun z=>⟨z.1,z.2.1,z.2.2.1,z.2.2.2.1,by have:=z.2.2.2.2;lia⟩⟩
  |yield c=>exact⟨rfl,hr.1,hr.2⟩
 ·rintro c aT ⟨rfl,hc,h1,h2,h3,h4⟩
  lia
 rintro t aT ⟨rfl,ht⟩;rcases ht with⟨x,e,hg⟩|⟨e,hI⟩
 ·rw[e];exact ZU ⟨.refl _,x,rfl,hg⟩
 rw[e];dsimp only;refine wpS_bind (wpS_lift (wpAny_rule ⟨rfl,?_⟩));refine wpS_bind (wpS_mono (wpS_forRange (I:=fun x c dR=>Eg aT dR∧c.1=none∧BL lt a b c.2.1 c.2.2.1 c.2.2.2.1 (m+1+x)) (Q:=fun c dR=>Eg aT dR∧((∃x,c.1=some x∧MG lt a.toList b.toList x.toList)∨(c.1=none∧BL lt a b c.2.1 c.2.2.1 c.2.2.2.1 (m+1)))) ?_ ?_ ⟨.refl _,rfl,hI⟩) ?_)
 ·rintro x c dR _ hx ⟨eg,hc,hI⟩;refine wpS_mono (Lc C M (eg.1.trans hk) hI) fun r DX hr=>?_
  obtain⟨E5,hr⟩:=hr;cases r with
  |done c=>exact⟨eg.trans E5,hr.imp id fun z=>⟨z.1,z.2.1,z.2.2.1,z.2.2.2.1,by have:=z.2.2.2.2;lia⟩⟩
  |yield c=>exact⟨eg.trans E5,hr.1,hr.2.1,hr.2.2.1,hr.2.2.2.1,by have:=hr.2.2.2.2;lia⟩
 ·rintro c dR ⟨eg,hc,h1,h2,h3,h4⟩
  lia
 rintro u dR ⟨eg,hu⟩;rcases hu with⟨x,e,hg⟩|⟨e,hI⟩
 ·rw[e];exact ZU ⟨eg,x,rfl,hg⟩
 rw[e];dsimp only;exact wpS_bind (sG fun DX SM=>ZU ⟨eg.trans SM,rfl,hI⟩)
theorem Lf{st:SortSt}{Q:Array Keyed→SortSt→Prop}(hk:kindOf st=κ)(ha:0<a.size)(hb:0<b.size)(q:∀r aT,Eg st aT→MG lt a.toList b.toList r.toList→Q r aT):wpS (model prog w) A E s (K9 a b) Q st:=by
 rw[HA];refine wpS_bind (wpS_lift (wpAny_rule ⟨rfl,?_⟩));have ey:b[0]?=some b[0]:=Wv;have zG:b.toList[0]?=some b[0]:=by rw[Array.getElem?_toList];exact ey
 refine wpS_bind (e6 ey ?_);have m0:ML lt a.toList b.toList [] 0 0:=⟨Wv,Wv, .nil,fun x hx=>(by cases hx),Wv⟩
 have m1:ML lt a.toList b.toList (#[b[0]]:Array Keyed).toList 0 1:=by
  have:=m0.b M (k:=1) (by simp;lia) (fun y hy x hx=>by
   rw[Gp zG]at hy;have:y=b[0]:=by simpa using hy
   rw[this];exact M.fst x (List.mem_of_mem_drop hx) _ zG)
  rw[Gp zG]at this;exact this
 by_cases e:(1==b.size)=true
 ·rw[U6 e];refine wpS_pure (q _ _ (.refl _) ?_);rw[yQ];exact m1.dn M (.inr (by have:=beq_iff_eq.mp e;simpa using this))
 rw[Sn e];have e:1≠b.size:=fun z=>e Ο
 by_cases e2:(0+1==a.size)=true
 ·rw[U6 e2];refine wpS_pure (q _ _ (.refl _) ?_);rw[BK];exact m1.ls M (by have:=beq_iff_eq.mp e2;simpa using this)
 rw[Sn e2];have e2:0+1≠a.size:=fun z=>e2 Ο
 refine wpS_bind (wpS_get ?_);refine wpS_bind (wpS_mono (wpS_forRange (I:=fun x c dR=>Eg st dR∧c.1=none∧BL lt a b c.2.1 c.2.2.1 c.2.2.2.1 x) (Q:=fun c dR=>Eg st dR∧∃x,c.1=some x∧MG lt a.toList b.toList x.toList) ?_ ?_ ⟨.refl _,rfl,m1,by show 0+1<a.size;lia,by show 1<b.size;lia,by show 0≤0+1;lia⟩) ?_)
 ·rintro x c dR _ hx ⟨eg,hc,hI⟩;refine wpS_mono (Le C M (eg.1.trans hk) hI) fun r DX hr=>?_
  obtain⟨E5,hr⟩:=hr;cases r with
  |done c=>exact⟨eg.trans E5,hr⟩
  |yield c=>exact⟨eg.trans E5,hr⟩
 ·rintro c dR ⟨eg,hc,h1,h2,h3,h4⟩
  lia
 ·rintro c dR ⟨eg,x,e,hg⟩;rw[e];exact ZU (q x dR eg hg)
end
theorem xa{α:Type}{l:List α}{i:Nat}{x:α}:x∈l.take i↔∃t:Nat,t<i∧l[t]?=some x:=by
 have:=tI (l:=l) (i:=0) (k:=i) (x:=x);simpa using this
theorem yR{α:Type}{l:List α}{i t:Nat}{x:α}:x∈(l.take i).drop t↔∃u:Nat,t≤u∧u<i∧l[u]?=some x:=by
 rw[lP];constructor
 ·rintro⟨u,hu⟩;rw[List.getElem?_take]at hu;split at hu
  ·exact⟨t+u,by lia,by assumption,hu⟩
  ·cases hu
 ·rintro⟨u,h1,h2,h3⟩;exact⟨u-t,by rw[List.getElem?_take,U6 Mm,show t+(u-t)=u by lia];exact h3⟩
theorem yS{α:Type}(l:List α){i t:Nat}(h:t≤i):l.take i=l.take t++(l.take i).drop t:=by
 conv=>lhs;rw[←List.take_append_drop t (l.take i)]
 rw[List.take_take,Nat.min_eq_left h]
section
variable{X:List Keyed}{lt:Keyed→Keyed→Bool}{P Q:List Keyed}
structure MH(lt:Keyed→Keyed→Bool)(P Q O:List Keyed)(i j:Nat):Prop where
 hi:i≤P.length
 hj:j≤Q.length
 qz:Pw lt O
 zF:∀y∈O,∀x,x∈P.take i∨x∈Q.take j→lt x y=true
 HC:((P.take i++Q.take j)++O).Perm (P++Q)
theorem MH.a{O:List Keyed}{i j t:Nat}(M:MC X lt P Q)(m:MH lt P Q O i j)(ht:t≤i)(h:∀x∈(P.take i).drop t,∀y∈Q.take j,lt y x=true):MH lt P Q ((P.take i).drop t++O) t j:=by
 have sp:=yS P ht;have sd:Pw lt (P.take i):=M.sa.sublist (List.take_sublist _ _);rw[sp]at sd;obtain⟨s1,s2,s3⟩:=List.pairwise_append.mp sd;refine⟨by have:=m.hi;lia,m.hj,List.pairwise_append.mpr ⟨s2,m.qz,fun x hx y hy=>m.zF y hy x (.inl (List.mem_of_mem_drop hx))⟩,fun y hy x hx=>?_,?_⟩
 ·rcases List.mem_append.mp hy with hy|hy
  ·rcases hx with hx|hx
   ·exact s3 x hx y hy
   ·exact h y hy x hx
  ·exact m.zF y hy x (hx.imp (fun z=>by rw[sp];exact Ω z) id)
 ·have:=m.HC;rw[sp]at this;refine List.Perm.trans ?_ this;rw[←List.append_assoc];refine List.Perm.append_right O ?_;rw[List.append_assoc,List.append_assoc];exact List.Perm.append_left _ List.perm_append_comm
theorem MH.b{O:List Keyed}{i j t:Nat}(M:MC X lt P Q)(m:MH lt P Q O i j)(ht:t≤j)(h:∀y∈(Q.take j).drop t,∀x∈P.take i,lt x y=true):MH lt P Q ((Q.take j).drop t++O) i t:=by
 have sp:=yS Q ht;have sd:Pw lt (Q.take j):=M.sb.sublist (List.take_sublist _ _);rw[sp]at sd;obtain⟨s1,s2,s3⟩:=List.pairwise_append.mp sd;refine⟨m.hi,by have:=m.hj;lia,List.pairwise_append.mpr ⟨s2,m.qz,fun x hx y hy=>m.zF y hy x (.inr (List.mem_of_mem_drop hx))⟩,fun y hy x hx=>?_,?_⟩
 ·rcases List.mem_append.mp hy with hy|hy
  ·rcases hx with hx|hx
   ·exact h y hy x hx
   ·exact s3 x hx y hy
  ·exact m.zF y hy x (hx.imp id (fun z=>by rw[sp];exact Ω z))
 ·have:=m.HC;rw[sp]at this;rw[←List.append_assoc,List.append_assoc (P.take i)];exact this
theorem MH.dn{O:List Keyed}{i j:Nat}(M:MC X lt P Q)(m:MH lt P Q O i j)(h:i=0∨j=0):MG lt P Q (P.take i++Q.take j++O):=by
 refine⟨m.HC,?_⟩;have sa:Pw lt (P.take i):=M.sa.sublist (List.take_sublist _ _);have sb:Pw lt (Q.take j):=M.sb.sublist (List.take_sublist _ _);refine List.pairwise_append.mpr ⟨List.pairwise_append.mpr ⟨sa,sb,fun x hx y hy=>?_⟩,m.qz,fun x hx y hy=>m.zF y hy x (List.mem_append.mp hx)⟩;rcases h with h|h
 ·rw[h,List.take_zero]at hx;cases hx
 ·rw[h,List.take_zero]at hy;cases hy
theorem MH.fb{O:List Keyed}{i j:Nat}(M:MC X lt P Q)(m:MH lt P Q O i j)(h:j=1):MG lt P Q (Q.take j++P.take i++O):=by
 have sa:Pw lt (P.take i):=M.sa.sublist (List.take_sublist _ _);have sb:Pw lt (Q.take j):=M.sb.sublist (List.take_sublist _ _);refine⟨(List.Perm.append_right O List.perm_append_comm).trans m.HC,List.pairwise_append.mpr ⟨List.pairwise_append.mpr ⟨sb,sa,fun y hy x hx=>?_⟩,m.qz,fun x hx y hy=>m.zF y hy x (List.mem_append.mp hx).symm⟩⟩;obtain⟨t,h1,h2⟩:=xa.mp hy;have:t=0:=by lia
 subst this;exact M.fst x (List.mem_of_mem_take hx) y h2
end
section
variable{prog:Program}{w:World}{A:Around}{E:Value→Shared→Prop}{s:Shared}{X:List Keyed}{κ:SortKind}{lt:Keyed→Keyed→Bool}(C:EZ prog w A s X κ lt){a b:Array Keyed}(M:MC X lt a.toList b.toList)
theorem yT(o:Array Keyed)(i j:Nat):(Gk a b o i j).toList=a.toList.take i++b.toList.take j++o.toList.reverse:=by
 unfold Gk;simp[Array.toList_extract,List.extract_eq_take_drop]
theorem BM(o:Array Keyed)(i j:Nat):(MB a b o i j).toList=b.toList.take j++a.toList.take i++o.toList.reverse:=by
 unfold MB;simp[Array.toList_extract,List.extract_eq_take_drop]
theorem Jo(o:Array Keyed)(c:Array Keyed)(t i:Nat):(o++(c.extract t i).reverse).toList.reverse=(c.toList.take i).drop t++o.toList.reverse:=by
 simp[Array.toList_extract,List.extract_eq_take_drop,List.drop_take]
theorem BN(o:Array Keyed)(x:Keyed):(o.push x).toList.reverse=[x]++o.toList.reverse:=Wv
theorem Gq{l:List Keyed}{i:Nat}{x:Keyed}(h0:0<i)(h:l[i-1]?=some x):(l.take i).drop (i-1)=[x]:=by
 have:l.take i=l.take (i-1)++[x]:=by
  conv=>lhs;rw[show i=i-1+1 by lia]
  rw[List.take_succ,h];rfl
 rw[this];have hl:=(Z' h).1;rw[List.drop_left' (by simp;lia)]
theorem sI{l:List Keyed}(C:EZ prog w A s X κ lt)(hs:Pw lt l)(lI:∀x∈l,x∈X){i:Nat}{x z:Keyed}(h:l[i-1]?=some x)(hz:z∈l.take i){y:Keyed}(hy:y∈X)(Au:lt x y=true):lt z y=true:=by
 obtain⟨t,h1,h2⟩:=xa.mp hz;by_cases e:t=i-1
 ·subst e;rw[h]at h2;cases h2;exact Au
 ·exact C.tr _ (lI _ (ZO h2)) _ (lI _ (ZO h)) _ hy (hs.at Mm h2 h) Au
def BO(lt:Keyed→Keyed→Bool)(a b:Array Keyed)(o:Array Keyed)(i j m:Nat):Prop:=MH lt a.toList b.toList o.toList.reverse i j∧0<i∧1<j∧m+i+j≤a.size+b.size
def Lg(lt:Keyed→Keyed→Bool)(a b:Array Keyed)(m:Nat)(st:SortSt)(r:ForInStep T2)(aT:SortSt):Prop:=Eg st aT∧match r with
 | .done c=>(∃x,c.1=some x∧MG lt a.toList b.toList x.toList)∨(c.1=none∧BO lt a b c.2.2.2.1 c.2.1 c.2.2.1 m)
 | .yield c=>c.1=none∧BO lt a b c.2.2.2.1 c.2.1 c.2.2.1 m
include C M
theorem E6{st:SortSt}{o:Array Keyed}{i j mg k l m:Nat}(ml:MH lt a.toList b.toList o.toList.reverse i j)(hi:0<i)(hj:1<j)(hm:m+i+j≤a.size+b.size+1)(h:∀x,a.toList[i-1]?=some x→∀y∈b.toList.take j,lt y x=true):wpS (model prog w) A E s (Qt a b o i j mg k l) (Lg lt a b m st) st:=by
 unfold Qt;have SN:i≤a.size:=by have:=ml.hi;simpa using this
 have ex:a[i-1]?=some a[i-1]:=Wv;have gL:a.toList[i-1]?=some a[i-1]:=by rw[Array.getElem?_toList];exact ex
 refine wpS_bind (e6 ex ?_);have m2:MH lt a.toList b.toList (o.push a[i-1]).toList.reverse (i-1) j:=by
  have:=ml.a M (t:=i-1) (by lia) (fun x hx y hy=>by
   rw[Gq hi gL]at hx;have:x=a[i-1]:=by simpa using hx
   rw[this];exact h _ gL y hy)
  rw[Gq hi gL]at this;rw[BN];exact this
 by_cases e:(i-1==0)=true
 ·rw[U6 e];refine wpS_pure ⟨.refl _, .inl ⟨_,rfl,?_⟩⟩;rw[yT];exact m2.dn M (.inl (beq_iff_eq.mp e))
 ·rw[Sn e];have e:i-1≠0:=fun z=>e Ο
  split
  ·exact ZU ⟨.refl _, .inr ⟨rfl,m2,by show 0<i-1;lia,hj,by show m+(i-1)+j≤_;lia⟩⟩
  ·exact ZU ⟨.refl _,rfl,m2,by show 0<i-1;lia,hj,by show m+(i-1)+j≤_;lia⟩
theorem Lh{st:SortSt}{o:Array Keyed}{i j mg k bc m:Nat}(hk:kindOf st=κ)(ml:MH lt a.toList b.toList o.toList.reverse i j)(hi:0<i)(hj:1<j)(hm:m+i+j≤a.size+b.size+1):wpS (model prog w) A E s (SI a b o i j mg k bc) (Lg lt a b m st) st:=by
 unfold SI;have SN:i≤a.size:=by have:=ml.hi;simpa using this
 have SO:j≤b.size:=by have:=ml.hj;simpa using this
 have ex:a[i-1]?=some a[i-1]:=Wv;have gL:a.toList[i-1]?=some a[i-1]:=by rw[Array.getElem?_toList];exact ex
 have hx:a[i-1]∈a.toList:=ZO gL;refine wpS_bind (e6 ex ?_);generalize a[i-1]=x at ex gL hx;have gb:∀t,t<j→b[0+t]?=some (b.getD t (.none, .none)):=fun t ht=>by simp[show t<b.size by lia]
 have rS:∀t,t<j→b.toList[t]?=some (b.getD t (.none, .none)):=fun t ht=>by rw[Array.getElem?_toList];simpa using gb t ht
 refine wpS_bind (qy C (fun t=>b.getD t (.none, .none)) hk (M.ia _ hx) (fun t ht=>⟨gb t ht,M.ib _ (ZO (rS t ht))⟩) (fun t u h1 h2=>M.sb.at h1 (rS t (by lia)) (rS u h2)) (by lia) fun t hl h1 h2=>?_);dsimp only;have zF:∀y∈(b.toList.take j).drop t,∀z∈a.toList.take i,lt z y=true:=fun y hy z hz=>by
  obtain⟨u,h3,h4,h5⟩:=yR.mp hy;have hb:=h2 u h3 h4;rw[rS u h4]at h5;have h5:=ZV h5;simp only[lp,if_true]at hb;rw[h5]at hb;have SQ:=List.mem_of_mem_take (List.mem_of_mem_drop hy);have hb:=C.no (M.ib _ SQ) (M.ia _ hx) (fun z=>M.ne _ hx _ SQ z.symm) hb;exact sI C M.sa M.ia gL hz (M.ib _ SQ) hb
 have low:∀y∈b.toList.take t,lt y x=true:=fun y hy=>by
  obtain⟨u,h3,h4⟩:=xa.mp hy;have hb:=h1 u h3;rw[rS u Mm]at h4;have h4:=ZV h4;simp only[lp,if_true]at hb;rw[h4]at hb;exact hb
 have m2:MH lt a.toList b.toList (o++(b.extract t j).reverse).toList.reverse i t:=by
  rw[Jo];exact ml.b M hl zF
 by_cases Lb:j-t>0
 ·rw[U6 Lb];by_cases e:(t==1)=true
  ·rw[U6 e];refine wpS_pure ⟨.refl _, .inl ⟨_,rfl,?_⟩⟩;rw[BM];exact m2.fb M (beq_iff_eq.mp e)
  ·rw[Sn e];have e:t≠1:=fun z=>e Ο
   by_cases e2:(t==0)=true
   ·rw[U6 e2];refine wpS_pure ⟨.refl _, .inl ⟨_,rfl,?_⟩⟩;rw[yT];exact m2.dn M (.inr (beq_iff_eq.mp e2))
   ·rw[Sn e2];have e2:t≠0:=fun z=>e2 Ο
    exact E6 C M m2 hi Mm (by lia) fun y hy=>by rw[gL]at hy;cases hy;exact low
 ·rw[Sn Lb];have:t=j:=by lia
  subst this;exact E6 C M ml hi hj hm fun y hy=>by rw[gL]at hy;cases hy;exact low
theorem E7{st:SortSt}{o:Array Keyed}{i j mg k bc m:Nat}(hk:kindOf st=κ)(ml:MH lt a.toList b.toList o.toList.reverse i j)(hi:0<i)(hj:1<j)(hm:m+i+j≤a.size+b.size+2)(h:∀y,b.toList[j-1]?=some y→∀x∈a.toList.take i,lt x y=true):wpS (model prog w) A E s (Qu a b o i j mg k bc) (Lg lt a b m st) st:=by
 unfold Qu;have SO:j≤b.size:=by have:=ml.hj;simpa using this
 have ex:b[j-1]?=some b[j-1]:=Wv;have gL:b.toList[j-1]?=some b[j-1]:=by rw[Array.getElem?_toList];exact ex
 refine wpS_bind (e6 ex ?_);have m2:MH lt a.toList b.toList (o.push b[j-1]).toList.reverse i (j-1):=by
  have:=ml.b M (t:=j-1) (by lia) (fun x hx y hy=>by
   rw[Gq Mm gL]at hx;have:x=b[j-1]:=by simpa using hx
   rw[this];exact h _ gL y hy)
  rw[Gq Mm gL]at this;rw[BN];exact this
 by_cases e:(j-1==1)=true
 ·rw[U6 e];refine wpS_pure ⟨.refl _, .inl ⟨_,rfl,?_⟩⟩;rw[BM];exact m2.fb M (beq_iff_eq.mp e)
 ·rw[Sn e];have e:j-1≠1:=fun z=>e Ο
  exact Lh C M hk m2 hi Mm (by lia)
theorem E8{st:SortSt}{o:Array Keyed}{i j mg ac bc m:Nat}(hk:kindOf st=κ)(h:BO lt a b o i j m):wpS (model prog w) A E s (Gm a b o i j mg ac bc) (Lg lt a b (m+2) st) st:=by
 obtain⟨ml,hi,hj,hm⟩:=h;have SN:i≤a.size:=by have:=ml.hi;simpa using this
 have SO:j≤b.size:=by have:=ml.hj;simpa using this
 unfold Gm;refine wpS_bind (sG fun As eg=>?_);have Jn:kindOf As=κ:=eg.1.trans hk;have fin:∀{m:Nat}{p:StateT SortSt Sem (ForInStep T2)},wpS (model prog w) A E s p (Lg lt a b m As) As→wpS (model prog w) A E s p (Lg lt a b m st) As:=fun h=>wpS_mono h fun r aT z=>⟨eg.trans z.1,z.2⟩
 refine fin ?_;have ex:b[j-1]?=some b[j-1]:=Wv;have gL:b.toList[j-1]?=some b[j-1]:=by rw[Array.getElem?_toList];exact ex
 have hx:b[j-1]∈b.toList:=ZO gL;refine wpS_bind (e6 ex ?_);generalize b[j-1]=y at ex gL hx;have gb:∀t,t<i→a[0+t]?=some (a.getD t (.none, .none)):=fun t ht=>by simp[show t<a.size by lia]
 have rS:∀t,t<i→a.toList[t]?=some (a.getD t (.none, .none)):=fun t ht=>by rw[Array.getElem?_toList];simpa using gb t ht
 refine wpS_bind (qy C (fun t=>a.getD t (.none, .none)) Jn (M.ib _ hx) (fun t ht=>⟨gb t ht,M.ia _ (ZO (rS t ht))⟩) (fun t u h1 h2=>M.sa.at h1 (rS t (by lia)) (rS u h2)) (by lia) fun t hl h1 h2=>?_);dsimp only;have zF:∀x∈(a.toList.take i).drop t,∀z∈b.toList.take j,lt z x=true:=fun x uD z hz=>by
  obtain⟨u,h3,h4,h5⟩:=yR.mp uD;have hb:=h2 u h3 h4;rw[rS u h4]at h5;have h5:=ZV h5;simp only[lp,Bool.false_eq_true,if_false,Bool.not_eq_false']at hb;rw[h5]at hb;exact sI C M.sb M.ib gL hz (M.ia _ (List.mem_of_mem_take (List.mem_of_mem_drop uD))) hb
 have low:∀x∈a.toList.take t,lt x y=true:=fun x uD=>by
  obtain⟨u,h3,h4⟩:=xa.mp uD;have hb:=h1 u h3;rw[rS u Mm]at h4;have h4:=ZV h4;have yE:=List.mem_of_mem_take uD;simp only[lp,Bool.false_eq_true,if_false,Bool.not_eq_true']at hb;rw[h4]at hb;exact C.no (M.ib _ hx) (M.ia _ yE) (fun z=>M.ne _ yE _ hx z.symm) hb
 have m2:MH lt a.toList b.toList (o++(a.extract t i).reverse).toList.reverse t j:=by
  rw[Jo];exact ml.a M hl zF
 by_cases w_:i-t>0
 ·rw[U6 w_];by_cases e:(t==0)=true
  ·rw[U6 e];refine wpS_pure ⟨.refl _, .inl ⟨_,rfl,?_⟩⟩;rw[yT];exact m2.dn M (.inl (beq_iff_eq.mp e))
  ·rw[Sn e];have e:t≠0:=fun z=>e Ο
   exact E7 C M Jn m2 Mm hj Mm fun z hz=>by rw[gL]at hz;cases hz;exact low
 ·rw[Sn w_];have:t=i:=by lia
  subst this;exact E7 C M Jn ml hi hj Mm fun z hz=>by rw[gL]at hz;cases hz;exact low
theorem Li{st:SortSt}{c:T2}{m:Nat}(hk:kindOf st=κ)(h:BO lt a b c.2.2.2.1 c.2.1 c.2.2.1 m):wpS (model prog w) A E s (SJ a b c) (Lg lt a b (m+2) st) st:=by
 unfold SJ;split
 ·exact E8 C M hk h
 ·exact E8 C M hk h
theorem Lj{st:SortSt}{c:T1}{mg m:Nat}(hk:kindOf st=κ)(h:BO lt a b c.2.2.2.1 c.2.1 c.2.2.1 m):wpS (model prog w) A E s (SH a b mg c) (fun r aT=>aT=st∧match r with
  | .done c=>(∃x,c.1=some x∧MG lt a.toList b.toList x.toList)∨(c.1=none∧BO lt a b c.2.2.2.1 c.2.1 c.2.2.1 (m+1))
  | .yield c=>c.1=none∧BO lt a b c.2.2.2.1 c.2.1 c.2.2.1 (m+1)) st:=by
 obtain⟨r,i,j,o,ac,bc⟩:=c;obtain⟨ml,hi,hj,hm⟩:=h;dsimp only at ml hi hj hm;have SN:i≤a.size:=by have:=ml.hi;simpa using this
 have SO:j≤b.size:=by have:=ml.hj;simpa using this
 unfold SH;dsimp only;have ex:a[i-1]?=some a[i-1]:=Wv;have gL:a.toList[i-1]?=some a[i-1]:=by rw[Array.getElem?_toList];exact ex
 have ey:b[j-1]?=some b[j-1]:=Wv;have zG:b.toList[j-1]?=some b[j-1]:=by rw[Array.getElem?_toList];exact ey
 have hx:a[i-1]∈a.toList:=ZO gL;have hy:b[j-1]∈b.toList:=ZO zG;refine wpS_bind (e6 ey (wpS_bind (e6 ex ?_)));generalize a[i-1]=x at ex gL hx;generalize b[j-1]=y at ey zG hy;refine wpS_bind (C.ask hk (M.ib _ hy) (M.ia _ hx) ?_);dsimp only;cases e:lt y x with
 |true=>
  rw[if_pos rfl];refine wpS_bind (e6 ex ?_);have m2:MH lt a.toList b.toList (o.push x).toList.reverse (i-1) j:=by
   have:=ml.a M (t:=i-1) (by lia) (fun x' uD z hz=>by
    rw[Gq hi gL]at uD;have:x'=x:=by simpa using uD
    rw[this];exact sI C M.sb M.ib zG hz (M.ia _ hx) e)
   rw[Gq hi gL]at this;rw[BN];exact this
  by_cases e2:(i-1==0)=true
  ·rw[U6 e2];refine wpS_pure ⟨rfl, .inl ⟨_,rfl,?_⟩⟩;rw[yT];exact m2.dn M (.inl (beq_iff_eq.mp e2))
  ·rw[Sn e2];have e2:i-1≠0:=fun z=>e2 Ο
   split
   ·exact ZU ⟨rfl, .inr ⟨rfl,m2,by show 0<i-1;lia,hj,by show m+1+(i-1)+j≤_;lia⟩⟩
   ·exact ZU ⟨rfl,rfl,m2,by show 0<i-1;lia,hj,by show m+1+(i-1)+j≤_;lia⟩
 |false=>
  rw[if_neg V9];refine wpS_bind (e6 ey ?_);have e:=C.no (M.ib _ hy) (M.ia _ hx) (fun z=>M.ne _ hx _ hy z.symm) e;have m2:MH lt a.toList b.toList (o.push y).toList.reverse i (j-1):=by
   have:=ml.b M (t:=j-1) (by lia) (fun y' Ox z hz=>by
    rw[Gq Mm zG]at Ox;have:y'=y:=by simpa using Ox
    rw[this];exact sI C M.sa M.ia gL hz (M.ib _ hy) e)
   rw[Gq Mm zG]at this;rw[BN];exact this
  by_cases e2:(j-1==1)=true
  ·rw[U6 e2];refine wpS_pure ⟨rfl, .inl ⟨_,rfl,?_⟩⟩;rw[BM];exact m2.fb M (beq_iff_eq.mp e2)
  ·rw[Sn e2];have e2:j-1≠1:=fun z=>e2 Ο
   split
   ·exact ZU ⟨rfl, .inr ⟨rfl,m2,hi,by show 1<j-1;lia,by show m+1+i+(j-1)≤_;lia⟩⟩
   ·exact ZU ⟨rfl,rfl,m2,hi,by show 1<j-1;lia,by show m+1+i+(j-1)≤_;lia⟩
theorem Lk{st:SortSt}{c:T3}{m:Nat}(hk:kindOf st=κ)(h:BO lt a b c.2.2.2.1 c.2.1 c.2.2.1 m):wpS (model prog w) A E s (SK a b c) (fun r aT=>Eg st aT∧match r with
  | .done c=>∃x,c.1=some x∧MG lt a.toList b.toList x.toList
  | .yield c=>c.1=none∧BO lt a b c.2.2.2.1 c.2.1 c.2.2.1 (m+1)) st:=by
 unfold SK;refine wpS_bind (wpS_mono (wpS_forRange (I:=fun x c aT=>aT=st∧c.1=none∧BO lt a b c.2.2.2.1 c.2.1 c.2.2.1 (m+x)) (Q:=fun c aT=>aT=st∧((∃x,c.1=some x∧MG lt a.toList b.toList x.toList)∨(c.1=none∧BO lt a b c.2.2.2.1 c.2.1 c.2.2.1 (m+1)))) ?_ ?_ ⟨rfl,rfl,h⟩) ?_)
 ·rintro x c aT _ hx ⟨rfl,hc,hI⟩;refine wpS_mono (Lj C M hk hI) fun r aT hr=>?_
  obtain⟨rfl,hr⟩:=hr;cases r with
  |done c=>exact⟨rfl,hr.imp id fun z=>⟨z.1,z.2.1,z.2.2.1,z.2.2.2.1,by have:=z.2.2.2.2;lia⟩⟩
  |yield c=>exact⟨rfl,hr.1,hr.2⟩
 ·rintro c aT ⟨rfl,hc,h1,h2,h3,h4⟩
  lia
 rintro t aT ⟨rfl,ht⟩;rcases ht with⟨x,e,hg⟩|⟨e,hI⟩
 ·rw[e];exact ZU ⟨.refl _,x,rfl,hg⟩
 rw[e];dsimp only;refine wpS_bind (wpS_lift (wpAny_rule ⟨rfl,?_⟩));refine wpS_bind (wpS_mono (wpS_forRange (I:=fun x c dR=>Eg aT dR∧c.1=none∧BO lt a b c.2.2.2.1 c.2.1 c.2.2.1 (m+1+x)) (Q:=fun c dR=>Eg aT dR∧((∃x,c.1=some x∧MG lt a.toList b.toList x.toList)∨(c.1=none∧BO lt a b c.2.2.2.1 c.2.1 c.2.2.1 (m+1)))) ?_ ?_ ⟨.refl _,rfl,hI⟩) ?_)
 ·rintro x c dR _ hx ⟨eg,hc,hI⟩;refine wpS_mono (Li C M (eg.1.trans hk) hI) fun r DX hr=>?_
  obtain⟨E5,hr⟩:=hr;cases r with
  |done c=>exact⟨eg.trans E5,hr.imp id fun z=>⟨z.1,z.2.1,z.2.2.1,z.2.2.2.1,by have:=z.2.2.2.2;lia⟩⟩
  |yield c=>exact⟨eg.trans E5,hr.1,hr.2.1,hr.2.2.1,hr.2.2.2.1,by have:=hr.2.2.2.2;lia⟩
 ·rintro c dR ⟨eg,hc,h1,h2,h3,h4⟩
  lia
 rintro u dR ⟨eg,hu⟩;rcases hu with⟨x,e,hg⟩|⟨e,hI⟩
 ·rw[e];exact ZU ⟨eg,x,rfl,hg⟩
 rw[e];dsimp only;exact wpS_bind (sG fun DX SM=>ZU ⟨eg.trans SM,rfl,hI⟩)
theorem Ll{st:SortSt}{Q:Array Keyed→SortSt→Prop}(hk:kindOf st=κ)(ha:0<a.size)(hb:0<b.size)(q:∀r aT,Eg st aT→MG lt a.toList b.toList r.toList→Q r aT):wpS (model prog w) A E s (K_ a b) Q st:=by
 rw[HB];refine wpS_bind (wpS_lift (wpAny_rule ⟨rfl,?_⟩));have ex:a[a.size-1]?=some a[a.size-1]:=Wv;have gL:a.toList[a.size-1]?=some a[a.size-1]:=by rw[Array.getElem?_toList];exact ex
 refine wpS_bind (e6 ex ?_);have m0:MH lt a.toList b.toList [] a.size b.size:=⟨Wv,Wv, .nil,fun x hx=>(by cases hx),by rw[List.take_of_length_le V9,List.take_of_length_le V9];simp⟩
 have m1:MH lt a.toList b.toList (#[a[a.size-1]]:Array Keyed).toList.reverse (a.size-1) b.size:=by
  have:=m0.a M (t:=a.size-1) (by lia) (fun x hx y hy=>by
   rw[Gq ha gL]at hx;have:x=a[a.size-1]:=by simpa using hx
   rw[this];exact M.lst y (List.mem_of_mem_take hy) _ (by simpa using gL))
  rw[Gq ha gL]at this;simpa using this
 by_cases e:(a.size-1==0)=true
 ·rw[U6 e];refine wpS_pure (q _ _ (.refl _) ?_);rw[yT];exact m1.dn M (.inl (beq_iff_eq.mp e))
 rw[Sn e];have e:a.size-1≠0:=fun z=>e Ο
 by_cases e2:(b.size==1)=true
 ·rw[U6 e2];refine wpS_pure (q _ _ (.refl _) ?_);rw[BM];exact m1.fb M (beq_iff_eq.mp e2)
 rw[Sn e2];have e2:b.size≠1:=fun z=>e2 Ο
 refine wpS_bind (wpS_get ?_);refine wpS_bind (wpS_mono (wpS_forRange (I:=fun x c dR=>Eg st dR∧c.1=none∧BO lt a b c.2.2.2.1 c.2.1 c.2.2.1 x) (Q:=fun c dR=>Eg st dR∧∃x,c.1=some x∧MG lt a.toList b.toList x.toList) ?_ ?_ ⟨.refl _,rfl,m1,by show 0<a.size-1;lia,by show 1<b.size;lia,by show 0+(a.size-1)+b.size≤_;lia⟩) ?_)
 ·rintro x c dR _ hx ⟨eg,hc,hI⟩;refine wpS_mono (Lk C M (eg.1.trans hk) hI) fun r DX hr=>?_
  obtain⟨E5,hr⟩:=hr;cases r with
  |done c=>exact⟨eg.trans E5,hr⟩
  |yield c=>exact⟨eg.trans E5,hr⟩
 ·rintro c dR ⟨eg,hc,h1,h2,h3,h4⟩
  lia
 ·rintro c dR ⟨eg,x,e,hg⟩;rw[e];exact ZU (q x dR eg hg)
end
def Qv(lo i n:Nat):StateT SortSt Sem AscSt:=forIn [i:n] ((none,i):AscSt) fun _ c=>do
 let z←ltAt' (lo+c.2) (lo+c.2-1)
 match z with
 |some v=>if v=true then pure (.done (none,c.2))else pure (.yield (none,c.2+1))
 | _=>pure (.done (some none,c.2))
def Qw(lo i n:Nat):StateT SortSt Sem (Option Nat):=do
 reverseSlice' lo (lo+i)
 let t←Qv lo i n
 match t.1 with
 |some r=>pure r
 |none=>pure (some t.2)
def SR(lo i n:Nat):StateT SortSt Sem DescSt:=forIn [i:n] ((none,i,0):DescSt) fun _ c=>do
 let z←ltAt' (lo+c.2.1) (lo+c.2.1-1)
 match z with
 |some v=>
  if v=true then
   if c.2.2>0 then do
    reverseSlice' (lo+c.2.1-(c.2.2+1)) (lo+c.2.1)
    pure (.yield (none,c.2.1+1,0))
   else pure (.yield (none,c.2.1+1,0))
  else do
   let z←ltAt' (lo+c.2.1-1) (lo+c.2.1)
   match z with
   |some v=>if v=true then pure (.done (none,c.2.1,c.2.2))else pure (.yield (none,c.2.1+1,c.2.2+1))
   | _=>pure (.done (some none,c.2.1,c.2.2))
 | _=>pure (.done (some none,c.2.1,c.2.2))
def SS(lo i n:Nat):StateT SortSt Sem (Option Nat):=do
 liftM (rule "list.sort.descending-run")
 let t←SR lo (i+1) n
 match t.1 with
 |some r=>pure r
 |none=>
  if t.2.2>0 then do
   reverseSlice' (lo+t.2.1-(t.2.2+1)) (lo+t.2.1)
   Qw lo t.2.1 n
  else Qw lo t.2.1 n
theorem Lm(lo n:Nat):countRun' lo n=(do
 let t←Qv lo 1 n
 match t.1 with
 |some r=>pure r
 |none=>
  if (t.2==n)=true then pure (some t.2)
  else if t.2>1 then do
   let z←ltAt' lo (lo+t.2-1)
   match z with
   |some v=>if v=true then pure (some t.2)else do
     reverseSlice' lo (lo+t.2)
     SS lo t.2 n
   | _=>pure none
  else SS lo t.2 n):=by kernel_rfl
def Ve(lo k:Nat):StateT SortSt Sem (Option Bool×Nat×Nat):=forIn [0:k] ((none,0,k):Option Bool×Nat×Nat) fun _ c=>
 if c.2.1≥c.2.2 then pure (.done (none,c.2.1,c.2.2))
 else do
  let z←ltAt' (lo+k) (lo+(c.2.1+c.2.2)/2)
  match z with
  |some v=>if v=true then pure (.yield (none,c.2.1,(c.2.1+c.2.2)/2))else pure (.yield (none,(c.2.1+c.2.2)/2+1,c.2.2))
  | _=>pure (.done (some false,c.2.1,c.2.2))
theorem Ln(lo n ok:Nat):binarySort' lo n ok=(do
 let t←forIn [max ok 1:n] ((none,()):Option Bool×Unit) fun k _=>do
  let t←Ve lo k
  match t.1 with
  |some r=>pure (.done (some r,()))
  |none=>do
   moveDown' (lo+k) (lo+t.2.1)
   pure (.yield (none,()))
 match t.1 with
 |some r=>pure r
 |none=>pure true):=by kernel_rfl
def DD(j:Nat)(m:Array Keyed)(st:SortSt):SortSt:=setArr st (m.toList.zipIdx.foldl (fun c q=>c.setIfInBounds (j+q.2) q.1) (WJ st))
theorem Lo(i:Nat):mergeAt' i=(do
 let g←get
 let (some (p,m,v),some (q,n,_)):=((ZJ g)[i]?,(ZJ g)[i+1]?)|unsupported "internal:list.sort.pending"
 set (setPending g (((ZJ g).setIfInBounds i (p,m+n,v)).eraseIdxIfInBounds (i+1)))
 let some k←yP false (←elem' (WJ g) q) (WJ g) p m 0|return false
 if m-k==0 then return true
 let some n←yP true (←elem' (WJ g) (p+k+(m-k)-1)) (WJ g) q n (n-1)|return false
 if n==0 then return true
 let r←if m-k≤n then K9 ((WJ g).extract (p+k) q) ((WJ g).extract q (q+n))else K_ ((WJ g).extract (p+k) q) ((WJ g).extract q (q+n))
 modify fun st=>DD (p+k) r st
 return (failedOf (←get)).isNone):=by kernel_rfl
def SU(n w:Nat):StateT SortSt Sem (Option Unit×Unit):=forIn [0:n] ((none,()):Option Unit×Unit) fun _ _=>do
 let g←get
 match (if (ZJ g).size>1 then(ZJ g)[(ZJ g).size-2]? else none)with
 |some (_,_,v)=>
  if v≤w then pure (.done (none,()))
  else do
   let z←mergeAt' ((ZJ g).size-2)
   if (!z)=true then pure (.done (some (),()))else pure (.yield (none,()))
 | _=>pure (.done (none,()))
def Vf(w:Nat)(st:SortSt):SortSt:=setPending st ((ZJ st).modify ((ZJ st).size-1) fun(p,l,_)=>(p,l,w))
def Qx(lo n:Nat)(st:SortSt):SortSt:=setPending st ((ZJ st).push (lo,n,0))
def Qy(N lo n:Nat):StateT SortSt Sem (ForInStep (Option Unit×Nat)):=do
 let g←get
 match (ZJ g).back? with
 |some (p,l,_)=>do
  let t←SU N (power' N (2*p+l) (2*p+l+l+n) N)
  match t.1 with
  |some r=>pure (.done (some r,lo))
  |none=>do
   modify (Vf (power' N (2*p+l) (2*p+l+l+n) N))
   modify (Qx lo n)
   pure (.yield (none,lo+n))
 | _=>do
  modify (Qx lo n)
  pure (.yield (none,lo+n))
def SV(N:Nat):StateT SortSt Sem (Option Unit×Unit):=forIn [0:N] ((none,()):Option Unit×Unit) fun _ _=>do
 let g←get
 if (ZJ g).size≤1 then pure (.done (none,()))
 else do
  let z←mergeAt' (if (if (ZJ g).size-2>0 then((ZJ g)[(ZJ g).size-2-1]?).map (·.2.1)else none).any (·<((ZJ g)[(ZJ g).size-2+1]?.elim 0 (·.2.1)))then(ZJ g).size-2-1 else(ZJ g).size-2)
  if (!z)=true then pure (.done (some (),()))else pure (.yield (none,()))
theorem HE:sortRuns'=(do
 let g←get
 let t←forIn [0:(WJ g).size] ((none,0):Option Unit×Nat) fun _ c=>
  if c.2≥(WJ g).size then pure (.done (none,c.2))
  else do
   let z←countRun' c.2 ((WJ g).size-c.2)
   match z with
   |some n=>
    if n<minRun' (WJ g).size (WJ g).size 0 then do
     liftM (rule "list.sort.binary-insertion")
     let z←binarySort' c.2 (min ((WJ g).size-c.2) (minRun' (WJ g).size (WJ g).size 0)) n
     if (!z)=true then pure (.done (some (),c.2))else Qy (WJ g).size c.2 (min ((WJ g).size-c.2) (minRun' (WJ g).size (WJ g).size 0))
    else Qy (WJ g).size c.2 n
   | _=>pure (.done (some (),c.2))
 match t.1 with
 |some r=>pure r
 |none=>do
  let u←SV (WJ g).size
  match u.1 with
  |some r=>pure r
  |none=>pure ()):=by kernel_rfl
abbrev gg(xs:Array Keyed)(k:Nat):Keyed:=xs.getD k (.none, .none)
theorem oW(xs:Array Keyed)(k:Nat):gg xs k=(xs[k]?).getD (.none, .none):=by unfold gg;rw[Array.getD_eq_getD_getElem?]
theorem k_{xs:Array Keyed}{k:Nat}(h:k<xs.size):xs[k]?=some (gg xs k):=by simp[h]
def Sw(lt:Keyed→Keyed→Bool)(xs:Array Keyed)(a b:Nat):Prop:=∀i j,a≤i→i<j→j<b→lt (gg xs i) (gg xs j)=true
def Dw(lt:Keyed→Keyed→Bool)(xs:Array Keyed)(a b:Nat):Prop:=∀i j,a≤i→i<j→j<b→lt (gg xs j) (gg xs i)=true
theorem Sw.congr{lt:Keyed→Keyed→Bool}{xs ys:Array Keyed}{a b:Nat}(h:Sw lt xs a b)(e:∀t,a≤t→t<b→gg ys t=gg xs t):Sw lt ys a b:=fun i j h1 h2 h3=>by rw[e i h1 Mm,e j Mm h3];exact h i j h1 h2 h3
structure SB(X:List Keyed)(κ:SortKind)(st:SortSt):Prop where
 pm:(WJ st).toList.Perm X
 kd:kindOf st=κ
 fl:failedOf st=none
theorem HF{σ:Type}{M:Model}{A:Around}{E:Value→Shared→Prop}{s:Shared}{x:σ}{Q:PUnit→σ→Prop}{st:σ}(h:Q ⟨⟩ x):wpS M A E s (set x:StateT σ Sem PUnit) Q st:=by
 unfold wpS;rw[StateT.run_set];exact ZL ⟨rfl,h⟩
section
variable{prog:Program}{w:World}{A:Around}{E:Value→Shared→Prop}{s:Shared}{X:List Keyed}{κ:SortKind}{lt:Keyed→Keyed→Bool}
theorem SB.size{st:SortSt}(b:SB X κ st):(WJ st).size=X.length:=by have:=b.pm.length_eq;simpa using this
theorem SB.mem{st:SortSt}(b:SB X κ st){k:Nat}(h:k<X.length):gg Zi k∈X:=by
 have:=k_ (xs:=WJ st) (k:=k) (by rw[b.size];exact h);rw[←Array.getElem?_toList]at this;exact b.pm.mem_iff.mp (ZO this)
theorem SB.inj{st:SortSt}(C:EZ prog w A s X κ lt)(b:SB X κ st){i j:Nat}(hi:i<X.length)(hj:j<X.length)(h:i≠j):gg Zi i≠gg Zi j:=fun e=>by
 have h1:=k_ (xs:=WJ st) (k:=i) (by rw[b.size];exact hi);have h2:=k_ (xs:=WJ st) (k:=j) (by rw[b.size];exact hj);rw[←Array.getElem?_toList]at h1 h2;have nd:(WJ st).toList.Nodup:=b.pm.nodup_iff.mpr C.nd;exact h ((List.getElem?_inj (Z' h1).1 nd).mp (by rw[h1,h2,e]))
theorem SB.set{st:SortSt}{xs:Array Keyed}(b:SB X κ st)(h:xs.Perm Zi):SB X κ (setArr st xs):=⟨(Array.perm_iff_toList_perm.mp h).trans b.pm,b.kd,b.fl⟩
variable(C:EZ prog w A s X κ lt)
include C
theorem yU{st:SortSt}{i j:Nat}{Q:Option Bool→SortSt→Prop}(b:SB X κ st)(hi:i<X.length)(hj:j<X.length)(h:Q (some (lt (gg Zi i) (gg Zi j))) st):wpS (model prog w) A E s (ltAt' i j) Q st:=by
 rw[ltAt'_eq];refine wpS_bind (wpS_get ?_);show wpS _ _ _ _ (do let x←elem' Zi i;let y←elem' Zi j;lt' x y) Q st;exact wpS_bind (e6 (k_ (by rw[b.size];exact hi)) (wpS_bind (e6 (k_ (by rw[b.size];exact hj)) (C.ask b.kd (b.mem hi) (b.mem hj) h))))
theorem SB.no{st:SortSt}(b:SB X κ st){i j:Nat}(hi:i<X.length)(hj:j<X.length)(h:i≠j)(e:lt (gg Zi i) (gg Zi j)=false):lt (gg Zi j) (gg Zi i)=true:=C.no (b.mem hi) (b.mem hj) (b.inj C hi hj h) e
theorem Sw.next{st:SortSt}(b:SB X κ st){lo n:Nat}(h1:1≤n)(hn:lo+n<X.length)(h:Sw lt (WJ st) lo (lo+n))(e:lt (gg Zi (lo+n)) (gg Zi (lo+n-1))=false):Sw lt (WJ st) lo (lo+(n+1)):=fun i j hi uC hj=>by
 have hl:=b.no C (i:=lo+n) (j:=lo+n-1) hn Mm (by lia) e;by_cases ej:j=lo+n
 ·subst ej;by_cases ei:i=lo+n-1
  ·subst ei;exact hl
  ·exact C.tr _ (b.mem Mm) _ (b.mem Mm) _ (b.mem hn) (h i (lo+n-1) hi Mm (by lia)) hl
 ·exact h i j hi uC Mm
theorem E9{st:SortSt}{lo i n:Nat}{Q:AscSt→SortSt→Prop}(b:SB X κ st)(hn:lo+n≤X.length)(h1:1≤i)(lI:i≤n)(hs:Sw lt (WJ st) lo (lo+i))(q:∀m,i≤m→m≤n→Sw lt (WJ st) lo (lo+m)→(m=n∨lt (gg Zi (lo+m)) (gg Zi (lo+m-1))=true)→Q (none,m) st):wpS (model prog w) A E s (Qv lo i n) Q st:=by
 unfold Qv;refine wpS_forRange (I:=fun x c aT=>aT=st∧c=(none,x)∧Sw lt (WJ st) lo (lo+x)) ?_ ?_ ⟨rfl,rfl,hs⟩
 ·rintro x c aT lq hx ⟨rfl,rfl,m6⟩;refine wpS_bind (yU C b (by show lo+x<_;lia) (by show lo+x-1<_;lia) ?_);dsimp only;cases e:lt (gg (WJ aT) (lo+x)) (gg (WJ aT) (lo+x-1))with
  |true=>
   rw[if_pos rfl];exact ZU (q x lq Mm m6 (.inr e))
  |false=>
   rw[if_neg V9];exact ZU ⟨rfl,rfl,Sw.next C b (by lia) (by lia) m6 e⟩
 ·rintro c aT ⟨rfl,rfl,m6⟩;rw[show max i n=n by lia]at m6⊢;exact q n lI Zn m6 (.inl rfl)
omit C in
theorem Av{xs:Array Keyed}{i j:Nat}(hj:j≤xs.size)(k:Nat):gg (mirror xs i j ((j-i)/2)) k=if i≤k∧k<j then gg xs (i+j-1-k)else gg xs k:=by
 rw[oW,getElem?_mirror_all hj];split<;>rw[oW]
theorem Lp{st:SortSt}{lo i n:Nat}{Q:Option Nat→SortSt→Prop}(b:SB X κ st)(hn:lo+n≤X.length)(h1:1≤i)(lI:i≤n)(hs:Dw lt (WJ st) lo (lo+i))(q:∀m aT,SB X κ aT→pendingOf aT=pendingOf st→(∀t,t<lo→gg (WJ aT) t=gg Zi t)→1≤m→m≤n→Sw lt (WJ aT) lo (lo+m)→Q (some m) aT):wpS (model prog w) A E s (Qw lo i n) Q st:=by
 unfold Qw;refine wpS_bind ?_;rw[reverseSlice'_eq];refine wpS_modify ?_;have hsz:lo+i≤(WJ st).size:=by rw[b.size];lia
 have b':SB X κ (setArr st (mirror Zi lo (lo+i) ((lo+i-lo)/2))):=b.set (mirror_perm _ _ _ _);refine wpS_bind (E9 C b' hn h1 lI (fun x y hx Au hy=>?_) fun m a1 a2 a3 _=>ZU (q m _ b' rfl (fun t ht=>?_) (by lia) a2 a3))
 ·show lt (gg (mirror Zi lo (lo+i) ((lo+i-lo)/2)) x) (gg (mirror Zi lo (lo+i) ((lo+i-lo)/2)) y)=true;rw[Av hsz,Av hsz,U6 Mm,U6 Mm];exact hs _ _ (by lia) (by lia) (by lia)
 ·show gg (mirror Zi lo (lo+i) ((lo+i-lo)/2)) t=_;rw[Av hsz,Sn Mm]
theorem Lq{st:SortSt}{lo i n:Nat}{Q:DescSt→SortSt→Prop}(b:SB X κ st)(hn:lo+n≤X.length)(h1:1≤i)(lI:i≤n)(hs:Dw lt (WJ st) lo (lo+i))(q:∀m,i≤m→m≤n→Dw lt (WJ st) lo (lo+m)→Q (none,m,0) st):wpS (model prog w) A E s (SR lo i n) Q st:=by
 unfold SR;refine wpS_forRange (I:=fun x c aT=>aT=st∧c=(none,x,0)∧Dw lt (WJ st) lo (lo+x)) ?_ ?_ ⟨rfl,rfl,hs⟩
 ·rintro x c aT lq hx ⟨rfl,rfl,m6⟩;refine wpS_bind (yU C b (by show lo+x<_;lia) (by show lo+x-1<_;lia) ?_);dsimp only;cases e:lt (gg (WJ aT) (lo+x)) (gg (WJ aT) (lo+x-1))with
  |true=>
   rw[if_pos rfl,Sn Mm];refine wpS_pure ⟨rfl,rfl,fun y z hy SW hz=>?_⟩;by_cases ez:z=lo+x
   ·subst ez;by_cases ey:y=lo+x-1
    ·subst ey;exact e
    ·exact C.tr _ (b.mem Mm) _ (b.mem Mm) _ (b.mem Mm) e (m6 y (lo+x-1) hy Mm (by lia))
   ·exact m6 y z hy SW Mm
  |false=>
   rw[if_neg V9];have e':=b.no C (i:=lo+x) (j:=lo+x-1) (by lia) (by lia) (by lia) e;refine wpS_bind (yU C b (by lia) (by lia) ?_);rw[e'];dsimp only;rw[if_pos rfl];exact ZU (q x lq Mm m6)
 ·rintro c aT ⟨rfl,rfl,m6⟩;rw[show max i n=n by lia]at m6⊢;exact q n lI Zn m6
theorem Oy{st:SortSt}{lo n:Nat}{Q:Option Nat→SortSt→Prop}(b:SB X κ st)(hn:lo+n≤X.length)(h1:1≤n)(q:∀m aT,SB X κ aT→pendingOf aT=pendingOf st→(∀t,t<lo→gg (WJ aT) t=gg Zi t)→1≤m→m≤n→Sw lt (WJ aT) lo (lo+m)→Q (some m) aT):wpS (model prog w) A E s (countRun' lo n) Q st:=by
 rw[Lm];refine wpS_bind (E9 C b hn Zn h1 (fun i j a b c=>by lia) fun m a1 a2 a3 a4=>?_);dsimp only;by_cases e:(m==n)=true
 ·rw[U6 e];exact ZU (q m st b rfl (fun _ _=>rfl) a1 a2 a3)
 ·rw[Sn e];have e:m≠n:=fun z=>e Ο
  by_cases e2:m>1
  ·rw[U6 e2];refine wpS_bind (yU C b (by lia) (by lia) ?_);rw[a3 lo (lo+m-1) (Nat.le_refl _) (by lia) (by lia)];dsimp only;rw[if_pos rfl];exact ZU (q m st b rfl (fun _ _=>rfl) a1 a2 a3)
  ·rw[Sn e2];have:m=1:=by lia
   subst this;unfold SS;refine wpS_bind (wpS_lift (wpAny_rule ⟨rfl,?_⟩));refine wpS_bind (Lq C b hn Mm (by lia) (fun i j hi uC hj=>?_) fun m c1 c2 c3=>?_)
   ·have hi:i=lo:=by lia
    have hj:j=lo+1:=by lia
    subst hi hj;exact a4.resolve_left e
   ·dsimp only;rw[Sn Mm];exact Lp C b hn Mm c2 c3 q
omit C in
theorem Lr{xs:Array Keyed}{src d:Nat}(hs:src<xs.size)(hd:d≤src)(k:Nat):gg (bubble xs src d) k=if k=src-d then gg xs src else if src-d<k∧k≤src then gg xs (k-1)else gg xs k:=by
 rw[oW,getElem?_bubble hs d hd];by_cases h1:k=src-d
 ·rw[U6 h1,U6 h1,oW]
 ·rw[Sn h1,Sn h1];by_cases h2:src-d<k∧k≤src
  ·rw[U6 h2,U6 h2,oW]
  ·rw[Sn h2,Sn h2,oW]
theorem Oz{st:SortSt}{lo n ok:Nat}{Q:Bool→SortSt→Prop}(b:SB X κ st)(hn:lo+n≤X.length)(h1:1≤ok)(bX:ok≤n)(hs:Sw lt (WJ st) lo (lo+ok))(q:∀aT,SB X κ aT→pendingOf aT=pendingOf st→(∀t,t<lo→gg (WJ aT) t=gg Zi t)→Sw lt (WJ aT) lo (lo+n)→Q true aT):wpS (model prog w) A E s (binarySort' lo n ok) Q st:=by
 rw[Ln];refine wpS_bind (wpS_mono (wpS_forRange (I:=fun k c aT=>c=(none,())∧SB X κ aT∧pendingOf aT=pendingOf st∧(∀t,t<lo→gg (WJ aT) t=gg Zi t)∧Sw lt (WJ aT) lo (lo+k)) (Q:=fun c aT=>c=(none,())∧SB X κ aT∧pendingOf aT=pendingOf st∧(∀t,t<lo→gg (WJ aT) t=gg Zi t)∧Sw lt (WJ aT) lo (lo+n)) ?_ ?_ ⟨rfl,b,rfl,fun _ _=>rfl,by rw[show max ok 1=ok by lia];exact hs⟩) ?_)
 ·rintro k c aT Jn hk ⟨rfl,b',hp,hf,m6⟩;unfold Ve;refine wpS_bind (wpS_mono (wpS_forRange (I:=fun x c dR=>dR=aT∧∃l r,c=(none,l,r)∧l≤r∧r≤k∧(∀i,i<l→lt (gg (WJ aT) (lo+i)) (gg (WJ aT) (lo+k))=true)∧(∀i,r≤i→i<k→lt (gg (WJ aT) (lo+k)) (gg (WJ aT) (lo+i))=true)∧r-l+x≤k) (Q:=fun c dR=>dR=aT∧∃l r,c=(none,l,r)∧l≤k∧(∀i,i<l→lt (gg (WJ aT) (lo+i)) (gg (WJ aT) (lo+k))=true)∧(∀i,l≤i→i<k→lt (gg (WJ aT) (lo+k)) (gg (WJ aT) (lo+i))=true)) ?_ ?_ ⟨rfl,0,k,rfl,by lia,by lia,fun i hi=>by lia,fun i h1 h2=>by lia,by lia⟩) ?_)
  ·rintro x c dR _ hx ⟨rfl,l,r,rfl,a1,a2,a3,a4,a5⟩;dsimp only;by_cases Vg:l≥r
   ·rw[U6 Vg];exact ZU ⟨rfl,l,r,rfl,by lia,a3,fun i h1 h2=>a4 i Mm h2⟩
   ·rw[Sn Vg];refine wpS_bind (yU C b' Mm (by lia) ?_);dsimp only;cases e:lt (gg (WJ dR) (lo+k)) (gg (WJ dR) (lo+(l+r)/2))with
    |true=>
     rw[if_pos rfl];refine wpS_pure ⟨rfl,l,(l+r)/2,rfl,by lia,by lia,a3,fun i h1 h2=>?_,by lia⟩;by_cases ei:i=(l+r)/2
     ·subst ei;exact e
     ·exact C.tr _ (b'.mem Mm) _ (b'.mem Mm) _ (b'.mem Mm) e (m6 (lo+(l+r)/2) (lo+i) (by lia) (by lia) (by lia))
    |false=>
     rw[if_neg V9];have e':=b'.no C (i:=lo+k) (j:=lo+(l+r)/2) (by lia) (by lia) (by lia) e;refine wpS_pure ⟨rfl,(l+r)/2+1,r,rfl,by lia,a2,fun i h1=>?_,a4,by lia⟩;by_cases ei:i=(l+r)/2
     ·subst ei;exact e'
     ·exact C.tr _ (b'.mem Mm) _ (b'.mem Mm) _ (b'.mem Mm) (m6 (lo+i) (lo+(l+r)/2) (by lia) (by lia) (by lia)) e'
  ·rintro c dR ⟨rfl,l,r,rfl,a1,a2,a3,a4,a5⟩;exact⟨rfl,l,r,rfl,by lia,a3,fun i h1 h2=>a4 i Mm h2⟩
  rintro c dR ⟨rfl,l,r,rfl,a1,a2,a3⟩;dsimp only;refine wpS_bind ?_;rw[moveDown'_eq];refine wpS_modify (ZU ?_);have hsz:lo+k<(WJ dR).size:=by rw[b'.size];lia
  have gb:=fun t=>Lr (xs:=WJ dR) hsz (d:=lo+k-(lo+l)) (by lia) t
  have es:lo+k-(lo+k-(lo+l))=lo+l:=by lia
  rw[es]at gb;refine⟨rfl,b'.set (bubble_perm _ _ _),hp,fun t ht=>?_,fun i j hi uC hj=>?_⟩
  ·show gg (bubble (WJ dR) (lo+k) (lo+k-(lo+l))) t=_;rw[gb,Sn Mm,Sn Mm];exact hf t ht
  ·show lt (gg (bubble (WJ dR) (lo+k) (lo+k-(lo+l))) i) (gg (bubble (WJ dR) (lo+k) (lo+k-(lo+l))) j)=true;rw[gb,gb];have Xr:∀t,lo≤t→t<lo+l→lt (gg (WJ dR) t) (gg (WJ dR) (lo+k))=true:=fun t h1 h2=>by have:=a2 (t-lo) (by lia);rw[show lo+(t-lo)=t by lia]at this;exact this
   have Xs:∀t,lo+l≤t→t<lo+k→lt (gg (WJ dR) (lo+k)) (gg (WJ dR) t)=true:=fun t h1 h2=>by have:=a3 (t-lo) (by lia) (by lia);rw[show lo+(t-lo)=t by lia]at this;exact this
   by_cases e1:i=lo+l
   ·rw[U6 e1,Sn Mm,U6 Mm];exact Xs _ (by lia) (by lia)
   ·rw[Sn e1];by_cases e2:lo+l<i∧i≤lo+k
    ·rw[U6 e2,Sn Mm,U6 Mm];exact m6 _ _ (by lia) (by lia) (by lia)
    ·rw[Sn e2];by_cases e3:j=lo+l
     ·rw[U6 e3];exact Xr _ (by lia) (by lia)
     ·rw[Sn e3];by_cases e4:lo+l<j∧j≤lo+k
      ·rw[U6 e4];exact m6 _ _ (by lia) (by lia) (by lia)
      ·rw[Sn e4];exact m6 _ _ (by lia) (by lia) (by lia)
 ·rintro c aT ⟨rfl,b',hp,hf,m6⟩;rw[show max (max ok 1) n=n by lia]at m6;exact⟨rfl,b',hp,hf,m6⟩
 ·rintro c aT ⟨rfl,b',hp,hf,m6⟩;exact ZU (q aT b' hp hf m6)
end
theorem Ls(ys:List Keyed)(j:Nat):∀(k:Nat)(xs:Array Keyed),j+k+ys.length≤xs.size→∀t:Nat,((ys.zipIdx k).foldl (fun c q=>c.setIfInBounds (j+q.2) q.1) xs)[t]?=if j+k≤t∧t<j+k+ys.length then ys[t-(j+k)]? else xs[t]?:=by
 induction ys with
 |nil=>
  intro k xs h t;rw[Sn (fun z=>by have z1:=z.1;have z2:=z.2;simp only[List.length_nil]at z2;lia)];rfl
 |cons y ys ih=>
  intro k xs h t;rw[List.zipIdx_cons,List.foldl_cons,ih (k+1) _ (by simp at h⊢;lia) t];simp only[List.length_cons]at h⊢;by_cases h1:j+(k+1)≤t∧t<j+(k+1)+ys.length
  ·rw[U6 h1,U6 Mm,show t-(j+k)=(t-(j+(k+1)))+1 by lia];rfl
  ·rw[Sn h1,Array.getElem?_setIfInBounds];by_cases h2:j+k=t
   ·subst h2;rw[if_pos rfl,U6 Mm,U6 Mm];simp
   ·rw[Sn h2,Sn Mm]
theorem E_(ys:List Keyed)(j:Nat)(xs:Array Keyed)(h:j+ys.length≤xs.size):(ys.zipIdx.foldl (fun c q=>c.setIfInBounds (j+q.2) q.1) xs).toList=xs.toList.take j++ys++xs.toList.drop (j+ys.length):=by
 apply List.ext_getElem?;intro t;rw[Array.getElem?_toList,Ls ys j 0 xs Mm t,Nat.add_zero];by_cases h1:t<j
 ·rw[Sn Mm,List.append_assoc,Zy (by simp;lia),List.getElem?_take,U6 h1,Array.getElem?_toList]
 ·by_cases h2:t<j+ys.length
  ·rw[U6 Mm,List.append_assoc,Δ (by simp;lia),Zy (by simp;lia)]
   congr 1
   simp
   lia
  ·rw[Sn Mm,Δ (by simp;lia),List.getElem?_drop,Array.getElem?_toList]
   congr 1
   simp
   lia
section
variable{prog:Program}{w:World}{A:Around}{E:Value→Shared→Prop}{s:Shared}{X:List Keyed}{κ:SortKind}{lt:Keyed→Keyed→Bool}
theorem Sw.pw{xs:Array Keyed}{p m:Nat}(h:Sw lt xs p (p+m)):Pw lt ((xs.toList.drop p).take m):=by
 refine List.pairwise_iff_getElem.mpr ?_;intro i j hi hj uC;have Ag:j<m∧p+j<xs.size:=by simp at hj;lia
 have e1:((xs.toList.drop p).take m)[i]=gg xs (p+i):=by
  have:((xs.toList.drop p).take m)[i]?=some (gg xs (p+i)):=by rw[List.getElem?_take,U6 Mm,List.getElem?_drop,Array.getElem?_toList];exact k_ Mm
  exact(Z' this).2
 have e2:((xs.toList.drop p).take m)[j]=gg xs (p+j):=by
  have:((xs.toList.drop p).take m)[j]?=some (gg xs (p+j)):=by rw[List.getElem?_take,U6 Mm,List.getElem?_drop,Array.getElem?_toList];exact k_ Mm
  exact(Z' this).2
 rw[e1,e2];exact h _ _ (by lia) (by lia) (by lia)
theorem Fb{xs:Array Keyed}{p m t:Nat}(h:t<m)(hs:p+m≤xs.size):((xs.toList.drop p).take m)[t]?=some (gg xs (p+t)):=by
 rw[List.getElem?_take,U6 h,List.getElem?_drop,Array.getElem?_toList];exact k_ Mm
variable(C:EZ prog w A s X κ lt)
include C
theorem OA{st:SortSt}{i p m v n u:Nat}{Q:Bool→SortSt→Prop}(b:SB X κ st)(e1:(ZJ st)[i]?=some (p,m,v))(e2:(ZJ st)[i+1]?=some (p+m,n,u))(hm:1≤m)(hn:1≤n)(hX:p+m+n≤X.length)(s1:Sw lt (WJ st) p (p+m))(s2:Sw lt (WJ st) (p+m) (p+m+n))
  (q:∀aT,SB X κ aT→pendingOf aT=((ZJ st).setIfInBounds i (p,m+n,v)).eraseIdxIfInBounds (i+1)→(∀t,t<p∨p+m+n≤t→gg (WJ aT) t=gg Zi t)→Sw lt (WJ aT) p (p+m+n)→Q true aT):wpS (model prog w) A E s (mergeAt' i) Q st:=by
 rw[Lo];refine wpS_bind (wpS_get ?_);rw[e1,e2];dsimp only;refine wpS_bind (HF ?_);have hsz:=b.size;refine wpS_bind (e6 (k_ (xs:=WJ st) (k:=p+m) (by lia)) ?_);have mem:∀t,t<X.length→gg Zi t∈X:=fun t h=>b.mem h
 generalize Lu:setPending st (((ZJ st).setIfInBounds i (p,m+n,v)).eraseIdxIfInBounds (i+1))=As;have Aw:arrOf As=arrOf st:=by rw[←Lu]
 have b1:SB X κ As:=by rw[←Lu];exact⟨b.pm,b.kd,b.fl⟩
 have CS:pendingOf As=((ZJ st).setIfInBounds i (p,m+n,v)).eraseIdxIfInBounds (i+1):=by rw[←Lu]
 refine wpS_bind (qy C (fun t=>gg Zi (p+t)) b1.kd (mem _ (by lia)) (fun t ht=>⟨k_ Mm,mem _ (by lia)⟩) (fun x y h1 h2=>s1 _ _ (by lia) (by lia) (by lia)) (by lia) fun k hk g1 g2=>?_);dsimp only;have OB:∀t,t<k→lt (gg Zi (p+t)) (gg Zi (p+m))=true:=fun t ht=>by
  have:=g1 t ht;simp only[lp,Bool.false_eq_true,if_false,Bool.not_eq_true']at this;exact b.no C (by lia) (by lia) (by lia) this
 have Vh:∀t,k≤t→t<m→lt (gg Zi (p+m)) (gg Zi (p+t))=true:=fun t h1 h2=>by
  have:=g2 t h1 h2;simp only[lp,Bool.false_eq_true,if_false,Bool.not_eq_false']at this;exact this
 have tr:=fun{x y z:Nat}(hx:x<X.length)(hy:y<X.length)(hz:z<X.length)=>C.tr _ (mem x hx) _ (mem y hy) _ (mem z hz)
 by_cases ek:(m-k==0)=true
 ·rw[U6 ek];have:k=m:=by have:=beq_iff_eq.mp ek;lia
  subst this;refine wpS_pure (q As b1 CS (fun _ _=>by rw[Aw]) ?_);rw[Aw];intro x y hx Au hy;by_cases h1:y<p+k
  ·exact s1 x y hx Au h1
  ·by_cases h2:p+k≤x
   ·exact s2 x y h2 Au hy
   ·have h3:=OB (x-p) (by lia);rw[show p+(x-p)=x by lia]at h3;by_cases h4:y=p+k
    ·rw[h4];exact h3
    ·exact tr Mm (by lia) (by lia) h3 (s2 (p+k) y Mm (by lia) hy)
 rw[Sn ek];have ek:k<m:=by
  have:m-k≠0:=fun z=>ek Ο
  lia
 refine wpS_bind (e6 (k_ (xs:=WJ st) (k:=p+k+(m-k)-1) (by lia)) ?_);rw[show p+k+(m-k)-1=p+m-1 by lia];refine wpS_bind (qy C (fun t=>gg Zi (p+m+t)) b1.kd (mem _ (by lia)) (fun t ht=>⟨k_ Mm,mem _ (by lia)⟩) (fun x y h1 h2=>s2 _ _ (by lia) (by lia) (by lia)) (by lia) fun l hl g3 g4=>?_);dsimp only;have SX:∀t,t<l→lt (gg Zi (p+m+t)) (gg Zi (p+m-1))=true:=fun t ht=>by
  have:=g3 t ht;simp only[lp,if_true]at this;exact this
 have Vi:∀t,l≤t→t<n→lt (gg Zi (p+m-1)) (gg Zi (p+m+t))=true:=fun t h1 h2=>by
  have:=g4 t h1 h2;simp only[lp,if_true]at this;exact b.no C (by lia) (by lia) (by lia) this
 have Lb:0<l:=by
  rcases Nat.lt_or_ge 0 l with h|h
  ·exact h
  ·have h1:=Vi 0 (by lia) (by lia);have h2:=Vh (m-1) (by lia) (by lia);rw[show p+(m-1)=p+m-1 by lia]at h2;rw[Nat.add_zero]at h1;have:=C.as _ (mem _ (by lia)) _ (mem _ (by lia)) h1;rw[h2]at this;cases this
 rw[Sn (by simp;lia)];have ex:((WJ st).extract (p+k) (p+m)).toList=((WJ st).toList.drop (p+k)).take (m-k):=by
  simp[Array.toList_extract,List.extract_eq_take_drop]
  congr 1
  lia
 have ey:((WJ st).extract (p+m) (p+m+l)).toList=((WJ st).toList.drop (p+m)).take l:=by
  simp[Array.toList_extract,List.extract_eq_take_drop]
 have Vj:∀t,t<m-k→(((WJ st).toList.drop (p+k)).take (m-k))[t]?=some (gg Zi (p+k+t)):=fun t ht=>Fb ht Mm
 have Vk:∀t,t<l→(((WJ st).toList.drop (p+m)).take l)[t]?=some (gg Zi (p+m+t)):=fun t ht=>Fb ht Mm
 have lx:(((WJ st).toList.drop (p+k)).take (m-k)).length=m-k:=by simp;lia
 have ly:(((WJ st).toList.drop (p+m)).take l).length=l:=by simp;lia
 have Qz:∀x∈((WJ st).toList.drop (p+k)).take (m-k),∃t,t<m-k∧x=gg Zi (p+k+t):=fun x hx=>by
  obtain⟨t,ht⟩:=List.mem_iff_getElem?.mp hx;have gR:=(Z' ht).1;rw[lx]at gR;rw[Vj t gR]at ht;exact⟨t,gR,(ZV ht).symm⟩
 have QA:∀x∈((WJ st).toList.drop (p+m)).take l,∃t,t<l∧x=gg Zi (p+m+t):=fun x hx=>by
  obtain⟨t,ht⟩:=List.mem_iff_getElem?.mp hx;have gR:=(Z' ht).1;rw[ly]at gR;rw[Vk t gR]at ht;exact⟨t,gR,(ZV ht).symm⟩
 have MM:MC X lt ((WJ st).extract (p+k) (p+m)).toList ((WJ st).extract (p+m) (p+m+l)).toList:=by
  rw[ex,ey];refine⟨Sw.pw fun x y h1 h2 h3=>s1 x y Mm h2 Mm,Sw.pw fun x y h1 h2 h3=>s2 x y h1 h2 Mm,fun x hx=>?_,fun x hx=>?_,fun x hx y hy=>?_,fun x hx y hy=>?_,fun y hy x hx=>?_⟩
  ·obtain⟨t,ht,rfl⟩:=Qz x hx;exact mem _ (by lia)
  ·obtain⟨t,ht,rfl⟩:=QA x hx;exact mem _ (by lia)
  ·obtain⟨t,ht,rfl⟩:=Qz x hx;obtain⟨u,hu,rfl⟩:=QA y hy;exact b.inj C (by lia) (by lia) (by lia)
  ·obtain⟨t,ht,rfl⟩:=Qz x hx;rw[Vk 0 Lb]at hy;cases hy;have:=Vh (k+t) (by lia) (by lia);rw[←Nat.add_assoc]at this;exact this
  ·obtain⟨t,ht,rfl⟩:=QA y hy;rw[lx,Vj _ (by lia)]at hx;cases hx;rw[show p+k+(m-k-1)=p+m-1 by lia];exact SX t ht
 have fin:∀r dR,Eg As dR→MG lt ((WJ st).extract (p+k) (p+m)).toList ((WJ st).extract (p+m) (p+m+l)).toList r.toList→wpS (model prog w) A E s (do
   modify fun st=>DD (p+k) r st
   return (failedOf (←get)).isNone) Q dR:=fun r dR eg mg=>by
  refine wpS_bind (wpS_modify (wpS_bind (wpS_get (ZU ?_))));have MD:arrOf dR=arrOf st:=eg.2.1.trans Aw;have QB:failedOf dR=none:=eg.2.2.2.trans b1.fl;rw[ex,ey]at mg;have BP:r.toList.length=m-k+l:=by have:=mg.1.length_eq;rw[List.length_append,lx,ly]at this;exact this
  have el:(WJ (DD (p+k) r dR)).toList=(WJ st).toList.take (p+k)++r.toList++(WJ st).toList.drop (p+m+l):=by
   show(r.toList.zipIdx.foldl (fun c q=>c.setIfInBounds (p+k+q.2) q.1) (WJ dR)).toList=_;rw[E_ _ _ _ (by rw[MD,BP];lia),MD,BP,show p+k+(m-k+l)=p+m+l by lia]
  have Xu:(WJ st).toList=(WJ st).toList.take (p+k)++(((WJ st).toList.drop (p+k)).take (m-k)++((WJ st).toList.drop (p+m)).take l)++(WJ st).toList.drop (p+m+l):=by
   have h1:=oV (WJ st).toList (p+k) (m-k);have h2:=oV (WJ st).toList (p+m) l;rw[show p+k+(m-k)=p+m by lia]at h1
   conv=>lhs;rw[←List.take_append_drop (p+k) (WJ st).toList,h1,h2]
   simp only[List.append_assoc]
  have SY:∀t,gg (WJ (DD (p+k) r dR)) t=((WJ (DD (p+k) r dR)).toList[t]?).getD (.none, .none):=fun t=>by rw[oW,Array.getElem?_toList]
  have g0:∀t,gg Zi t=((WJ st).toList[t]?).getD (.none, .none):=fun t=>by rw[oW,Array.getElem?_toList]
  have Lv:∀t,t<p+k→gg (WJ (DD (p+k) r dR)) t=gg Zi t:=fun t ht=>by
   rw[SY,g0,el,List.append_assoc,Zy (by simp;lia),List.getElem?_take,U6 ht]
  have Fe:∀t,p+m+l≤t→gg (WJ (DD (p+k) r dR)) t=gg Zi t:=fun t ht=>by
   have gR:((WJ st).toList.take (p+k)++r.toList).length=p+m+l:=by
    rw[List.length_append,BP,List.length_take,Array.length_toList]
    lia
   rw[SY,g0,el,Δ Mm,List.getElem?_drop,gR]
   congr 2
   lia
  have S8:∀t,p+k≤t→t<p+m+l→r.toList[t-(p+k)]?=some (gg (WJ (DD (p+k) r dR)) t):=fun t h1 h2=>by
   rw[SY,el,List.append_assoc,Δ (by simp;lia),Zy (by rw[List.length_take,Array.length_toList];lia)];rw[show(List.take (p+k) (WJ st).toList).length=p+k by simp;lia];rw[Θ Mm];rfl
  have cont:∀t,p+k≤t→t<p+m+l→∃u,p+k≤u∧u<p+m+l∧gg (WJ (DD (p+k) r dR)) t=gg Zi u:=fun t h1 h2=>by
   have:=mg.1.mem_iff.mp (ZO (S8 t h1 h2));rcases List.mem_append.mp this with z|z
   ·obtain⟨u,hu,e⟩:=Qz _ z;exact⟨p+k+u,by lia,by lia,e⟩
   ·obtain⟨u,hu,e⟩:=QA _ z;exact⟨p+m+u,by lia,by lia,e⟩
  have hb:SB X κ (DD (p+k) r dR):=by
   refine⟨?_,eg.1.trans b1.kd,QB⟩;rw[el];refine List.Perm.trans ?_ b.pm
   conv=>rhs;rw[Xu]
   exact(List.Perm.append_left _ mg.1).append_right _
  have Nj:(failedOf (DD (p+k) r dR)).isNone=true:=by rw[show failedOf (DD (p+k) r dR)=failedOf dR from rfl,QB];rfl
  rw[Nj];refine q _ hb (eg.2.2.1.trans CS) (fun t ht=>?_) fun x y hx Au hy=>?_
  ·rcases ht with ht|ht
   ·exact Lv t (by lia)
   ·exact Fe t (by lia)
  ·
   have A1:∀t u,p≤t→t<p+k→p+k≤u→u<p+m+n→lt (gg Zi t) (gg Zi u)=true:=fun t u h1 h2 h3 h4=>by
    by_cases h5:u<p+m
    ·exact s1 t u h1 Mm h5
    ·have h6:=OB (t-p) (by lia);rw[show p+(t-p)=t by lia]at h6;by_cases h7:u=p+m
     ·rw[h7];exact h6
     ·exact tr Mm (by lia) (by lia) h6 (s2 (p+m) u Mm (by lia) h4)
   have A2:∀t u,p+k≤t→t<p+m+l→p+m+l≤u→u<p+m+n→lt (gg Zi t) (gg Zi u)=true:=fun t u h1 h2 h3 h4=>by
    by_cases h5:p+m≤t
    ·exact s2 t u h5 Mm h4
    ·have h6:=Vi (u-(p+m)) (by lia) (by lia);rw[show p+m+(u-(p+m))=u by lia]at h6;by_cases h7:t=p+m-1
     ·rw[h7];exact h6
     ·exact tr Mm (by lia) (by lia) (s1 t (p+m-1) (by lia) (by lia) (by lia)) h6
   by_cases h1:x<p+k
   ·rw[Lv x h1];by_cases h2:y<p+k
    ·rw[Lv y h2];exact s1 x y hx Au Mm
    ·by_cases h3:y<p+m+l
     ·obtain⟨u,u1,u2,u3⟩:=cont y Mm h3;rw[u3];exact A1 x u hx h1 u1 Mm
     ·rw[Fe y Mm];exact A1 x y hx h1 Mm hy
   ·by_cases h3:x<p+m+l
    ·by_cases h4:y<p+m+l
     ·exact mg.2.at (i:=x-(p+k)) (j:=y-(p+k)) (by lia) (S8 x (by lia) h3) (S8 y Mm h4)
     ·rw[Fe y Mm];obtain⟨u,u1,u2,u3⟩:=cont x (by lia) h3;rw[u3];exact A2 u y u1 u2 Mm hy
    ·rw[Fe x (by lia),Fe y Mm];exact s2 x y Mm Au hy
 have sx:0<((WJ st).extract (p+k) (p+m)).size:=by simp;lia
 have sy:0<((WJ st).extract (p+m) (p+m+l)).size:=by simp;lia
 by_cases Vl:m-k≤l
 ·rw[U6 Vl];exact wpS_bind (Lf C MM b1.kd sx sy fin)
 ·rw[Sn Vl];exact wpS_bind (Ll C MM b1.kd sx sy fin)
end
abbrev Rn:=Nat×Nat×Nat
def Ch:List Rn→Nat→Nat→Prop
 |[],s,e=>s=e
 |q::r,s,e=>q.1=s∧1≤q.2.1∧Ch r (s+q.2.1) e
theorem Ch.all:∀{l:List Rn}{s e:Nat},Ch l s e→s+l.length≤e∧∀q∈l,s≤q.1∧q.1+q.2.1≤e
 |[],s,e,h=>⟨by have:s=e:=h;simp;lia,fun q hq=>by cases hq⟩
 |q::r,s,e,⟨h1,h2,h3⟩=>by
  obtain⟨a1,a2⟩:=Ch.all h3;refine⟨by simp;lia,fun x hx=>?_⟩;rcases List.mem_cons.mp hx with rfl|hx
  ·lia
  ·have:=a2 x hx;lia
theorem Ch.split:∀{l r:List Rn}{s e:Nat},Ch (l++r) s e↔∃m,Ch l s m∧Ch r m e
 |[],r,s,e=>⟨fun h=>⟨s,rfl,h⟩,fun⟨m,h1,h2⟩=>by have:s=m:=h1;rw[this];exact h2⟩
 |q::l,r,s,e=>by
  constructor
  ·rintro⟨h1,h2,h3⟩;obtain⟨m,a1,a2⟩:=Ch.split.mp h3;exact⟨m,⟨h1,h2,a1⟩,a2⟩
  ·rintro⟨m,⟨h1,h2,a1⟩,a2⟩;exact⟨h1,h2,Ch.split.mpr ⟨m,a1,a2⟩⟩
theorem Ch.mod{f:Rn→Rn}(hf:∀q,(f q).1=q.1∧(f q).2.1=q.2.1):∀{l:List Rn}{j s e:Nat},Ch l s e→Ch (l.modify j f) s e
 |[],j,s,e,h=>by simpa using h
 |q::r,0,s,e,h=>by
  rw[List.modify_zero_cons];obtain⟨h1,h2,h3⟩:=h;refine⟨by rw[(hf q).1];exact h1,by rw[(hf q).2];exact h2,by rw[(hf q).2];exact h3⟩
 |q::r,j+1,s,e,h=>by
  rw[List.modify_succ_cons];exact⟨h.1,h.2.1,Ch.mod hf h.2.2⟩
theorem BQ{f:Rn→Rn}:∀{l:List Rn}{j:Nat}{q:Rn},q∈l.modify j f→q∈l∨∃x∈l,q=f x
 |[],j,q,h=>by simp at h
 |x::r,0,q,h=>by
  rw[List.modify_zero_cons]at h;rcases List.mem_cons.mp h with h|h
  ·exact .inr ⟨x,Wv,h⟩
  ·exact .inl (Η h)
 |x::r,j+1,q,h=>by
  rw[List.modify_succ_cons]at h;rcases List.mem_cons.mp h with h|h
  ·exact .inl (by rw[h];simp)
  ·rcases BQ h with h|⟨y,h1,h2⟩
   ·exact .inl (Η h)
   ·exact .inr ⟨y,Η h1,h2⟩
structure RI(X:List Keyed)(κ:SortKind)(lt:Keyed→Keyed→Bool)(st:SortSt)(lo n:Nat):Prop where
 b:SB X κ st
 ch:Ch (ZJ st).toList 0 lo
 sw:∀q∈(ZJ st).toList,Sw lt (WJ st) q.1 (q.1+q.2.1)
 tl:Sw lt (WJ st) lo (lo+n)
section
variable{prog:Program}{w:World}{A:Around}{E:Value→Shared→Prop}{s:Shared}{X:List Keyed}{κ:SortKind}{lt:Keyed→Keyed→Bool}(C:EZ prog w A s X κ lt)
include C
theorem Jp{st:SortSt}{lo n i:Nat}{Q:Bool→SortSt→Prop}(r:RI X κ lt st lo n)(Mv:lo≤X.length)(hi:i+1<(ZJ st).size)(q:∀aT,RI X κ lt aT lo n→(ZJ aT).size+1=(ZJ st).size→Q true aT):wpS (model prog w) A E s (mergeAt' i) Q st:=by
 have hl:(ZJ st).toList.length=(ZJ st).size:=Wv;obtain⟨P1,x,y,P2,e,el⟩:∃P1 x y P2,(ZJ st).toList=P1++x::y::P2∧P1.length=i:=by
  refine⟨(ZJ st).toList.take i,(ZJ st).toList[i],(ZJ st).toList[i+1],(ZJ st).toList.drop (i+2),?_,by simp;lia⟩
  conv=>lhs;rw[←List.take_append_drop i (ZJ st).toList]
  rw[List.drop_eq_getElem_cons Mm,List.drop_eq_getElem_cons Mm]
 obtain⟨p,m,v⟩:=x;obtain⟨p2,k,u⟩:=y;have ch:=r.ch;rw[e]at ch;obtain⟨mid,c1,c2⟩:=Ch.split.mp ch;obtain⟨d1,d2,d3,d4,d5⟩:=c2;dsimp only at d1 d2 d3 d4 d5;subst d1 d3;have a1:=c1.all;have a2:=d5.all;have i1:(ZJ st)[i]?=some (p,m,v):=by rw[←Array.getElem?_toList,e,Δ Mm,el];simp
 have i2:(ZJ st)[i+1]?=some (p+m,k,u):=by rw[←Array.getElem?_toList,e,Δ Mm,el];simp
 have w1:=r.sw (p,m,v) (by rw[e];simp);have w2:=r.sw (p+m,k,u) (by rw[e];simp);refine OA C r.b i1 i2 d2 d4 Mm w1 w2 fun aT b' hp Lw Sg=>?_
 have ep:(ZJ aT).toList=P1++(p,m+k,v)::P2:=by
  rw[hp];simp only[Array.toList_eraseIdxIfInBounds,Array.toList_setIfInBounds];rw[e,List.set_append_right _ _ (by lia),el,Nat.sub_self,List.set_cons_zero,List.eraseIdx_append_of_length_le Mm,el,show i+1-i=1 by lia];rfl
 refine q aT ⟨b',?_,fun z hz=>?_,r.tl.congr fun t h1 h2=>Lw t (.inr Mm)⟩ ?_
 ·rw[ep];refine Ch.split.mpr ⟨p,c1,rfl,by show 1≤m+k;lia,?_⟩;show Ch P2 (p+(m+k)) lo;rw[←Nat.add_assoc];exact d5
 ·rw[ep]at hz;rcases List.mem_append.mp hz with hz|hz
  ·have h1:=a1.2 z hz;exact(r.sw z (by rw[e];simp[hz])).congr fun t _ h2=>Lw t (.inl Mm)
  ·rcases List.mem_cons.mp hz with rfl|hz
   ·show Sw lt (WJ aT) p (p+(m+k));rw[←Nat.add_assoc];exact Sg
   ·have h1:=a2.2 z hz;exact(r.sw z (by rw[e];simp[hz])).congr fun t h2 _=>Lw t (.inr Mm)
 ·have h1:=congrArg List.length ep;have h2:=congrArg List.length e;simp at h1 h2
  lia
theorem Lx{st:SortSt}{lo n N w':Nat}{Q:Option Unit×Unit→SortSt→Prop}(r:RI X κ lt st lo n)(Mv:lo≤X.length)(q:∀aT,RI X κ lt aT lo n→Q (none,()) aT):wpS (model prog w) A E s (SU N w') Q st:=by
 unfold SU;refine wpS_forRange (I:=fun _ c aT=>c=(none,())∧RI X κ lt aT lo n) ?_ (fun c aT h=>by rw[h.1];exact q aT h.2) ⟨rfl,r⟩;rintro x c aT _ _ ⟨rfl,r'⟩;refine wpS_bind (wpS_get ?_);by_cases hs:(ZJ aT).size>1
 ·rw[U6 hs];have e:(ZJ aT)[(ZJ aT).size-2]?=some (ZJ aT)[(ZJ aT).size-2]:=Wv;rw[e];generalize (ZJ aT)[(ZJ aT).size-2]=z;obtain⟨z1,z2,z3⟩:=z;dsimp only;split
  ·exact ZU (q aT r')
  ·refine wpS_bind (Jp C r' Mv Mm fun dR r2 _=>?_);rw[if_neg V9];exact ZU ⟨rfl,r2⟩
 ·rw[Sn hs];exact ZU (q aT r')
theorem Ff{st:SortSt}{lo n N:Nat}{Q:ForInStep (Option Unit×Nat)→SortSt→Prop}(r:RI X κ lt st lo n)(h1:1≤n)(Mv:lo+n≤X.length)(q:∀aT,RI X κ lt aT (lo+n) 0→Q (.yield (none,lo+n)) aT):wpS (model prog w) A E s (Qy N lo n) Q st:=by
 have push:∀aT,RI X κ lt aT lo n→RI X κ lt (Qx lo n aT) (lo+n) 0:=fun aT r'=>by
  have ep:(ZJ (Qx lo n aT)).toList=(ZJ aT).toList++[(lo,n,0)]:=by
   show((ZJ aT).push (lo,n,0)).toList=_;simp
  refine⟨⟨r'.b.pm,r'.b.kd,r'.b.fl⟩,?_,fun z hz=>?_,fun i j a b c=>by lia⟩
  ·rw[ep];exact Ch.split.mpr ⟨lo,r'.ch,rfl,h1,rfl⟩
  ·rw[ep]at hz;rcases List.mem_append.mp hz with hz|hz
   ·exact r'.sw z hz
   ·have:z=(lo,n,0):=by simpa using hz
    subst this;exact r'.tl
 unfold Qy;refine wpS_bind (wpS_get ?_);cases e:(ZJ st).back? with
 |none=>exact wpS_bind (wpS_modify (ZU (q _ (push _ r))))
 |some z=>
  obtain⟨z1,z2,z3⟩:=z;dsimp only;refine wpS_bind (Lx C r Mm fun dR r2=>?_);dsimp only;refine wpS_bind (wpS_modify (wpS_bind (wpS_modify (ZU (q _ (push _ ?_))))));have ep:(ZJ (Vf (power' N (2*z1+z2) (2*z1+z2+z2+n) N) dR)).toList=(ZJ dR).toList.modify ((ZJ dR).size-1) fun(p,l,_)=>(p,l,power' N (2*z1+z2) (2*z1+z2+z2+n) N):=by
   show((ZJ dR).modify _ _).toList=_;simp
  refine⟨⟨r2.b.pm,r2.b.kd,r2.b.fl⟩,?_,fun z hz=>?_,r2.tl⟩
  ·rw[ep];refine Ch.mod ?_ r2.ch;exact fun _=>⟨rfl,rfl⟩
  ·rw[ep]at hz;rcases BQ hz with hz|⟨x,h1,h2⟩
   ·exact r2.sw z hz
   ·rw[h2];exact r2.sw x h1
theorem Ly{st:SortSt}{N:Nat}{Q:Option Unit×Unit→SortSt→Prop}(hN:N=X.length)(h0:0<N)(r:RI X κ lt st N 0)(q:∀aT,SB X κ aT→Sw lt (WJ aT) 0 N→Q (none,()) aT):wpS (model prog w) A E s (SV N) Q st:=by
 have one:∀aT,RI X κ lt aT N 0→(ZJ aT).size≤1→Q (none,()) aT:=fun aT r' hs=>by
  have ch:=r'.ch;have sw:=r'.sw;cases e:(ZJ aT).toList with
  |nil=>rw[e]at ch;have:0=N:=ch;lia
  |cons x l=>
   have hl:l=[]:=by
    have:=congrArg List.length e;simp at this;exact List.length_eq_zero_iff.mp Mm
   subst hl;rw[e]at ch sw;obtain⟨c1,c2,c3⟩:=ch;have c3:0+x.2.1=N:=c3;have:=sw x (Wv);rw[c1,c3]at this;exact q aT r'.b this
 unfold SV;refine wpS_forRange (I:=fun x c aT=>c=(none,())∧RI X κ lt aT N 0∧((ZJ aT).size+x≤N∨(ZJ aT).size≤1)) ?_ ?_ ⟨rfl,r, .inl ?_⟩
 ·rintro x c aT _ hx ⟨rfl,r',hs⟩;refine wpS_bind (wpS_get ?_);by_cases h1:(ZJ aT).size≤1
  ·rw[U6 h1];exact ZU (one aT r' h1)
  ·rw[Sn h1];refine wpS_bind (Jp C r' Mm ?_ fun dR r2 Kh=>?_)
   ·have key:∀c:Bool,(if c=true then(ZJ aT).size-2-1 else(ZJ aT).size-2)+1<(ZJ aT).size:=fun c=>by cases c<;>simp<;>lia
    exact key _
   ·rw[if_neg V9];exact ZU ⟨rfl,r2,by lia⟩
 ·rintro c aT ⟨rfl,r',hs⟩;exact one aT r' (by rcases hs with hs|hs<;>lia)
 ·have:=r.ch.all.1;simp at this
  lia
theorem Lz{st:SortSt}{Q:Unit→SortSt→Prop}(h0:0<X.length)(b:SB X κ st)(hp:pendingOf st=#[])(q:∀aT,SB X κ aT→Sw lt (WJ aT) 0 X.length→Q () aT):wpS (model prog w) A E s sortRuns' Q st:=by
 rw[HE];refine wpS_bind (wpS_get ?_);rw[b.size];refine wpS_bind (wpS_mono (wpS_forRange (I:=fun x c aT=>∃lo,c=(none,lo)∧RI X κ lt aT lo 0∧lo≤X.length∧x≤lo) (Q:=fun c aT=>c.1=none∧RI X κ lt aT X.length 0) ?_ ?_ ⟨0,rfl,⟨b,by rw[hp];rfl,(fun q hq=>by rw[hp]at hq;cases hq),fun i j a b c=>by lia⟩,by lia,by lia⟩) ?_)
 ·rintro x c aT _ hx ⟨lo,rfl,r,Mv,S9⟩;dsimp only;by_cases h1:lo≥X.length
  ·rw[U6 h1];have:lo=X.length:=by lia
   subst this;exact ZU ⟨rfl,r⟩
  ·rw[Sn h1];refine wpS_bind (Oy C r.b Mm (by lia) fun m dR b2 zZ QB m1 m2 QC=>?_);dsimp only;have r2:RI X κ lt dR lo m:=⟨b2,by rw[zZ];exact r.ch,fun z hz=>by
    rw[zZ]at hz;have:=r.ch.all.2 z hz;exact(r.sw z hz).congr fun t _ h2=>QB t (by lia),QC⟩
   by_cases h2:m<minRun' X.length X.length 0
   ·rw[U6 h2];refine wpS_bind (wpS_lift (wpAny_rule ⟨rfl,?_⟩));refine wpS_bind (Oz C b2 (n:=min (X.length-lo) (minRun' X.length X.length 0)) (by lia) m1 Mm QC fun DX b3 QD Xv Xw=>?_);rw[if_neg V9];refine Ff C ⟨b3,by rw[QD,zZ];exact r.ch,fun z hz=>?_,Xw⟩ Mm (by lia) fun Qj r4=>⟨_,rfl,r4,by lia,by lia⟩
    rw[QD]at hz;have:=r2.ch.all.2 z hz;exact(r2.sw z hz).congr fun t _ h2=>Xv t (by lia)
   ·rw[Sn h2];exact Ff C r2 m1 Mm fun Qj r4=>⟨_,rfl,r4,by lia,by lia⟩
 ·rintro c aT ⟨lo,rfl,r,Mv,S9⟩;have:lo=X.length:=by lia
  subst this;exact⟨rfl,r⟩
 ·rintro⟨c1,c2⟩ aT ⟨e,r⟩;dsimp only at e⊢;subst e;exact wpS_bind (Ly C rfl h0 r fun dR b2 QC=>ZU (q dR b2 QC))
end
open Classical in
noncomputable def Fg(X:List Keyed)(x:Keyed):Nat:=if h:∃i:Nat,X[i]?=some x then Classical.choose h else 0
theorem nK{X:List Keyed}{x:Keyed}(h:x∈X):X[Fg X x]?=some x:=by
 have h':∃i:Nat,X[i]?=some x:=List.mem_iff_getElem?.mp h;unfold Fg;rw[dif_pos h'];exact Classical.choose_spec h'
theorem LA{X:List Keyed}(nd:X.Nodup){i:Nat}{x:Keyed}(h:X[i]?=some x):Fg X x=i:=by
 have:=nK (ZO h);exact(List.getElem?_inj (Z' this).1 nd).mp (this.trans h.symm)
theorem nL{X:List Keyed}{x:Keyed}(h:x∈X):Fg X x<X.length:=(Z' (nK h)).1
section
variable{prog:Program}{w:World}{A:Around}{E:Value→Shared→Prop}{s:Shared}{X:List Keyed}{κ:SortKind}{lt:Nat→Nat→Bool}
theorem HH{st:SortSt}{Q:Unit→SortSt→Prop}(nd:X.Nodup)(h0:0<X.length)(L:Ap X.length lt)(ha:(WJ st).toList=X)(hk:kindOf st=κ)(hp:pendingOf st=#[])(hf:failedOf st=none)
  (hc:∀i j x y,X[i]?=some x→X[j]?=some y→∀C:Bool→Shared→Prop,C (lt i j) s→wpAny (model prog w) A (keyLt' κ x.1 y.1) C (fun _ _=>False) s)
  (q:∀p aT,yd X.length p→Sd lt p X.length→(WJ aT).toList=p.toList.map (fun i=>X.getD i (.none, .none))→failedOf aT=none→Q () aT):wpS (model prog w) A E s sortRuns' Q st:=by
 have C:EZ prog w A s X κ fun x y=>lt (Fg X x) (Fg X y):=by
  refine⟨fun x hx y hy=>hc _ _ x y (nK hx) (nK hy),fun x hx y hy z hz=>L.tr _ _ _ (nL hx) (nL hy) (nL hz),fun x hx y hy=>L.as _ _ (nL hx) (nL hy),fun x hx y hy hn=>L.SD _ _ (nL hx) (nL hy) fun e=>hn ?_,nd⟩;have h1:=nK hx;rw[e,nK hy]at h1;exact(ZV h1).symm
 refine Lz C h0 ⟨by rw[ha],hk,hf⟩ hp fun aT b sw=>?_
 have mem:∀x∈(WJ aT).toList,x∈X:=fun x hx=>b.pm.mem_iff.mp hx
 refine q ((WJ aT).map (Fg X)) aT ?_ (fun i j uC hj=>?_) ?_ b.fl
 ·unfold yd;rw[Array.toList_map];have h1:=b.pm.map (Fg X);have h2:X.map (Fg X)=List.range X.length:=by
   apply List.ext_getElem
   ·simp
   ·intro i h1 h2;simp only[List.getElem_map,List.getElem_range];exact LA nd (by simp at h1;simp[h1])
  rw[h2]at h1;exact h1
 ·have:=sw i j (Nat.zero_le _) uC hj;have g:∀k,k<X.length→gd ((WJ aT).map (Fg X)) k=Fg X (gg (WJ aT) k):=fun k hk=>by
   have EL:k<(WJ aT).size:=by rw[b.size];exact hk
   rw[EY,oW];simp[EL]
  rw[g i Mm,g j hj];exact this
 ·rw[Array.toList_map,List.map_map]
  conv=>lhs;rw[←List.map_id (WJ aT).toList]
  apply List.map_congr_left;intro x hx;have:=nK (mem x hx);simp[List.getD_eq_getElem?_getD,this]
theorem BR{ks vs:List Value}(hl:ks.length=vs.length)(h0:0<vs.length)(L:Ap vs.length lt)(nd:ks.Nodup)
  (hc:∀i j,i<vs.length→j<vs.length→∀C:Bool→Shared→Prop,C (lt i j) s→wpAny (model prog w) A (keyLt' κ (ks.getD i .none) (ks.getD j .none)) C (fun _ _=>False) s):
  wpAny (model prog w) A ((sortRuns').run (SortSt.mk' κ (ks.toArray.zip vs.toArray) #[] 7 none)) (fun r s'=>∃p:Array Nat,s'=s∧yd vs.length p∧Sd lt p vs.length∧arrOf r.2=p.map (kas_item (ks.toArray.zip vs.toArray))∧failedOf r.2=none) E s:=by
 have hz:(ks.zip vs).length=vs.length:=by rw[List.length_zip];lia
 have ea:(ks.toArray.zip vs.toArray).toList=ks.zip vs:=Wv;have Xx:(ks.zip vs).Nodup:=by
  refine List.pairwise_iff_getElem.mpr fun i j hi hj uC e=>?_
  rw[List.getElem_zip,List.getElem_zip]at e;have:=(List.getElem_inj nd).mp (Prod.mk.inj e).1
  lia
 have run:=HH (prog:=prog) (w:=w) (A:=A) (E:=E) (s:=s) (X:=ks.zip vs) (κ:=κ) (lt:=lt) (st:=SortSt.mk' κ (ks.toArray.zip vs.toArray) #[] 7 none) (Q:=fun _ aT=>∃p:Array Nat,yd vs.length p∧Sd lt p vs.length∧arrOf aT=p.map (kas_item (ks.toArray.zip vs.toArray))∧failedOf aT=none) Xx Mm (by rw[hz];exact L) ea rfl rfl rfl (fun i j x y hx hy C h=>?_) fun p aT h1 h2 h3 h4=>⟨p,by rw[←hz];exact h1,by rw[←hz];exact h2,?_,h4⟩
 ·unfold wpS at run;refine wpAny_mono run (fun r s' ⟨h1,p,h2⟩=>⟨p,h1,h2⟩) fun _ _ e=>e
 ·obtain⟨x1,x2⟩:=x;obtain⟨y1,y2⟩:=y;have hi:=(Z' hx).1;have hj:=(Z' hy).1;rw[hz]at hi hj;obtain⟨e1,_⟩:=List.getElem?_zip_eq_some.mp hx;obtain⟨e2,_⟩:=List.getElem?_zip_eq_some.mp hy;have:=hc i j hi hj C h;simpa[List.getD_eq_getElem?_getD,e1,e2]using this
 ·apply Array.toList_inj.mp;rw[h3,Array.toList_map];apply List.map_congr_left;intro i _;unfold kas_item;rw[Array.getD_eq_getD_getElem?,←Array.getElem?_toList,ea,List.getD_eq_getElem?_getD]
end
def Kp(a:Addr)(h h':Heap):Prop:=∀b o,b≠a→h.get? b=some o→h'.get? b=some o
section
variable{prog:Program}{w:World}{A:Around}{E:Value→Shared→Prop}{s:Shared}
theorem CU{a:Addr}{vs:List Value}{n:Nat}{κ:SortKind}{lt:Nat→Nat→Bool}{P:PySem.Fin→Shared→Prop}(ho:s.heap.get? a=some (seqObj "list" vs.toArray n))(h2:2≤vs.length)(Fh:vs.length<10000)(OC:vs.Nodup)(L:Ap vs.length lt)
  (hk:∀s',Kp a s.heap s'.heap→∀Q':SortKind→Shared→Prop,Q' κ s'→wpAny (model prog w) A (keyKind' vs.toArray) Q' (fun _ _=>False) s')
  (hc:∀i j,i<vs.length→j<vs.length→∀s',Kp a s.heap s'.heap→∀C:Bool→Shared→Prop,C (lt i j) s'→wpAny (model prog w) A (keyLt' κ (vs.getD i .none) (vs.getD j .none)) C (fun _ _=>False) s')
  (h:∀p h' c,yd vs.length p→Sd lt p vs.length→Kp a s.heap h'→h'.get? a=some (seqObj "list" (List.toArray (p.toList.map fun i=>vs.getD i Value.none)) c)→P (.done (.ret .none)) {s with heap:=h'}):
  wpAny (model prog w) A (Builtin.«list.sort» ⟨[.ref a],[]⟩) P E s:=by
 have s1:=Heap.SameBut.update s.heap a (Obj.mapSeq fun _=>(#[]:Array Value));obtain⟨e1,HI⟩:∃e1,(δ a).get? a=some (seqObj "list" #[] e1):=⟨_,get?_update_seq ho fun _=>#[]⟩
 rw[list_sort_plain];refine wpAny_bind (listItems_at ho rfl (ZX (listUpdate_at ho rfl ?_ (by rw[List.size_toArray,sizeLine_eq];lia) (Nat.zero_le _))));refine wpAny_bind (υ HI);generalize hh:(((δ a).push {cls:= .type "tuple",data:= .seq vs.toArray 0}).push {cls:= .type "list",data:= .seq #[] 0})=h3;have k3:Kp a s.heap h3:=fun b o hb e=>by
  rw[←hh];exact Zp (Zp ((s1.2 b hb).trans e))
 have LB:h3.get? a=some (seqObj "list" #[] e1):=by
  rw[←hh];exact Zp (Zp HI)
 show wpAny (model prog w) A _ P E {s with heap:=h3};dsimp only;have ya:¬vs.toArray.size<2:=by rw[List.size_toArray];lia
 rw[Sn ya,Sn ya];refine wpAny_bind (wpAny_mono (hk {s with heap:=h3} k3 (fun QE s'=>QE=κ∧s'={s with heap:=h3}) ⟨rfl,rfl⟩) ?_ fun _ _ x=>x.elim);rintro _ _ ⟨rfl,rfl⟩;refine wpAny_bind (wpAny_mono (BR (lt:=lt) rfl (by lia) L OC fun i j hi hj C hC=>hc i j hi hj {s with heap:=h3} k3 C hC) ?_ fun _ _ e=>e);rintro⟨⟨⟩,aT⟩ s' ⟨p,rfl,hp,hs,S_,hf⟩;dsimp only;rw[kat_snds rfl S_];have hsz:(List.toArray (p.toList.map fun i=>vs.getD i Value.none)).size=vs.length:=by rw[List.size_toArray,List.length_map,Array.length_toList,hp.size]
 have s2:=Heap.SameBut.update h3 a (Obj.mapSeq fun _=>List.toArray (p.toList.map fun i=>vs.getD i Value.none));obtain⟨c2,uB⟩:∃c2,(h3.update a (Obj.mapSeq fun _=>List.toArray (p.toList.map fun i=>vs.getD i Value.none))).get? a=some (seqObj "list" (List.toArray (p.toList.map fun i=>vs.getD i Value.none)) c2):=⟨_,get?_update_seq LB fun _=>List.toArray (p.toList.map fun i=>vs.getD i Value.none)⟩
 refine wpAny_bind (seqEpoch_at (s:={s with heap:=h3}) LB rfl (ZX (listUpdate_at (s:={s with heap:=h3}) LB rfl ?_ (Nat.zero_le _) (Nat.le_trans (Nat.le_of_eq hsz) (by rw[sizeLine_eq];lia)))));rw[hf];simp only[bne_self_eq_false,Bool.false_eq_true,if_false];exact ZL (h p _ c2 hp hs (fun b o hb e=>(s2.2 b hb).trans (k3 b o hb e)) uB)
theorem yV{a:Addr}{vs:List Value}{n:Nat}{P:PySem.Fin→Shared→Prop}(ho:s.heap.get? a=some (seqObj "list" vs.toArray n))(h2:vs.length<2)
  (h:∀h' c,Kp a s.heap h'→h'.get? a=some (seqObj "list" vs.toArray c)→P (.done (.ret .none)) {s with heap:=h'}):
  wpAny (model prog w) A (Builtin.«list.sort» ⟨[.ref a],[]⟩) P E s:=by
 have s1:=Heap.SameBut.update s.heap a (Obj.mapSeq fun _=>(#[]:Array Value));obtain⟨e1,HI⟩:∃e1,(δ a).get? a=some (seqObj "list" #[] e1):=⟨_,get?_update_seq ho fun _=>#[]⟩
 rw[list_sort_plain];refine wpAny_bind (listItems_at ho rfl (ZX (listUpdate_at ho rfl ?_ (by rw[List.size_toArray,sizeLine_eq];lia) (Nat.zero_le _))));refine wpAny_bind (υ HI);generalize hh:(((δ a).push {cls:= .type "tuple",data:= .seq vs.toArray 0}).push {cls:= .type "list",data:= .seq #[] 0})=h3;have k3:Kp a s.heap h3:=fun b o hb e=>by
  rw[←hh];exact Zp (Zp ((s1.2 b hb).trans e))
 have LB:h3.get? a=some (seqObj "list" #[] e1):=by
  rw[←hh];exact Zp (Zp HI)
 show wpAny (model prog w) A _ P E {s with heap:=h3};dsimp only;have ya:vs.toArray.size<2:=by rw[List.size_toArray];lia
 rw[U6 ya,U6 ya];refine wpAny_bind (ZL (ZX (ZL ?_)));dsimp only;have Td:(WJ (SortSt.mk' general' (vs.toArray.zip vs.toArray) #[] 7 none)).map (·.2)=vs.toArray:=by
  show(vs.toArray.zip vs.toArray).map (·.2)=vs.toArray;apply Array.toList_inj.mp;rw[Array.toList_map,Array.toList_zip];exact List.map_snd_zip Zn
 have s2:=Heap.SameBut.update h3 a (Obj.mapSeq fun _=>vs.toArray);obtain⟨c2,uB⟩:∃c2,(h3.update a (Obj.mapSeq fun _=>vs.toArray)).get? a=some (seqObj "list" vs.toArray c2):=⟨_,get?_update_seq LB fun _=>vs.toArray⟩
 rw[Td];refine wpAny_bind (seqEpoch_at (s:={s with heap:=h3}) LB rfl (ZX (listUpdate_at (s:={s with heap:=h3}) LB rfl ?_ (Nat.zero_le _) (by rw[List.size_toArray,sizeLine_eq];lia))));simp only[bne_self_eq_false,Bool.false_eq_true,if_false];exact ZL (h _ c2 (fun b o hb e=>(s2.2 b hb).trans (k3 b o hb e)) uB)
theorem Ax{l:Addr}{vs:List Value}{κ:SortKind}{lt:Nat→Nat→Bool}{Q:Value→Shared→Prop}(hl:s.heap.IsList l vs.toArray)(Fh:vs.length<10000)(OC:vs.Nodup)(L:Ap vs.length lt)
  (hk:2≤vs.length→∀s',(∀b o,s.heap.get? b=some o→s'.heap.get? b=some o)→∀Q':SortKind→Shared→Prop,Q' κ s'→wpAny (model prog w) A.in1.in1 (keyKind' vs.toArray) Q' (fun _ _=>False) s')
  (hc:∀i j,i<vs.length→j<vs.length→∀s',(∀b o,s.heap.get? b=some o→s'.heap.get? b=some o)→∀C:Bool→Shared→Prop,C (lt i j) s'→wpAny (model prog w) A.in1.in1 (keyLt' κ (vs.getD i .none) (vs.getD j .none)) C (fun _ _=>False) s')
  (h:∀p h' D c,yd vs.length p→Sd lt p vs.length→(∀b o,s.heap.get? b=some o→h'.get? b=some o)→s.heap.objs.size≤D→h'.get? D=some (seqObj "list" (List.toArray (p.toList.map fun i=>vs.getD i Value.none)) c)→Q (.ref D) {s with heap:=h'}):
  wpAny (model prog w) A (call (.builtin "sorted") [.ref l]) Q E s:=by
 refine Calls.call_function_entry kind_sorted plain_sorted entry_sorted (args_sorted1 _) ?_;unfold Builtin.«sorted»;refine wpAny_bind (m:=checkCount "sorted" 1 1 _) (ZL (ZX (collect_list hl (ZX (wpAny_newList ?_ (by rw[sizeLine_eq];lia))) (by rw[sizeLine_eq];lia))));generalize hh:((s.heap.push (seqObj "list" #[] 0)).update s.heap.objs.size (Obj.mapSeq (·++vs.toArray)))=h1;have hsz:h1.objs.size=s.heap.objs.size+1:=by rw[←hh,Heap.size_update,size_push']
 have keep:∀b o,s.heap.get? b=some o→(h1.push (seqObj "list" vs.toArray 0)).get? b=some o:=fun b o q=>by
  have gR:b<s.heap.objs.size:=Zm q;rw[Heap.get?_push_ne _ _ _ (by rw[hsz];exact Nat.ne_of_lt (Nat.lt_succ_of_lt gR)),←hh,Heap.get?_update_ne _ _ _ _ (Nat.ne_of_lt gR),Heap.get?_push_ne _ _ _ (Nat.ne_of_lt gR)];exact q
 have IE:(h1.push (seqObj "list" vs.toArray 0)).get? h1.objs.size=some (seqObj "list" vs.toArray 0):=Heap.get?_push_size _ rfl;have Jq:∀h',Kp h1.objs.size (h1.push (seqObj "list" vs.toArray 0)) h'→∀b o,s.heap.get? b=some o→h'.get? b=some o:=fun h' k b o q=>k b o (by have:=Heap.lt_size q;rw[hsz];exact Nat.ne_of_lt (Nat.lt_succ_of_lt this)) (keep b o q)
 show wpAny _ _ _ _ _ {s with heap:=h1.push (seqObj "list" vs.toArray 0)};refine wpAny_bind (wpAny_holding (wpAny_call_entry slot_list_sort ⟨_,IE,rfl⟩ entry_list_sort ?_ (args_list_sort _)));by_cases h2:2≤vs.length
 ·refine CU (s:={s with heap:=h1.push (seqObj "list" vs.toArray 0)}) (lt:=lt) IE h2 Fh OC L (fun s' k Q' q=>hk h2 s' (Jq _ k) Q' q) (fun i j hi hj s' k C q=>hc i j hi hj s' (Jq _ k) C q) fun p h' c hp hs k e=>?_
  exact⟨_,rfl,ZL ⟨_,rfl,h p h' _ c hp hs (Jq _ k) (by rw[show({s with heap:=h1}:Shared).heap.objs.size=h1.objs.size from rfl,hsz];exact Nat.le_succ _) e⟩⟩
 ·refine yV (s:={s with heap:=h1.push (seqObj "list" vs.toArray 0)}) IE Mm fun h' c k e=>?_
  have hp:yd vs.length (List.toArray (Zj vs.length)):=by unfold yd;simp
  refine⟨_,rfl,ZL ⟨_,rfl,h _ h' _ c hp (fun i j uC hj=>by lia) (Jq _ k) (by rw[show({s with heap:=h1}:Shared).heap.objs.size=h1.objs.size from rfl,hsz];exact Nat.le_succ _) ?_⟩⟩;rw[e]
  congr 2
  match vs,h2 with
  |[],_=>rfl
  |[x],_=>rfl
  |x::y::r,h=>simp at h
end
def jD(p q:Int×Int):Bool:=if p.1=q.1 then decide (p.2<q.2)else decide (p.1<q.1)
theorem Fi{p q r:Int×Int}(a:jD p q=true)(b:jD q r=true):jD p r=true:=by
 unfold jD at*;split at a<;>split at b<;>split<;>simp_all<;>lia
theorem Ay{p q:Int×Int}(a:jD p q=true):jD q p=false:=by
 unfold jD at*;split at a<;>split<;>simp_all<;>lia
theorem BS{p q:Int×Int}(h:p≠q):jD p q=true∨jD q p=true:=by
 unfold jD;by_cases e:p.1=q.1
 ·have:p.2≠q.2:=fun z=>h (Prod.ext e z)
  simp[e];lia
 ·have e':¬q.1=p.1:=fun z=>e z.symm
  simp[e,e'];lia
section
variable{prog:Program}{w:World}{A:Around}{E:Value→Shared→Prop}{s:Shared}
def rT(h:Heap)(x:Addr)(p:Int×Int):Prop:=∃o t u n,h.get? x=some o∧o.cls= .type "tuple"∧o.data= .seq #[.int p.1 t, .int p.2 u] n
theorem HJ{x y:Addr}{p q:Int×Int}{C:Bool→Shared→Prop}(hx:rT s.heap x p)(hy:rT s.heap y q)(h:C (jD p q) s):wpAny (model prog w) A (keyLt' (tuples' true) (.ref x) (.ref y)) C E s:=by
 obtain⟨ox,t,u,n,h1,h2,h3⟩:=hx;obtain⟨oy,t',u',n',g1,g2,g3⟩:=hy;refine kat_lt h1 h3 g1 g3 (kat_cons ?_);have e0:SeqAt.EqAt A s (.int p.1 t) (.int q.1 t') (nF (.int p.1) (.int q.1)):=sV ⟨t,rfl⟩ ⟨t',rfl⟩ rfl rfl;have e1:SeqAt.EqAt A s (.int p.2 u) (.int q.2 u') (nF (.int p.2) (.int q.2)):=sV ⟨u,rfl⟩ ⟨u',rfl⟩ rfl rfl;refine e0 _ _ _ _ ?_;by_cases a:p.1=q.1
 ·have:nF (.int p.1) (.int q.1)=true:=by simp[nF,a]
  rw[this];refine kat_yes (kat_cons (e1 _ _ _ _ ?_));by_cases b:p.2=q.2
  ·have:nF (.int p.2) (.int q.2)=true:=by simp[nF,b]
   rw[this];refine kat_yes (kat_nil ?_);have:jD p q=decide (#[Value.int p.1 t, .int p.2 u].size<#[Value.int q.1 t', .int q.2 u'].size):=by simp[jD,a,b]
   rw[this]at h;exact h
  ·have:nF (.int p.2) (.int q.2)=false:=by simp[nF,b]
   rw[this];refine kat_no (kat_one _ _ (lt_int ?_));have:jD p q=decide (p.2<q.2):=by simp[jD,a]
   rw[this]at h;exact h
 ·have:nF (.int p.1) (.int q.1)=false:=by simp[nF,a]
  rw[this];refine kat_no (oneLt_int ?_);have:jD p q=decide (p.1<q.1):=by simp[jD,a]
  rw[this]at h;exact h
theorem vS{h:Heap}:∀{its:List Value},(∀v∈its,∃x p,v= .ref x∧rT h x p)→∃fs,KatTups h its fs∧fs.length=its.length∧∀f∈fs,∃i t,f=Value.int i t
 |[],_=>⟨[], .nil,rfl,fun f hf=>by cases hf⟩
 |v::r,hv=>by
  obtain⟨x,p,rfl,o,t,u,n,h1,h2,h3⟩:=hv v (List.mem_cons_self ..);obtain⟨fs,k1,k2,k3⟩:=vS (its:=r) fun v NA=>hv v (Η NA)
  refine⟨.int p.1 t::fs, .cons h1 h2 h3 rfl k1,by simp[k2],fun f hf=>?_⟩;rcases List.mem_cons.mp hf with rfl|hf
  ·exact⟨_,_,rfl⟩
  ·exact k3 f hf
theorem CV{its:List Value}{Q:SortKind→Shared→Prop}(eX:0<its.length)(hv:∀v∈its,∃x p,v= .ref x∧rT s.heap x p)(h:Q (tuples' true) s):wpAny (model prog w) A (keyKind' its.toArray) Q E s:=by
 obtain⟨fs,k1,k2,k3⟩:=vS hv;refine kat_kind (T:= .type "int") k1 Mm (fun v hv=>?_) (U7) h;obtain⟨i,t,rfl⟩:=k3 v hv;exact .now
end
theorem yW{l:List Nat}{f:Nat→V}{g:Nat→Value}(h:∀i∈l,RelV (f i) (g i)):Vals (l.map f) (l.map g):=by
 induction l with
 |nil=>exact .nil
 |cons i r ih=>exact .cons (h i (List.mem_cons_self ..)) (ih fun j hj=>h j (Η hj))
end L2
namespace QF
open PySem L2 PySem.Spec PyProof.Rows PySem.W PySem.Calls
inductive Fj(K:Frag)(vs:List V)(H:Hp)(Q:VK):Prop
 |mk (l:Addr) (xs:List V) (ps:List Pr) (_:vs=[.ref l]) (_:iE K H l xs) (_:gK H xs ps) (_:ps.Nodup) (_:ps.length<10000) (_:∀D ys qs,H D=none→gK H ys qs→qs.Perm ps→qs.Pairwise (fun p q=>jD p q=true)→Q (.ref D) (upd H D (.lst ys))):Fj K vs H Q
theorem Az{X:Cx}(K:Frag)(hK:X.K=K:=by rfl):i6 X (.builtin "sorted") (Fj K):=by
 subst hK;intro pins s σ H vs us Q I r h;obtain⟨l,xs,ps,rfl,hq,PS,nd,Fh,q⟩:=h;obtain⟨u,rfl,rx⟩:=vals1 r;cases rx;obtain⟨its,r',pl,hz⟩:=I.list hq;have hlen:=r'.length;have rA:=PS.1;have key:∀i,i<its.length→∃t,xs[i]?=some (.ref t)∧its[i]?=some (.ref t)∧H t=some (.tup (jA (ps.getD i (0,0))))∧rT s.heap t (ps.getD i (0,0)):=fun i hi=>by
  have hp:ps[i]?=some (ps.getD i (0,0)):=by simp[show i<ps.length by lia]
  obtain⟨t,h1,h2⟩:=PS.2 i _ hp;obtain⟨v,h3,h4⟩:=r'.get h1;cases h4;refine⟨t,h1,h3,h2,?_⟩;obtain⟨Zs,r2,⟨o,e1,e2,n,e3⟩,_⟩:=I.tuple (xs:=jA (ps.getD i (0,0))) (.of h2);cases r2 with
  |cons a b=>
   cases b with
   |cons c d=>
    cases d;obtain⟨ta,rfl⟩:=a;obtain⟨tc,rfl⟩:=c;exact⟨o,ta,tc,n,e1,e2,e3⟩
 have Jq:∀{h':Heap},(∀b o,s.heap.get? b=some o→h'.get? b=some o)→∀{x p},rT s.heap x p→rT h' x p:=fun k _ _ ⟨o,t,u,n,a,b⟩=>⟨o,t,u,n,k _ _ a,b⟩
 have L:Ap its.length fun i j=>jD (ps.getD i (0,0)) (ps.getD j (0,0)):=by
  refine⟨fun i j k _ _ _ a b=>Fi a b,fun i j _ _ a=>Ay a,fun i j hi hj eX=>BS fun e=>eX ?_⟩;have e:ps[i]?=ps[j]?:=by
   rw[Θ Mm,Θ Mm];simpa[show i<ps.length by lia,show j<ps.length by lia]using e
  exact(List.getElem?_inj Mm nd).mp e
 have OC:its.Nodup:=by
  refine List.pairwise_iff_getElem.mpr fun i j hi hj uC e=>?_
  obtain⟨t1,_,a2,a3,_⟩:=key i hi;obtain⟨t2,_,b2,b3,_⟩:=key j hj;rw[Θ hi]at a2;rw[Θ hj,←e,a2]at b2;cases b2;rw[a3]at b3;have h1:ps[i]?=some (ps.getD i (0,0)):=by simp[show i<ps.length by lia]
  have h2:ps[j]?=some (ps.getD j (0,0)):=by simp[show j<ps.length by lia]
  have e9:ps.getD i (0,0)=ps.getD j (0,0):=by
   have:=HO.tup.inj (ZV b3);simp only[jA,List.cons.injEq,V.int.injEq,and_true]at this;exact Prod.ext this.1 this.2
  have:=(List.getElem?_inj Mm nd).mp (h1.trans (by rw[e9];exact h2.symm))
  lia
 refine Ax (κ:=tuples' true) pl.isList Mm OC L (fun h2 s' k Q' hq=>?_) (fun i j hi hj s' k C hC=>?_) fun p h' D c hp hs k hD e=>?_
 ·refine CV Mm (fun v hv=>?_) hq;obtain⟨i,hi,rfl⟩:=List.mem_iff_getElem.mp hv;obtain⟨t,_,h3,_,h5⟩:=key i hi;exact⟨t,_,by rw[Θ hi]at h3;exact ZV h3,Jq k h5⟩
 ·obtain⟨t,_,h3,_,h5⟩:=key i hi;obtain⟨t',_,g3,_,g5⟩:=key j hj;have e1:its.getD i .none= .ref t:=by simp[h3]
  have e2:its.getD j .none= .ref t':=by simp[g3]
  rw[e1,e2];exact HJ (Jq k h5) (Jq k g5) hC
 ·have mem:∀i∈p.toList,i<its.length:=fun i hi=>by
   have:=hp.mem_iff.mp hi;simpa using this
  have rel:Vals (p.toList.map fun i=>xs.getD i .cK) (p.toList.map fun i=>its.getD i Value.none):=yW fun i hi=>by
   obtain⟨t,h1,h3,_⟩:=key i (mem i hi);have e1:xs.getD i .cK= .ref t:=by simp[h1]
   have e2:its.getD i .none= .ref t:=by simp[h3]
   rw[e1,e2];rfl
  have hsz:(p.toList.map fun i=>xs.getD i V.cK).length=its.length:=by rw[List.length_map,Array.length_toList,hp.size]
  have LC:(p.toList.map fun i=>ps.getD i (0,0)).length=its.length:=by rw[List.length_map,Array.length_toList,hp.size]
  refine⟨.ref D,_,I.laid (t':=s.toks) k hD (show cQ X.prog X.w _ h' _ (.lst _)from⟨by rw[hsz,←hlen];exact hz,_,c,rel,e⟩),rfl,q D _ (p.toList.map fun i=>ps.getD i (0,0)) (I.bX.fresh hD) ⟨by rw[hsz,LC],fun i f hf=>?_⟩ ?_ ?_⟩
  ·rw[List.getElem?_map]at hf⊢;cases ei:p.toList[i]? with
   |none=>rw[ei]at hf;cases hf
   |some j=>
    rw[ei]at hf;have hf:ps.getD j (0,0)=f:=ZV hf;obtain⟨t,h1,h3,h4,_⟩:=key j (mem j (ZO ei));refine⟨t,?_,by rw[←hf];exact h4⟩;show some (xs.getD j .cK)=_;simp[h1]
  ·have h1:=hp.map (fun i=>ps.getD i (0,0));refine h1.trans ?_;have:(Zj its.length).map (fun i=>ps.getD i (0,0))=ps:=by
    apply List.ext_getElem?;intro i;rw[List.getElem?_map];by_cases hi:i<its.length
    ·rw[List.getElem?_range hi];simp[show i<ps.length by lia]
    ·rw[List.getElem?_eq_none (by simp;lia),List.getElem?_eq_none Mm];rfl
   rw[this]
  ·rw[List.pairwise_iff_getElem];intro i j hi hj uC;have Br:i<its.length:=by rw[LC]at hi;exact hi
   have Ag:j<its.length:=by rw[LC]at hj;exact hj
   have:=hs i j uC Ag;have DE:=hp.size;simp only[List.getElem_map];have e1:gd p i=p.toList[i]'(by simp;lia):=by simp[gd,show i<p.size by lia]
   have e2:gd p j=p.toList[j]'(by simp;lia):=by simp[gd,show j<p.size by lia]
   rw[e1,e2]at this;exact this
end QF
namespace L2
open PySem PySem.Spec PyProof.Rows PySem.W PySem.Calls
open AutoSeq1 (wpAny_loadPart')
theorem OD{A:Around}{s:Shared}{i j:Int}{t u:Tok}:SeqAt.EqAt A s (.int i t) (.int j u) (decide (i=j)):=by
 have:=sV (A:=A) (s:=s) (y:= .int i) (x:= .int j) ⟨t,rfl⟩ ⟨u,rfl⟩ rfl rfl;simpa[nF,Bool.beq_eq_decide_eq]using this
theorem OE{prog:Program}{w:World}{A:Around}{E:Value→Shared→Prop}{s:Shared}{i j:Int}{t u:Tok}{Q:Value→Shared→Prop}(h:Q (.bool (decide (i<j))) s):wpAny (model prog w) A (richCompare .Lt (.int i t) (.int j u)) Q E s:=lt_int h
theorem Fl(l b:Addr)(p q:Int×Int)(t u t' u':Tok)(n n2:Nat)(dd EF:Option Addr)(sl yb:Array (Option Value)):
  Meets (Builtin.«tuple.__lt__» ⟨[.ref l, .ref b],[]⟩) (fun A R s=>s.heap.get? l=some {cls:= .type "tuple",dict:=dd,data:= .seq #[.int p.1 t, .int p.2 u] n,slots:=sl}∧s.heap.get? b=some {cls:= .type "tuple",dict:=EF,data:= .seq #[.int q.1 t', .int q.2 u'] n2,slots:=yb}∧
    R (.ok (.ret (.bool (jD p q)))) s):=
 .of_wp fun prog w A R s h=>by
  obtain⟨hp,g,d,tk,os⟩:=s;obtain⟨hl,hb,h⟩:=h;have f2:=AutoSeq1.sub_tuple_tuple
  wp_walk using wpAny_loadPart' hl,wpAny_loadPart' hb
  refine(show wpAny (model prog w) A.in1 (eqBool (.int p.1 t) (.int q.1 t')) _ _ _ from OD _ _ _ _ ?_);by_cases a:p.1=q.1
  ·rw[decide_eq_true a]
   wp_walk
   refine(show wpAny (model prog w) A.in1 (eqBool (.int p.2 u) (.int q.2 u')) _ _ _ from OD _ _ _ _ ?_);by_cases c:p.2=q.2
   ·rw[decide_eq_true c]
    wp_walk
    have e:jD p q=false:=by simp[jD,a,c]
    rw[e]at h;exact⟨_,rfl,h⟩
   ·rw[decide_eq_false c];have e:jD p q=decide (p.2<q.2):=by simp[jD,a]
    rw[e]at h
    wp_walk using OE
    exact⟨_,rfl,h⟩
  ·rw[decide_eq_false a];have e:jD p q=decide (p.1<q.1):=by simp[jD,a]
   rw[e]at h
   wp_walk using OE
   exact⟨_,rfl,h⟩
theorem AA{prog:Program}{w:World}{A:Around}{E:Value→Shared→Prop}{s:Shared}{x y:Addr}{p q:Int×Int}{Q:Value→Shared→Prop}(hu:A.units<cLine)(hx:rT s.heap x p)(hy:rT s.heap y q)(h:Q (.bool (jD p q)) s):wpAny (model prog w) A (compareOp .Lt (.ref x) (.ref y)) Q E s:=by
 obtain⟨⟨c,dd,da,sl⟩,t,u,n,h1,h2,h3⟩:=hx;obtain⟨⟨c',IS,aaY,Rt⟩,t',u',n',g1,g2,g3⟩:=hy;simp only at h2 h3 g2 g3;subst h2 h3 g2 g3;exact richCompare_meets_room (op:= .Lt) ⟨_,h1,rfl⟩ ⟨_,g1,rfl⟩ F.slot_tuple_lt F.entry_tuple_lt (F.args_tuple_lt_2 _ _) (Fl x y p q t u t' u' n n' dd IS sl Rt) ⟨h1,g1,show Value.bool (jD p q)≠Value.notImplemented∧Q (.bool (jD p q)) s from⟨(fun x=>nomatch x),h⟩⟩ hu
abbrev Kw:=Int×(Int×Int)
def zH(a b:Kw):Bool:=if a.1=b.1 then jD a.2 b.2 else decide (a.1<b.1)
theorem LD{p q r:Kw}(a:zH p q=true)(b:zH q r=true):zH p r=true:=by
 unfold zH at*;by_cases h1:p.1=q.1<;>by_cases h2:q.1=r.1
 ·rw[U6 h1]at a;rw[U6 h2]at b;rw[U6 (h1.trans h2)];exact Fi a b
 ·rw[Sn h2]at b;rw[Sn (by rw[h1];exact h2),h1];exact b
 ·rw[Sn h1]at a;rw[Sn (by rw[←h2];exact h1),←h2];exact a
 ·rw[Sn h1]at a;rw[Sn h2]at b;have a:=of_decide_eq_true a;have b:=of_decide_eq_true b;rw[Sn Mm];exact decide_eq_true Mm
theorem LF{p q:Kw}(a:zH p q=true):zH q p=false:=by
 unfold zH at*;by_cases h1:p.1=q.1
 ·rw[U6 h1]at a;rw[U6 h1.symm];exact Ay a
 ·rw[Sn h1]at a;rw[Sn (fun z=>h1 z.symm)];have a:=of_decide_eq_true a;exact decide_eq_false Mm
theorem HK{p q:Kw}(h:p≠q):zH p q=true∨zH q p=true:=by
 unfold zH;by_cases h1:p.1=q.1
 ·rw[U6 h1,U6 h1.symm];exact BS fun z=>h (Prod.ext h1 z)
 ·rw[Sn h1,Sn (fun z=>h1 z.symm)];rcases Int.lt_or_lt_of_ne h1 with z|z
  ·exact .inl (decide_eq_true z)
  ·exact .inr (decide_eq_true z)
section
variable{prog:Program}{w:World}{A:Around}{E:Value→Shared→Prop}{s:Shared}
def vT(h:Heap)(x:Addr)(k:Kw):Prop:=∃o t y c,h.get? x=some o∧o.cls= .type "tuple"∧o.data= .seq #[.int k.1 t, .ref y] c∧rT h y k.2
theorem CW{x y:Addr}{p q:Int×Int}(hu:A.units+1<cLine)(hx:rT s.heap x p)(hy:rT s.heap y q):SeqAt.EqAt A s (.ref x) (.ref y) (decide (p=q)):=by
 obtain⟨o,t,u,n,h1,h2,h3⟩:=hx;obtain⟨o',t',u',n',g1,g2,g3⟩:=hy;by_cases e:x=y
 ·subst e;rw[h1]at g1;cases g1;rw[h3]at g3;injection g3 with g3 _;have g3:=congrArg Array.toList g3;simp at g3;have:p=q:=Prod.ext g3.1.1 g3.2.1;rw[decide_eq_true this];exact SeqAt.EqAt.same _
 ·have:=SeqAt.EqAt.of_refs e (SeqAt.RcAt.tuples (A:=A) (s:=s) (items:=#[.int p.1 t, .int p.2 u]) (items2:=#[.int q.1 t', .int q.2 u']) (e:=fun j=>if j=0 then decide (p.1=q.1)else decide (p.2=q.2)) ⟨o,h1,h2,n,h3⟩ ⟨o',g1,g2,n',g3⟩ Mm fun j h1 h2=>by
   have:j=0∨j=1:=by simp at h1;lia
   rcases this with rfl|rfl
   ·exact OD
   ·exact OD)
  have e2:((Zj (min #[Value.int p.1 t, .int p.2 u].size #[Value.int q.1 t', .int q.2 u'].size)).all (fun j=>if j=0 then decide (p.1=q.1)else decide (p.2=q.2))&&#[Value.int p.1 t, .int p.2 u].size==#[Value.int q.1 t', .int q.2 u'].size)=decide (p=q):=by
   simp[List.range_succ];by_cases a:p.1=q.1<;>by_cases b:p.2=q.2<;>simp[Prod.ext_iff,a,b]
  rw[e2]at this;exact this
theorem LG{x y:Addr}{p q:Kw}{C:Bool→Shared→Prop}(hu:A.units+1<cLine)(hx:vT s.heap x p)(hy:vT s.heap y q)(h:C (zH p q) s):wpAny (model prog w) A (keyLt' (tuples' true) (.ref x) (.ref y)) C E s:=by
 obtain⟨ox,t,z,n,h1,h2,h3,h4⟩:=hx;obtain⟨oy,t',z',n',g1,g2,g3,g4⟩:=hy;refine kat_lt h1 h3 g1 g3 (kat_cons (OD _ _ _ _ ?_));by_cases a:p.1=q.1
 ·rw[decide_eq_true a];refine kat_yes (kat_cons (CW hu h4 g4 _ _ _ _ ?_));have e:zH p q=jD p.2 q.2:=U6 a;by_cases b:p.2=q.2
  ·rw[decide_eq_true b];refine kat_yes (kat_nil ?_);have:zH p q=decide (#[Value.int p.1 t, .ref z].size<#[Value.int q.1 t', .ref z'].size):=by rw[e,b];simp[jD]
   rw[this]at h;exact h
  ·rw[decide_eq_false b];rw[e]at h;exact kat_no (kat_one _ _ (AA Mm h4 g4 h))
 ·rw[decide_eq_false a];have e:zH p q=decide (p.1<q.1):=Sn a;rw[e]at h;exact kat_no (oneLt_int h)
end
theorem LH{X:Cx}{cm:Bool}{k:Nat}{f:Addr}{fd:FuncData}{ps:List Str}{sp:Sp}{A':Around}{pins:List (Addr×Obj)}{σ:St}{H:Hp}{s:Shared}{Q:VK}{us:List Value}{vs:List V}{E:Value→Shared→Prop}
  (F:a7 X.prog X.w X.K X.mg X.base (cW X.prog X.w) cm k f fd ps sp) (hr:eV cm k A') (hf:A'.frames=X.A.frames) (hb:Binds X.K fd ps []) (I:Inv X pins σ H s) (r:Vals vs us) (h:sp vs H Q E0):
  wpAny (model X.prog X.w) A' (call (.ref f) us) (EP X pins σ Q) E s:=by
 have hl:(us++[]).length=ps.length:=by rw[List.append_nil,←r.length];exact F.len _ _ _ _ h
 have Mz:=hb s us I.qd hl;rw[List.append_nil]at Mz;refine wpAny_call (codeAny_mono (F.run A' X.stack s H ⟨us,[]⟩ us vs Q E0 hr {I.Kk with frames:=by rw[hf];exact I.ok.frames} Mz r h) fun r s' hq=>?_);cases r with
 |error e=>obtain⟨_,_,_,_,_,_,_,_,_,_,_,_,_,h⟩:=hq;exact h.elim
 |ok fl=>
  cases fl with
  |ret u=>exact I.after hq
  |next=>exact False.elim hq
  |brk=>exact False.elim hq
  |cont=>exact False.elim hq
end L2
namespace QF
open PySem L2 PySem.Spec PyProof.Rows PySem.W PySem.Calls
def KQ(H1:Hp)(w:Kw):VK:=fun y H2=>ax H1 H2∧∃k t,y= .ref k∧H2 k=some (.tup [.int w.1, .ref t])∧H2 t=some (.tup [.int w.2.1, .int w.2.2])
def kl(ws:List Kw)(i j:Nat):Bool:=zH (ws.getD i (0,(0,0))) (ws.getD j (0,(0,0)))
def Ks(H:Hp)(ws:List Kw)(as:List Addr):Prop:=∀j k,as[j]?=some k→∃t,H k=some (.tup [.int (ws.getD j (0,(0,0))).1, .ref t])∧H t=some (.tup [.int (ws.getD j (0,(0,0))).2.1, .int (ws.getD j (0,(0,0))).2.2])
theorem Ks.key{X:Cx}{pins:List (Addr×Obj)}{σ:L2.St}{H:Hp}{s:Shared}{ws:List Kw}{as:List Addr}{j:Nat}{k:Addr}(I:Inv X pins σ H s)(h:Ks H ws as)(e:as[j]?=some k):vT s.heap k (ws.getD j (0,(0,0))):=by
 obtain⟨t,h1,h2⟩:=h j k e;obtain⟨its,r,⟨o,e1,e2,n,e3⟩,_⟩:=I.tuple (xs:=[.int (ws.getD j (0,(0,0))).1, .ref t]) (.of h1);obtain⟨its',r',⟨o',g1,g2,n',g3⟩,_⟩:=I.tuple (xs:=[.int (ws.getD j (0,(0,0))).2.1, .int (ws.getD j (0,(0,0))).2.2]) (.of h2);cases r with
 |cons a b=>cases b with
  |cons c d=>
   cases d;obtain⟨ta,rfl⟩:=a;cases c;cases r' with
   |cons a' b'=>cases b' with
    |cons c' d'=>
     cases d';obtain⟨Xy,rfl⟩:=a';obtain⟨Xz,rfl⟩:=c';exact⟨o,ta,t,n,e1,e2,e3,o',Xy,Xz,n',g1,g2,g3⟩
theorem yX{h:Heap}:∀{its:List Value},(∀v∈its,∃x p,v= .ref x∧vT h x p)→∃fs,KatTups h its fs∧fs.length=its.length∧∀f∈fs,∃i t,f=Value.int i t
 |[],_=>⟨[], .nil,rfl,fun f hf=>by cases hf⟩
 |v::r,hv=>by
  obtain⟨x,p,rfl,o,t,u,n,h1,h2,h3,_⟩:=hv v (List.mem_cons_self ..);obtain⟨fs,k1,k2,k3⟩:=yX (its:=r) fun v NA=>hv v (Η NA)
  refine⟨.int p.1 t::fs, .cons h1 h2 h3 rfl k1,by simp[k2],fun f hf=>?_⟩;rcases List.mem_cons.mp hf with rfl|hf
  ·exact⟨_,_,rfl⟩
  ·exact k3 f hf
theorem Fm{prog:Program}{w:World}{A:Around}{E:Value→Shared→Prop}{s:Shared}{its:List Value}{Q:SortKind→Shared→Prop}(eX:0<its.length)(hv:∀v∈its,∃x p,v= .ref x∧vT s.heap x p)(h:Q (tuples' true) s):wpAny (model prog w) A (keyKind' its.toArray) Q E s:=by
 obtain⟨fs,k1,k2,k3⟩:=yX hv;refine kat_kind (T:= .type "int") k1 Mm (fun v hv=>?_) (U7) h;obtain⟨i,t,rfl⟩:=k3 v hv;exact .now
section
variable{X:Cx}{cm:Bool}{k:Nat}{f:Addr}{fd:FuncData}{ps:List Str}{sp:Sp}{A':Around}{pins:List (Addr×Obj)}{σ:L2.St}{H:Hp}{s:Shared}{E:Value→Shared→Prop}{a kS:Addr}{vs:List Value}{xs:List V}{ws:List Kw}{e1:Nat}{P:PySem.Fin→Shared→Prop}
theorem Fn(hu:A'.units+1<cLine)(I:Inv X pins σ H s){kA:Array Value}{e:Nat}{as:List Addr}(hk:s.heap.get? kS=some (seqObj "list" kA e))(ha:s.heap.get? a=some (seqObj "list" #[] e1))(fk:iA X pins H kS)(fa:iA X pins H a)(eX:kS≠a)
  (ek:kA.toList=as.map Value.ref) (el:as.length=vs.length) (K:Ks H ws as) (r:Vals xs vs) (hlen:ws.length=vs.length) (nd:ws.Nodup) (Fh:vs.length<10000)
  (h:∀p s',yd vs.length p→Sd (kl ws) p vs.length→Inv X pins σ (upd H a (.lst (p.toList.map fun i=>xs.getD i .cK))) s'→P (.done (.ret .none)) s'):
  wpAny (model X.prog X.w) A' (ksk_end a false vs.toArray e1 (.ref kS) kA) P E s:=by
 have XA:kA=(as.map Value.ref).toArray:=by apply Array.toList_inj.mp;simpa using ek
 subst XA;have hl:(as.map Value.ref).length=vs.length:=by rw[List.length_map];exact el
 have key:∀i,i<vs.length→∃x,(as.map Value.ref).getD i Value.none= .ref x∧vT s.heap x (ws.getD i (0,(0,0))):=fun i hi=>by
  have hx:as[i]?=some as[i]:=Θ Mm;exact⟨as[i],by simp[show i<as.length by lia],K.key I hx⟩
 have L:Ap vs.length (kl ws):=by
  refine⟨fun i j k _ _ _ a b=>LD a b,fun i j _ _ a=>LF a,fun i j hi hj eX=>HK fun e=>eX ?_⟩;have e:ws[i]?=ws[j]?:=by
   rw[Θ Mm,Θ Mm];simpa[show i<ws.length by lia,show j<ws.length by lia]using e
  exact(List.getElem?_inj Mm nd).mp e
 have tail:∀(st:SortSt)(p:Array Nat),yd vs.length p→Sd (kl ws) p vs.length→(WJ st).map (·.2)=List.toArray (p.toList.map fun i=>vs.getD i Value.none)→failedOf st=none→wpAny (model X.prog X.w) A' (ksk_tail a false e1 (.ref kS) st) P E s:=fun st p hp hs hm hf=>by
  have hsz:(List.toArray (p.toList.map fun i=>vs.getD i Value.none)).size=vs.length:=by rw[List.size_toArray,List.length_map,Array.length_toList,hp.size]
  have s1:=Heap.SameBut.update s.heap kS (Obj.mapSeq fun _=>(#[]:Array Value));have Aw:(δ kS).get? a=some (seqObj "list" #[] e1):=(s1.2 a (Ne.symm eX)).trans ha;have s2:=Heap.SameBut.update (δ kS) a (Obj.mapSeq fun _=>List.toArray (p.toList.map fun i=>vs.getD i Value.none));obtain⟨c2,uB⟩:∃c2,((δ kS).update a (Obj.mapSeq fun _=>List.toArray (p.toList.map fun i=>vs.getD i Value.none))).get? a=some (seqObj "list" (List.toArray (p.toList.map fun i=>vs.getD i Value.none)) c2):=⟨_,get?_update_seq Aw fun _=>List.toArray (p.toList.map fun i=>vs.getD i Value.none)⟩
  unfold ksk_tail
  try dsimp only
  simp only[Bool.false_eq_true,if_false];rw[hm];refine wpAny_bind (listUpdate_at hk rfl (ZX (wpAny_letGo ?_)) (by rw[List.size_toArray,hl,sizeLine_eq];lia) (Nat.zero_le _));refine wpAny_bind (seqEpoch_at (s:={s with heap:=δ kS}) Aw rfl (ZX (listUpdate_at (s:={s with heap:=δ kS}) Aw rfl ?_ (Nat.zero_le _) (Nat.le_trans (Nat.le_of_eq hsz) (by rw[sizeLine_eq];lia)))));rw[hf];simp only[bne_self_eq_false,Bool.false_eq_true,if_false];have hr:=r.length;have mem:∀i∈p.toList,i<vs.length:=fun i hi=>by
   have:=hp.mem_iff.mp hi;simpa using this
  have rel:Vals (p.toList.map fun i=>xs.getD i .cK) (p.toList.map fun i=>vs.getD i Value.none):=yW fun i hi=>by
   have hi:=mem i hi;obtain⟨v,h1,h2⟩:=r.get (i:=i) (x:=xs[i]) (by simp[show i<xs.length by lia]);have e1:xs.getD i .cK=xs[i]:=by simp[show i<xs.length by lia]
   have e2:vs.getD i .none=v:=by simp[h1]
   rw[e1,e2];exact h2
  refine wpAny_pure (h p _ hp hs (I.BB (t':=s.toks) (fp:=[kS,a]) (fun b hb=>?_) fa (fun b o hb e=>?_) ⟨by rw[List.length_map,Array.length_toList,hp.size,sizeLine_eq];lia,_,c2,rel,uB⟩))
  ·simp only[List.mem_cons,List.mem_singleton,List.not_mem_nil,or_false]at hb;rcases hb with rfl|rfl
   ·exact fk
   ·exact fa
  ·simp only[List.mem_cons,List.not_mem_nil,or_false,not_or]at hb;exact(s2.2 b hb.2).trans ((s1.2 b hb.1).trans e)
 unfold ksk_end
 try dsimp only
 simp only[Bool.false_eq_true,if_false];by_cases h2:2≤vs.length
 ·have ya:¬vs.toArray.size<2:=by rw[List.size_toArray];lia
  rw[Sn ya,Sn ya];refine wpAny_bind (wpAny_mono (Fm (Q:=fun QE s'=>QE=tuples' true∧s'=s) (E:=E) (its:=as.map Value.ref) (by lia) (fun v hv=>?_) ⟨rfl,rfl⟩) ?_ fun _ _ x=>x)
  ·obtain⟨i,hi,rfl⟩:=List.mem_iff_getElem.mp hv;obtain⟨x,h3,h5⟩:=key i Mm;exact⟨x,_,by rw[←h3];simp[show i<as.length by simpa using hi],h5⟩
  rintro QE s0 ⟨XB,XC⟩;rw[XB,XC];have OF:(as.map Value.ref).Nodup:=by
   refine List.pairwise_iff_getElem.mpr fun i j hi hj uC e=>?_
   have Br:i<as.length:=by simpa using hi
   have Ag:j<as.length:=by simpa using hj
   have e:as[i]=as[j]:=by simpa using e
   obtain⟨t1,a1,a2⟩:=K i as[i] (Θ Br);obtain⟨t2,b1,b2⟩:=K j as[j] (Θ Ag);rw[←e,a1]at b1;have h1:=HO.tup.inj (ZV b1);simp only[List.cons.injEq,V.int.injEq,V.ref.injEq,and_true]at h1;rw[←h1.2,a2]at b2;have h2:=HO.tup.inj (ZV b2);simp only[List.cons.injEq,V.int.injEq,and_true]at h2;have e9:ws.getD i (0,(0,0))=ws.getD j (0,(0,0)):=Prod.ext h1.1 (Prod.ext h2.1 h2.2);have g1:ws[i]?=some (ws.getD i (0,(0,0))):=by simp[show i<ws.length by lia]
   have g2:ws[j]?=some (ws.getD j (0,(0,0))):=by simp[show j<ws.length by lia]
   have:=(List.getElem?_inj Mm nd).mp (g1.trans (by rw[e9];exact g2.symm))
   lia
  refine wpAny_bind (wpAny_mono (BR (lt:=kl ws) hl Mm L OF fun i j hi hj C hC=>?_) ?_ fun _ _ e=>e)
  ·obtain⟨x,h3,h5⟩:=key i hi;obtain⟨y,g3,g5⟩:=key j hj;rw[h3,g3];exact LG hu h5 g5 hC
  rintro⟨⟨⟩,aT⟩ s' ⟨p,Tf,hp,hs,S_,hf⟩;rw[Tf];exact tail aT p hp hs (kat_snds hl S_) hf
 ·have ya:vs.toArray.size<2:=by rw[List.size_toArray];lia
  rw[U6 ya,U6 ya];refine wpAny_bind (ZL (ZX (ZL ?_)));have hp:yd vs.length (List.toArray (Zj vs.length)):=by unfold yd;simp
  refine tail _ _ hp (fun i j uC hj=>by lia) ?_ rfl;show((as.map Value.ref).toArray.zip vs.toArray).map (·.2)=_;apply Array.toList_inj.mp;rw[Array.toList_map,Array.toList_zip];refine(List.map_snd_zip (by simp;lia)).trans ?_
  match vs,h2 with
  |[],_=>rfl
  |[x],_=>rfl
  |x::y::r,h=>simp at h
theorem CY(F:a7 X.prog X.w X.K X.mg X.base (cW X.prog X.w) cm k f fd ps sp)(hr:eV cm k A')(hf:A'.frames=X.A.frames)(hb:Binds X.K fd ps [])(hu:A'.units+1<cLine)(I:Inv X pins σ H s)(hk:s.heap.get? kS=some (seqObj "list" #[] 0))(ha:s.heap.get? a=some (seqObj "list" #[] e1))
  (fk:iA X pins H kS) (fa:iA X pins H a) (eX:kS≠a) (r:Vals xs vs) (hlen:ws.length=vs.length) (nd:ws.Nodup) (Fh:vs.length<10000)
  (oC:∀i v H1,xs[i]?=some v→ax H H1→sp [v] H1 (KQ H1 (ws.getD i (0,(0,0)))) E0)
  (h:∀p H' s',yd vs.length p→Sd (kl ws) p vs.length→ax H H'→H' a=none→Inv X pins σ (upd H' a (.lst (p.toList.map fun i=>xs.getD i .cK))) s'→P (.done (.ret .none)) s'):
  wpAny (model X.prog X.w) A' (ksk_rest a (.ref f) false vs.toArray e1 (.ref kS)) P E s:=by
 have BP:=r.length;unfold ksk_rest;refine wpAny_bind (wpAny_rule ?_);first
  |rw[List.forIn_toArray]
  |(rw[←Array.forIn_toList];simp only[List.toList_toArray])
 refine wpAny_bind (ksk_fold (fun i s'=>∃(H':Hp)(as:List Addr)(e:Nat),Inv X pins σ H' s'∧ax H H'∧s'.heap.get? kS=some (seqObj "list" (as.map Value.ref).toArray e)∧s'.heap.get? a=some (seqObj "list" #[] e1)∧iA X pins H' kS∧iA X pins H' a∧as.length=i∧Ks H' ws as) vs 0 s
  ⟨H,[],0,I,fun _ _ z=>z,hk,ha,fk,fa,rfl,fun j k e=>by simp at e⟩ ?_ ?_)
 ·rintro j x s' hx ⟨H',as,e,I',sm,EL,OG,QG,OH,el,K⟩;simp only[Nat.zero_add]at el⊢;have hj:j<vs.length:=(Z' hx).1;obtain⟨u,Vm,QH⟩:=r.get (i:=j) (x:=xs[j]) (by simp[show j<xs.length by lia]);rw[hx]at Vm;cases Vm;have Ip:=I'.pinned (fp:=[kS,a]) (fun b hb=>by
   simp only[List.mem_cons,List.not_mem_nil,or_false]at hb;rcases hb with rfl|rfl
   ·exact QG
   ·exact OH) (fun b hb=>by
   simp only[List.mem_cons,List.not_mem_nil,or_false]at hb;rcases hb with rfl|rfl
   ·exact⟨_,EL,fun v z=>nomatch z⟩
   ·exact⟨_,OG,fun v z=>nomatch z⟩)
  refine wpAny_bind (wpAny_attempt (wpAny_mono (LH F hr hf hb Ip (.cons QH .nil) (oC j xs[j] H' (by simp[show j<xs.length by lia]) sm)) (fun v wu he=>?_) fun _ _ z=>z));obtain⟨y,H2,I2,ry,Tg,kk,t,rfl,k1,k2⟩:=he;cases ry;dsimp only;have pk:=I2.pin (kS,_) (Ε (Ε (gQ V9 EL)));have pa:=I2.pin (a,_) (Ε (Ε (gQ V9 OG)));have I3:=I2.lG;have s1:=Heap.SameBut.update wu.heap kS (Obj.mapSeq (·.push (.ref kk)));obtain⟨c2,uB⟩:∃c2,(wu.heap.update kS (Obj.mapSeq (·.push (.ref kk)))).get? kS=some (seqObj "list" ((as.map Value.ref).toArray.push (.ref kk)) c2):=⟨_,get?_update_seq pk.1 (·.push (.ref kk))⟩
  refine wpAny_bind (listUpdate_at pk.1 rfl ?_ (by simp;rw[sizeLine_eq];lia) (by simp;rw[sizeLine_eq];lia));have ME:iA X pins H2 kS:=⟨pk.2.1,QG.2⟩
  have XD:iA X pins H2 a:=⟨pa.2.1,OH.2⟩
  refine wpAny_pure ⟨rfl,H2,as++[kk],c2,I3.turned (t':=wu.toks) (it:=kS) (fun b o hb e=>(s1.2 b hb).trans e) ME.1 ME.2.1 ME.2.2.2.1 ME.2.2.2.2.1 ME.2.2.2.2.2,fun b o z=>Tg b o (sm b o z),?_,(s1.2 a (Ne.symm eX)).trans pa.1,ME,XD,by simp[el],fun i k ei=>?_⟩
  ·show(wu.heap.update kS (Obj.mapSeq (·.push (.ref kk)))).get? kS=_;rw[uB]
   congr 2
   simp
  ·by_cases hi:i<as.length
   ·rw[Zy hi]at ei;obtain⟨t',g1,g2⟩:=K i k ei;exact⟨t',Tg _ _ g1,Tg _ _ g2⟩
   ·rw[Δ Mm]at ei;have XE:i-as.length=0:=by
     have:=(Z' ei).1;simp at this
     lia
    rw[XE]at ei;have:kk=k:=by simpa using ei
    subst this;have:i=j:=by lia
    subst this;exact⟨t,k1,k2⟩
 ·rintro s' ⟨H',as,e,I',sm,EL,OG,QG,OH,el,K⟩;refine wpAny_bind (listItems_at EL rfl ?_);exact Fn hu I' EL OG QG OH eX V9 (by lia) K r hlen nd Fh fun p s2 hp hs I2=>h p H' s2 hp hs sm OH.1 I2
theorem CZ{n:Nat}(F:a7 X.prog X.w X.K X.mg X.base (cW X.prog X.w) cm k f fd ps sp)(hr:eV cm k A')(hf:A'.frames=X.A.frames)(hb:Binds X.K fd ps [])(hu:A'.units+1<cLine)(I:Inv X pins σ H s)(ho:s.heap.get? a=some (seqObj "list" vs.toArray n))
  (fa:iA X pins H a) (r:Vals xs vs) (hlen:ws.length=vs.length) (nd:ws.Nodup) (Fh:vs.length<10000)
  (oC:∀i v H1,xs[i]?=some v→ax H H1→sp [v] H1 (KQ H1 (ws.getD i (0,(0,0)))) E0)
  (h:∀p H' s',yd vs.length p→Sd (kl ws) p vs.length→ax H H'→H' a=none→Inv X pins σ (upd H' a (.lst (p.toList.map fun i=>xs.getD i .cK))) s'→P (.done (.ret .none)) s'):
  wpAny (model X.prog X.w) A' (ksk_tree a (.ref f) false) P E s:=by
 have s1:=Heap.SameBut.update s.heap a (Obj.mapSeq fun _=>(#[]:Array Value));obtain⟨e1,HI⟩:∃e1,(δ a).get? a=some (seqObj "list" #[] e1):=⟨_,get?_update_seq ho fun _=>#[]⟩
 have I1:Inv X pins σ H {s with heap:=δ a}:=I.turned (t':=s.toks) (it:=a) (fun b o hb e=>(s1.2 b hb).trans e) fa.1 fa.2.1 fa.2.2.2.1 fa.2.2.2.2.1 fa.2.2.2.2.2;unfold ksk_tree;refine wpAny_bind (listItems_at ho rfl (ZX (listUpdate_at ho rfl ?_ (by rw[List.size_toArray,sizeLine_eq];lia) (Nat.zero_le _))));refine wpAny_bind (υ HI);have I2:Inv X pins σ H {s with heap:=(δ a).push (seqObj "tuple" vs.toArray 0)}:=I1.kept (t':=s.toks) fun b o e=>Zp e
 have I3:Inv X pins σ H {s with heap:=((δ a).push (seqObj "tuple" vs.toArray 0)).push (seqObj "list" #[] 0)}:=I2.kept (t':=s.toks) fun b o e=>Zp e
 have fk:=I2.uH Zn (I2.bX.fresh Zn);have yc:=Heap.get?_push_of_some (seqObj "tuple" vs.toArray 0) HI;exact CY F hr hf hb hu I3 (Heap.get?_push_size _ rfl) (Zp yc) fk fa (Nat.ne_of_gt (Zm yc)) r hlen nd Fh oC h
theorem AB{l:Addr}{Q:VK}(F:a7 X.prog X.w X.K X.mg X.base (cW X.prog X.w) cm k f fd ps sp)(hr:eV cm (k+1) X.A)(hb:Binds X.K fd ps [])(I:Inv X pins σ H s)(hq:iE X.K H l xs)(hlen:ws.length=xs.length)(nd:ws.Nodup)(Fh:xs.length<10000)
  (oC:∀i v H1,xs[i]?=some v→ax H H1→sp [v] H1 (KQ H1 (ws.getD i (0,(0,0)))) E0)
  (h:∀p H' D,yd xs.length p→Sd (kl ws) p xs.length→ax H H'→H D=none→H' D=none→Q (.ref D) (upd H' D (.lst (p.toList.map fun i=>xs.getD i .cK)))):
  wpAny (model X.prog X.w) X.A (call (.builtin "sorted") [.ref l] [(Str.ofString "key", .ref f)]) (EP X pins σ Q) E s:=by
 obtain⟨vs,r,pl,hz⟩:=I.list hq;have BP:=r.length;refine call_function_entry_kw kind_sorted plain_sorted entry_sorted (ksk_s1 _ _) ?_;unfold Builtin.«sorted»;refine wpAny_bind (m:=checkCount "sorted" 1 1 _) (ZL (ZX (collect_list pl.isList (ZX (wpAny_newList ?_ (by rw[sizeLine_eq];lia))) (by rw[sizeLine_eq];lia))));generalize hh:((s.heap.push (seqObj "list" #[] 0)).update s.heap.objs.size (Obj.mapSeq (·++vs.toArray)))=h1;have hsz:h1.objs.size=s.heap.objs.size+1:=by rw[←hh,Heap.size_update,size_push']
 have keep:∀b o,s.heap.get? b=some o→(h1.push (seqObj "list" vs.toArray 0)).get? b=some o:=fun b o q=>by
  have gR:b<s.heap.objs.size:=Zm q;rw[Heap.get?_push_ne _ _ _ (by rw[hsz];exact Nat.ne_of_lt (Nat.lt_succ_of_lt gR)),←hh,Heap.get?_update_ne _ _ _ _ (Nat.ne_of_lt gR),Heap.get?_push_ne _ _ _ (Nat.ne_of_lt gR)];exact q
 have IE:(h1.push (seqObj "list" vs.toArray 0)).get? h1.objs.size=some (seqObj "list" vs.toArray 0):=Heap.get?_push_size _ rfl;have hD:s.heap.objs.size≤h1.objs.size:=by rw[hsz];exact Nat.le_succ _
 have Vn:H h1.objs.size=none:=I.bX.fresh hD;have I1:Inv X pins σ H {s with heap:=h1.push (seqObj "list" vs.toArray 0)}:=I.kept (t':=s.toks) keep;show wpAny _ _ _ _ _ {s with heap:=h1.push (seqObj "list" vs.toArray 0)};refine wpAny_bind (wpAny_holding (wpAny_call_entry_kw slot_list_sort ⟨_,IE,rfl⟩ entry_list_sort ?_ (ksk_l1 _ _)));show wpAny (model X.prog X.w) X.A.in1.in1 (Builtin.«list.sort» ⟨[.ref h1.objs.size],[(Str.ofString "key", .ref f)]⟩) _ _ _;rw[ksk_t1];have un:=hr.un;refine CZ F ⟨hr.hd,by have:=hr.dp;show X.A.depth+3*k+5<_;lia,by show X.A.units+1+1+16*k+200<_;lia⟩ rfl hb (by show X.A.units+1+1+1<_;lia) I1 IE (I.uH hD Vn) r Mm nd Mm oC fun p H' s' hp hs sm hn I'=>⟨_,rfl,ZL ⟨_,rfl, .ref h1.objs.size,_,I',rfl,?_⟩⟩
 rw[←BP]at hp hs;exact h p H' _ hp hs sm Vn hn
end
inductive Fo(K:Frag)(sp:Sp)(x:V)(H:Hp)(Q:VK):Prop
 |mk (l:Addr) (xs:List V) (ws:List Kw) (_:x= .ref l) (_:iE K H l xs) (_:ws.length=xs.length) (_:ws.Nodup) (_:xs.length<10000) (_:∀i v H1,xs[i]?=some v→ax H H1→sp [v] H1 (KQ H1 (ws.getD i (0,(0,0)))) E0)
  (_:∀p H' D,yd xs.length p→Sd (kl ws) p xs.length→ax H H'→H D=none→H' D=none→Q (.ref D) (upd H' D (.lst (p.toList.map fun i=>xs.getD i .cK)))):Fo K sp x H Q
def LI(K:Frag)(sp:Sp)(ta:TE):TE:=fun σ H Q=>ta σ H fun x H1=>Fo K sp x H1 Q
theorem Fp{X:Cx}(K:Frag){cm:Bool}{k:Nat}{x:Str}{ps:List Str}{sp:Sp}{e:Expr}{ta:TE}{p pos kp fp:Pos}(D:bK X.prog X.w X.K X.mg X.base cm k x ps sp)(hr:eV cm (k+1) X.A)(he:PE X e ta)(hg:Gl X "sorted")(hm:X.mg "sorted"=none)
  (XF:Gl X x:=by rfl) (wt:(x==("__debug__":Str))=false:=by decide) (hs:starEach [e] X.env=[(false,eval e X.env)]:=by rfl) (hK:X.K=K:=by rfl):
  PE X (.Call (.Name "sorted" p) [e] [⟨some "key", .Name x fp,kp⟩] pos) (LI K sp ta):=by
 subst hK;obtain⟨f,fd,ok,XG,hk,hb⟩:=D;intro pins s σ H Q I h;refine wpAny_Call_Name_kw (lE I hg hm (PyProof.Rows.Boot.«sorted») ?_ (U7) (U7));rw[hs];refine callWith_builtin_kwB (first:=[]) rfl rfl (evalArgs_kwB rfl ?_);refine Calls.spliced_cons ?_;show wpAny _ _ (eval e X.env) _ _ s;refine cH (he pins s σ H _ I h) fun v s1 ⟨y,H1,I1,r1,q1⟩=>Calls.spliced_nil ?_
 obtain⟨l,xs,ws,rfl,hq,hlen,nd,Fh,oC,q⟩:=q1;cases r1;refine kws_cons ?_;show wpAny _ _ (eval (.Name x fp) X.env) _ _ s1;refine cH (Ba (v:= .ref f) XF XG rfl wt pins s1 σ H1 (fun y H2=>y= .ref f∧H2=H1) I1 ⟨rfl,rfl⟩) fun u s2 ⟨y,H2,I2,r2,e1,e2⟩=>?_
 subst e1 e2;cases r2;refine kws_nil ?_;exact AB ok hr hb I2 hq hlen nd Fh oC q
end QF
namespace L2
open PySem PySem.Spec PyProof.Rows PySem.W PySem.Calls
def MF(hi:Int)(n:Nat):It:=⟨fun i _=>i<n,fun i H x H'=>H'=H∧x= .int (hi-i),fun i _=>n≤i⟩
theorem C0{P:Program}{w:World}{K:PySem.W.Frag}{tg:Expr}(it:Addr)(hi:Int)(n:Nat):Turn P w K tg (MF hi n) [it] it (fun i h=>IsRangeIter h it (hi+(i:Nat)*(-1)) ((n:Int)-(i:Nat)) (-1)) where
 mem:=Wv
 obj:=fun i h st b hb=>by
  have e:b=it:=by simpa using hb
  subst e;exact⟨_,st,fun v z=>by
   have z':Data.fields _=Data.cell v:=z;cases z'⟩
 keep:=fun i h h' st k=>k it (Wv) _ st
 item:=by
  intro X hP hw hK hc i pins s σ H E I hf st hg;subst hP hw hK;obtain⟨f0,f1,f2,f3,f4,f5⟩:=hf it (Wv);have W:=Walks.range (prog:=X.prog) (w:=X.w) (I.ok.hd hc) it hi (-1) n;refine W.item i s _ _ hg st fun v h' tk hv aT kk=>?_
  obtain⟨t,rfl⟩:=hv;have I1:Inv X pins σ H {s with heap:=h',toks:=tk}:=I.turned (fun b o hb e=>kk b o (by simpa using hb) e) f0 f1 f3 f4 f5;refine⟨_,rfl,yp (s:={s with heap:=h',toks:=tk}) (n:="range_iterator") aT rfl rfl (U7) ⟨.int (hi-i),H,I1,⟨t,?_⟩,⟨rfl,rfl⟩,aT,fun b hb=>(hf b hb).1⟩⟩
  congr 1
  lia
 done:=by
  intro X hP hw hK hc i pins s σ H E I hf st hg;subst hP hw hK;obtain⟨f0,f1,f2,f3,f4,f5⟩:=hf it (Wv);exact wpAny_pyNext_range_end (I.ok.hd hc) st (by have:n≤i:=hg;lia) fun h' eb=>⟨rfl,I.turned (t':=s.toks) (fun b o hb e=>eb b o hb e) f0 f1 f3 f4 f5⟩
 self:=fun _ _ _ _ _ st h=>wpAny_pyIter_rangeiter st h
theorem rangeSize_down(a b:Int):Builtin.Range.rangeSize a b (-1)=if a>b then a-b else 0:=by
 unfold Builtin.Range.rangeSize;rw[if_neg (U7)];split<;>simp
theorem small_down{a b:Int}(ha:-(2^62)≤a)(OG:a<2^62)(hb:-(2^62)≤b)(Mz:b<2^62):Builtin.Range.small a b (-1)=true:=by
 unfold Builtin.Range.small;rw[rangeSize_down];simp only[Builtin.Range.rangeFitsLong,Bool.and_eq_true,Bool.or_eq_true,decide_eq_true_eq,beq_iff_eq,show ¬(-1:Int)>0 by decide,if_false];split<;>lia
section
variable{X:Cx}{tg:Expr}
theorem HL{pins:List (Addr×Obj)}{σ:L2.St}{H:Hp}{s:Shared}{R:It→Hp→Prop}{E:Value→Shared→Prop}{hi lo:Int}{t u v:Tok}{tk:Nat}(I:Inv X pins σ H s)(h1:-(2^62)≤hi)(h2:hi<2^62)(h3:-(2^62)≤lo)(h4:lo<2^62)
  (q:R (MF hi (hi-lo).toNat) H):wpAny (model X.prog X.w) X.A (pyIter (.ref s.heap.objs.size)) (RG X pins σ tg R) E {s with heap:=s.heap.push {cls:= .type "range",data:= .fields #[.int hi t, .int lo u, .int (-1) v]},toks:=tk}:=by
 refine wpAny_pyIter_range (IsRange.new ..) (small_down h1 h2 h3 h4) ?_;have I1:Inv X pins σ H {s with heap:=s.heap.push {cls:= .type "range",data:= .fields #[.int hi t, .int lo u, .int (-1) v]},toks:=tk}:=I.kept fun b o e=>Zp e
 refine⟨(s.heap.push {cls:= .type "range",data:= .fields #[.int hi t, .int lo u, .int (-1) v]}).objs.size,[(s.heap.push {cls:= .type "range",data:= .fields #[.int hi t, .int lo u, .int (-1) v]}).objs.size],_,_,H,rfl,
  I1.kept (t':=tk) fun b o e=>Zp e,C0 _ hi (hi-lo).toNat,?_,fun b hb=>?_,q⟩
 ·have e1:hi+((0:Nat):Int)*(-1)=hi:=Wv;have e2:(((hi-lo).toNat:Nat):Int)-((0:Nat):Int)=Builtin.Range.rangeSize hi lo (-1):=by rw[rangeSize_down];split<;>lia
  show IsRangeIter _ _ (hi+((0:Nat):Int)*(-1)) ((((hi-lo).toNat:Nat):Int)-((0:Nat):Int)) (-1);rw[e1,e2];exact Heap.get?_push_size _ rfl
 ·have e:b=(s.heap.push {cls:= .type "range",data:= .fields #[.int hi t, .int lo u, .int (-1) v]}).objs.size:=by simpa using hb
  subst e;exact I1.uH Zn (I1.bX.fresh Zn)
def OI(ta:TA):TI:=fun σ H R=>ta σ H fun vs H1=>∃i j:Int,vs=[.int i, .int j, .int (-1)]∧(-(2^30)≤i∧i<2^30∧-(2^30)≤j∧j<2^30)∧R (MF i (i-j).toNat) H1
theorem vU{a b c:Expr}{ta:TA}{p pos:Pos}(hg:Gl X "range")(hm:X.mg "range"=none)(ha:PA X [a,b,c] ta)(hs:starEach [a,b,c] X.env=[(false,eval a X.env),(false,eval b X.env),(false,eval c X.env)]:=by rfl)(Kh:starEach [b,c] X.env=[(false,eval b X.env),(false,eval c X.env)]:=by rfl):
  PI X tg (.Call (.Name "range" p) [a,b,c] [] pos) (OI ta):=by
 intro pins s σ H R I h;refine Call_ (lE I hg hm boot_range (PyProof.Rows.callWith_type1 (cH (ha pos pins s σ H _ I h) fun us s1 ⟨vs,H1,I1,r1,q1⟩=>?_) (by rw[hs,Kh]) (by rw[Kh];rfl)));obtain⟨i,j,e,⟨q1,q2,q3,q4⟩,q⟩:=q1;subst e;cases r1 with
 |cons r rr=>
  cases rr with
  |cons r' rr=>
   cases rr with
   |cons r2 rr=>
    cases rr;obtain⟨t,rfl⟩:=r;obtain⟨t',rfl⟩:=r';obtain⟨t2,rfl⟩:=r2;exact call_range_3 (U7) (HL I1 Mm (by lia) (by lia) (by lia) q) (Or.inl (PyProof.noPylong_small Mm))
theorem yY{hi:Int}{n:Nat}{g:TG}{tb:TS}{D:Ends}{σ:L2.St}{H:Hp}(Pv:Nat→L2.St→Hp→Prop)(h0:Pv 0 σ H)
  (hs:∀i σ H,i<n→Pv i σ H→g (.int (hi-i)) σ H fun f' H2=>tb {D with nx:=Pv (i+1),ct:=Pv (i+1),bk:=D.nx} f' H2) (hd:∀σ H,Pv n σ H→D.nx σ H):
  ∃W:Nat→Nat→L2.St→Hp→Prop,(∃m,W 0 m σ H)∧∀i m σ H,W i m σ H→
   ((MF hi n).stop i H∧D.nx σ H)∨((MF hi n).go i H∧∃N:L2.St→Hp→Prop,(∀bj H',N bj H'→∃m',m'<m∧W (i+1) m' bj H')∧∀x H',(MF hi n).GC i H x H'→g x σ H' fun f' H2=>tb {D with nx:=N,ct:=N,bk:=D.nx} f' H2):=by
 refine⟨fun i m σ H=>m=n-i∧i≤n∧Pv i σ H,⟨n,Wv,Nat.zero_le _,h0⟩,?_⟩;rintro i m σ H ⟨rfl,Br,p⟩;by_cases gR:i<n
 ·refine .inr ⟨gR,Pv (i+1),fun bj H' p'=>⟨n-(i+1),by lia,rfl,gR,p'⟩,fun x H' y=>?_⟩;obtain⟨e,y⟩:=y;subst e y;exact hs i σ _ gR p
 ·have e:i=n:=by lia
  subst e;exact .inl ⟨Nat.le_refl _,hd σ H p⟩
end
theorem C9{d:Addr}{o:Obj}{kvs:List (List Key×V)}{ls:List Str}{js:List Nat}{g:TG}{tt:TT}{te:TE}{σ:L2.St}{H1:Hp}{D:Addr}{Q:VK}(Pv:Nat→List V→L2.St→Hp→Prop)
  (h0:Pv 0 [] (lJ ls js σ) (upd H1 D (.lst []))) (hl:∀i ys σ H,i≤kvs.length→Pv i ys σ H→H d=some (.so o (.dT kvs)))
  (hs:∀i p ys σ H,kvs[i]?=some p→Pv i ys σ H→g p.2 σ H fun f' H3=>tt f' H3 fun b H4=>if b=true then te f' H4 fun y H5=>H5 D=some (.lst ys)∧ys.length<sizeLine∧Pv (i+1) (ys++[y]) f' (upd H5 D (.lst (ys++[y])))else Pv (i+1) ys f' H4)
  (hd:∀ys σ H,Pv kvs.length ys σ H→Q (.ref D) H):sX (SA d o kvs) ls js g tt te σ H1 D Q:=
 oM (n:=kvs.length) Pv h0 (fun i ys σ H hi p=>⟨hl i ys σ H (Nat.le_of_lt hi) p,hi⟩) (fun ys σ H p=>⟨hl _ ys σ H Zn p,Nat.le_refl _⟩)
  (fun i ys σ H x H2 hi p y=>by
   obtain⟨rfl,q,hq,rfl⟩:=y;exact hs i q ys σ _ hq p) hd
theorem Fq{X:Cx}{cm:Bool}{k:Nat}{x:Str}{C:Addr}{ps:List Str}{mq:List V}{sp:Sp}{E:L2.St→XK}{p pos:Pos}(D:m3 X.prog X.w X.K X.mg X.base cm k x C ps mq sp)(hr:eV cm (k+1) X.A)(hx:Passes (cW X.prog X.w) X E)(hg:Gl X x:=by rfl)(wt:(x==("__debug__":Str))=false:=by decide):
  PE X (.Call (.Name x p) [] [] pos) (Bi C sp mq E D6):=by
 obtain⟨f,fd,ds,ok,M,hm,hb,hd⟩:=D;exact D9 M ok hr hg hm hb hd hx wt
end L2
namespace QF
open PySem L2
structure qA(H:Hp)(C x dx e b:Addr)(es bs:List Addr)(f:Nat→Nat→Option Int)(o p:Int)(n m:Nat):Prop where
 ob:H x=some (.ins C dx (gO o p e b))
 he:H e=some (.lst (es.map V.ref))
 te:ja H es (dG f o p) n m
 hb:H b=some (.lst (bs.map V.ref))
 tb:ja H bs (Bq f o p) (n+1) (m+1)
theorem qA.keep{H H':Hp}{C x dx e b:Addr}{es bs:List Addr}{f:Nat→Nat→Option Int}{o p:Int}{n m:Nat}(t:qA H C x dx e b es bs f o p n m)(s:ax H H'):qA H' C x dx e b es bs f o p n m:=
 ⟨s _ _ t.ob,s _ _ t.he,t.te.same s,s _ _ t.hb,t.tb.same s⟩
theorem Fs(o p:Int)(e b:Addr):(gO o p e b).lookup ("goes_on":Str)=none:=by kernel_rfl
theorem BU(o p:Int)(e b:Addr):(gO o p e b).lookup ("crossings_before":Str)=none:=by kernel_rfl
theorem Jr(o p:Int)(e b:Addr):(gO o p e b).lookup ("is_brought_by":Str)=none:=by kernel_rfl
theorem LJ(o p:Int)(e b:Addr):(gO o p e b).lookup ("pair_before":Str)=none:=by kernel_rfl
theorem OJ(o p:Int)(e b:Addr):(gO o p e b).lookup ("way_to":Str)=none:=by kernel_rfl
def gP:Option Int→Bool
 |none=>false
 |some b=>decide (0≤b)
def br(f:Nat→Nat→Option Int)(o p:Int)(i j:Nat):List Pr:=
 (if bB (Bq f o p i (j+1)) o=Bq f o p (i+1) (j+1)then[((i:Int),((j+1:Nat):Int))]else[])++(if bB (Bq f o p (i+1) j) p=Bq f o p (i+1) (j+1)then[(((i+1:Nat):Int),(j:Int))]else[])
def cJ(f:Nat→Nat→Option Int)(o p:Int):Nat→Nat→Nat×Nat
 |0,_=>(0,0)
 | _+1,0=>(0,0)
 |i+1,j+1=>if dG f o p i j=Bq f o p (i+1) (j+1)then(i,j)else if bB (Bq f o p i (j+1)) o=Bq f o p (i+1) (j+1)then cJ f o p i (j+1)else cJ f o p (i+1) j
termination_by i j=>(i,j)
theorem kI(f:Nat→Nat→Option Int)(o p:Int):∀i j,0<i→0<j→(cJ f o p i j).1<i∧(cJ f o p i j).2<j∨Bq f o p i j=none
 |0,_,h,_=>ZE h Mm
 | _+1,0,_,h=>ZE h Mm
 |i+1,j+1,_,_=>by
  cases hB:Bq f o p (i+1) (j+1)with
  |none=>exact .inr rfl
  |some v=>
   left
   unfold cJ;by_cases h1:dG f o p i j=Bq f o p (i+1) (j+1)
   ·rw[U6 h1];exact⟨Wv,Wv⟩
   ·rw[Sn h1];by_cases h2:bB (Bq f o p i (j+1)) o=Bq f o p (i+1) (j+1)
    ·rw[U6 h2];have hn:Bq f o p i (j+1)≠none:=fun z=>by rw[z,hB]at h2;simp[bB]at h2
     have hi:0<i:=by
      cases i with
      |zero=>exact ZE (iL f o p (j+1)) hn
      |succ i=>lia
     rcases kI f o p i (j+1) hi Mm with z|z
     ·exact⟨by lia,z.2⟩
     ·exact ZE z hn
    ·rw[Sn h2];have hn:Bq f o p (i+1) j≠none:=fun z=>by
      have e:Bq f o p (i+1) (j+1)=oR [dG f o p i j,bB (Bq f o p i (j+1)) o,bB (Bq f o p (i+1) j) p]:=by
       rw[Bq];rfl
      rw[z]at e;have:bB none p=(none:Option Int):=rfl;rw[this]at e;have key:∀a b:Option Int,oR [a,b,none]=a∨oR [a,b,none]=b:=fun a b=>by
       cases a<;>cases b<;>simp[oR]
       rename_i x y
       by_cases Au:x≤y
       ·right;lia
       ·left;lia
      rcases key (dG f o p i j) (bB (Bq f o p i (j+1)) o)with k|k
      ·exact h1 (by rw[e,k])
      ·exact h2 (by rw[e,k])
     have hj:0<j:=by
      cases j with
      |zero=>exact ZE (by unfold Bq;rfl) hn
      |succ j=>lia
     rcases kI f o p (i+1) j Mm hj with z|z
     ·exact⟨z.1,by lia⟩
     ·exact ZE z hn
termination_by i j=>(i,j)
def eK(f:Nat→Nat→Option Int)(o p:Int):Nat→Nat→Nat→List (Nat×Nat)
 |0,i,j=>[(i,j)]
 |k+1,i,j=>if gP (Bq f o p i j)=true then eK f o p k (cJ f o p i j).1 (cJ f o p i j).2++[(i,j)]else[(i,j)]
def aR(q:Nat×Nat):Pr:=((q.1:Int),(q.2:Int))
inductive qB(C CT:Addr)(vs:List V)(H:Hp)(Q:VK)(u3:XK):Prop
 |mk (x dx w t:Addr) (c:Case) (as:List Addr) (f:Nat→Nat→Option Int) (n m:Nat) (_:vs=[.ref x, .ref w, .ref t]) (_:H x=some (.ins C dx [])) (_:H dx=some (.own x)) (_:H w=some (.lst (as.map V.ref))) (_:ja H as f n m) (_:yJ H CT t c) (_:n≤1000) (_:m≤1000) (_:∀H' e b,SameBut x H H'→H' x=some (.ins C dx (gO c.out c.into e b))→Tab H H' e (dG f c.out c.into) n m→(0<n→Tab H H' b (Bq f c.out c.into) (n+1) (m+1))→Q .cK H'):qB C CT vs H Q u3
inductive xb(C:Addr)(vs:List V)(H:Hp)(Q:VK)(u3:XK):Prop
 |mk (x dx e b:Addr) (es bs:List Addr) (f:Nat→Nat→Option Int) (o p:Int) (n m:Nat) (pr:Addr) (i j:Nat) (_:vs=[.ref x, .ref pr]) (_:qA H C x dx e b es bs f o p n m) (_:H pr=some (.tup [.int i, .int j])) (_:i≤n) (_:j≤m) (_:Q (.bl (gP (Bq f o p i j))) H):xb C vs H Q u3
inductive AD(C:Addr)(vs:List V)(H:Hp)(Q:VK)(u3:XK):Prop
 |mk (x dx e b:Addr) (es bs:List Addr) (f:Nat→Nat→Option Int) (o p:Int) (n m:Nat) (cr pr:Addr) (i j k l:Nat) (_:vs=[.ref x, .ref cr, .ref pr]) (_:qA H C x dx e b es bs f o p n m) (_:H cr=some (.tup [.int i, .int j])) (_:H pr=some (.tup [.int k, .int l])) (_:i≤n) (_:j≤m) (_:k<n) (_:l<m) (_:Q (.bl (decide (dG f o p k l=Bq f o p i j))) H):AD C vs H Q u3
inductive tJ(C:Addr)(vs:List V)(H:Hp)(Q:VK)(u3:XK):Prop
 |mk (x dx e b:Addr) (es bs:List Addr) (f:Nat→Nat→Option Int) (o p:Int) (n m:Nat) (cr:Addr) (i j:Nat) (_:vs=[.ref x, .ref cr]) (_:qA H C x dx e b es bs f o p n m) (_:H cr=some (.tup [.int ((i+1:Nat):Int), .int ((j+1:Nat):Int)])) (_:i<n) (_:j<m) (_:∀H' r us,ax H H'→H r=none→H' r=some (.lst us)→gK H' us (br f o p i j)→Q (.ref r) H'):tJ C vs H Q u3
inductive xc(C:Addr)(vs:List V)(H:Hp)(Q:VK)(u3:XK):Prop
 |mk (x dx e b:Addr) (es bs:List Addr) (f:Nat→Nat→Option Int) (o p:Int) (n m:Nat) (pr:Addr) (i j:Nat) (_:vs=[.ref x, .ref pr]) (_:qA H C x dx e b es bs f o p n m) (_:H pr=some (.tup [.int i, .int j])) (_:i≤n) (_:j≤m) (_:Bq f o p i j≠none) (_:∀H' r,ax H H'→H' r=some (.tup (jA (aR (cJ f o p i j))))→Q (.ref r) H'):xc C vs H Q u3
inductive AE(C:Addr)(vs:List V)(H:Hp)(Q:VK)(u3:XK):Prop
 |mk (x dx e b:Addr) (es bs:List Addr) (f:Nat→Nat→Option Int) (o p:Int) (n m:Nat) (pr:Addr) (i j:Nat) (_:vs=[.ref x, .ref pr]) (_:qA H C x dx e b es bs f o p n m) (_:H pr=some (.tup [.int i, .int j])) (_:i<n) (_:j<m) (_:n≤1000) (_:∀H' r us,ax H H'→H r=none→H' r=some (.lst us)→gK H' us ((eK f o p i i j).map aR)→Q (.ref r) H'):AE C vs H Q u3
theorem XH(a b:Option Int):oR [a,b,none]=a∨oR [a,b,none]=b:=by
 cases a<;>cases b<;>simp[oR]
 rename_i x y
 by_cases Au:x≤y
 ·right;lia
 ·left;lia
theorem yZ{f:Nat→Nat→Option Int}{o p:Int}{i j:Nat}(hB:Bq f o p (i+1) (j+1)≠none)(h1:dG f o p i j≠Bq f o p (i+1) (j+1)):
  ∃i2 j2,(br f o p i j)[0]?=some (aR (i2+1,j2+1))∧i2≤i∧j2≤j∧i2+j2<i+j∧Bq f o p (i2+1) (j2+1)≠none∧cJ f o p (i2+1) (j2+1)=cJ f o p (i+1) (j+1):=by
 by_cases h2:bB (Bq f o p i (j+1)) o=Bq f o p (i+1) (j+1)
 ·have hn:Bq f o p i (j+1)≠none:=fun z=>by rw[z]at h2;exact hB h2.symm
  cases i with
  |zero=>exact ZE (iL f o p (j+1)) hn
  |succ i=>
   refine⟨i,j,?_,by lia,by lia,by lia,hn,?_⟩
   ·unfold br;rw[U6 h2];rfl
   ·conv=>rhs;unfold cJ
    rw[Sn h1,U6 h2]
 ·have hn:Bq f o p (i+1) j≠none:=fun z=>by
   have e:Bq f o p (i+1) (j+1)=oR [dG f o p i j,bB (Bq f o p i (j+1)) o,bB (Bq f o p (i+1) j) p]:=by rw[Bq];rfl
   rw[z,show bB none p=(none:Option Int)from rfl]at e;rcases XH (dG f o p i j) (bB (Bq f o p i (j+1)) o)with k|k
   ·exact h1 (by rw[e,k])
   ·exact h2 (by rw[e,k])
  have h3:bB (Bq f o p (i+1) j) p=Bq f o p (i+1) (j+1):=by
   have e:Bq f o p (i+1) (j+1)=oR [dG f o p i j,bB (Bq f o p i (j+1)) o,bB (Bq f o p (i+1) j) p]:=by rw[Bq];rfl
   have key:∀a b c:Option Int,oR [a,b,c]≠a→oR [a,b,c]≠b→c=oR [a,b,c]:=fun a b c=>by
    cases a<;>cases b<;>cases c<;>simp[oR]<;>lia
   rw[e];exact key _ _ _ (fun z=>h1 (by rw[e];exact z.symm)) (fun z=>h2 (by rw[e];exact z.symm))
  cases j with
  |zero=>exact ZE (by unfold Bq;rfl) hn
  |succ j=>
   refine⟨i,j,?_,by lia,by lia,by lia,hn,?_⟩
   ·unfold br;rw[Sn h2,U6 h3];rfl
   ·conv=>rhs;unfold cJ
    rw[Sn h1,Sn h2]
theorem ke{f:Nat→Nat→Option Int}{o p:Int}{i j:Nat}(h:gP (Bq f o p i j)=true):0<i∧0<j∧Bq f o p i j≠none:=by
 have hn:Bq f o p i j≠none:=fun z=>by rw[z]at h;cases h
 refine⟨?_,?_,hn⟩
 ·cases i with
  |zero=>exact ZE (iL f o p j) hn
  |succ i=>lia
 ·cases j with
  |zero=>cases i with
   |zero=>exact ZE (iL f o p 0) hn
   |succ i=>exact ZE (by unfold Bq;rfl) hn
  |succ j=>lia
theorem gU{f:Nat→Nat→Option Int}{o p:Int}{i j:Nat}(h:¬gP (Bq f o p i j)=true):∀k,eK f o p k i j=[(i,j)]
 |0=>rfl
 |k+1=>by rw[eK,Sn h]
theorem C_(f:Nat→Nat→Option Int)(o p:Int)(i:Nat):∀k k' j,i≤k→i≤k'→eK f o p k i j=eK f o p k' i j:=by
 induction i using Nat.strongRecOn with
 |ind i ih=>
  intro k k' j h h';by_cases hg:gP (Bq f o p i j)=true
  ·obtain⟨a,b,c⟩:=ke hg;have hl:=(kI f o p i j a b).resolve_right c;obtain⟨k,rfl⟩:∃k1,k=k1+1:=⟨k-1,by lia⟩
   obtain⟨k',rfl⟩:∃k1,k'=k1+1:=⟨k'-1,by lia⟩
   rw[eK,eK,U6 hg,U6 hg,ih _ hl.1 k k' _ (by lia) (by lia)]
  ·rw[gU hg,gU hg]
theorem vV{f:Nat→Nat→Option Int}{o p:Int}{i j:Nat}(h:gP (Bq f o p i j)=true):eK f o p i i j=eK f o p (cJ f o p i j).1 (cJ f o p i j).1 (cJ f o p i j).2++[(i,j)]:=by
 obtain⟨a,b,c⟩:=ke h;have hl:=(kI f o p i j a b).resolve_right c;obtain⟨i,rfl⟩:∃k1,i=k1+1:=⟨i-1,by lia⟩
 rw[eK,U6 h,C_ f o p _ i _ _ (by lia) (Nat.le_refl _)]
structure Js(K:W.Frag)(C:Addr):Prop where
 cl:wm K C
 worth:bZ K C "worth"
 way:bZ K C "way"
 row:bZ K C "row"
 pairs:bZ K C "pairs"
def m8(w:Int)(a r p:Addr):List (Str×V):=[("worth", .int w),("way", .ref a),("row", .ref r),("pairs", .ref p)]
theorem jc(w:Int)(a r p:Addr):(m8 w a r p).lookup ("worth":Str)=some (V.int w):=by kernel_rfl
theorem qC(w:Int)(a r p:Addr):(m8 w a r p).lookup ("way":Str)=some (V.ref a):=by kernel_rfl
theorem AF(w:Int)(a r p:Addr):(m8 w a r p).lookup ("row":Str)=some (V.ref r):=by kernel_rfl
theorem ip(w:Int)(a r p:Addr):(m8 w a r p).lookup ("pairs":Str)=some (V.ref p):=by kernel_rfl
theorem LK(w:Int)(a r p:Addr):bq "pairs" (.ref p) (bq "row" (.ref r) (bq "way" (.ref a) (bq "worth" (.int w) [])))=m8 w a r p:=by kernel_rfl
inductive tK(C:Addr)(vs:List V)(H:Hp)(Q:VK)(u3:XK):Prop
 |mk (x dx a r p:Addr) (w:Int) (_:vs=[.ref x, .int w, .ref a, .ref r, .ref p]) (_:H x=some (.ins C dx [])) (_:Q .cK (upd H x (.ins C dx (m8 w a r p)))):tK C vs H Q u3
inductive tL(C:Addr)(vs:List V)(H:Hp)(Q:VK)(u3:XK):Prop
 |mk (x dx a r p:Addr) (w:Int) (us:List V) (ps:List Pr) (_:vs=[.ref x]) (_:H x=some (.ins C dx (m8 w a r p))) (_:H p=some (.lst us)) (_:gK H us ps) (_:ps≠[]) (_:∀H' k t,ax H H'→H' k=some (.tup [.int (-w), .ref t])→H' t=some (.tup [.int (lh ps).1, .int (lh ps).2])→Q (.ref k) H'):tL C vs H Q u3
inductive AG(C CF:Addr)(vs:List V)(H:Hp)(Q:VK)(u3:XK):Prop
 |mk (x dx e b:Addr) (es bs:List Addr) (f:Nat→Nat→Option Int) (o p:Int) (n m:Nat) (w:Int) (pr:Addr) (us:List V) (ps:List (Nat×Nat)) (q0:Nat×Nat) (_:vs=[.ref x, .int w, .ref pr]) (_:qA H C x dx e b es bs f o p n m) (_:H pr=some (.lst us)) (_:gK H us (ps.map aR)) (_:∀q∈ps,q.1<n∧q.2<m) (_:(ps.filter fun q=>decide (dG f o p q.1 q.2=some w))[0]?=some q0) (_:n≤1000) (_:ps.length≤5000)
  (_:∀H' y dy wy rw iz,ax H H'→H y=none→H dy=none→H wy=none→H rw=none→H' y=some (.ins CF dy (m8 w wy rw pr))→H' dy=some (.own y)→H' wy=some (.lst iz)→gK H' iz ((eK f o p q0.1 q0.1 q0.2).map aR)→H' rw=some (.lst ((eK f o p q0.1 q0.1 q0.2).map fun q=>bC (dG f o p q.1 q.2)))→Q (.ref y) H'):AG C CF vs H Q u3
theorem BV{f:Nat→Nat→Option Int}{o p:Int}{n m:Nat}:∀k i j,i<n→j<m→∀q∈eK f o p k i j,q.1<n∧q.2<m
 |0,i,j,hi,hj,q,hq=>by
  have:q=(i,j):=by simpa[eK]using hq
  subst this;exact⟨hi,hj⟩
 |k+1,i,j,hi,hj,q,hq=>by
  by_cases h:gP (Bq f o p i j)=true
  ·rw[eK,U6 h]at hq;obtain⟨a,b,c⟩:=ke h;have hl:=(kI f o p i j a b).resolve_right c;rcases List.mem_append.mp hq with z|z
   ·exact BV k _ _ (by lia) (by lia) q z
   ·have:q=(i,j):=by simpa using z
    subst this;exact⟨hi,hj⟩
  ·rw[gU h]at hq;have:q=(i,j):=by simpa using hq
   subst this;exact⟨hi,hj⟩
theorem y4{f:Nat→Nat→Option Int}{o p:Int}:∀k i j,(eK f o p k i j).length≤k+1
 |0,i,j=>by simp[eK]
 |k+1,i,j=>by
  by_cases h:gP (Bq f o p i j)=true
  ·rw[eK,U6 h,List.length_append];have:=y4 (f:=f) (o:=o) (p:=p) k (cJ f o p i j).1 (cJ f o p i j).2;simp
   lia
  ·rw[gU h];simp
end QF
namespace L2
open PySem PySem.Spec PyProof.Rows PySem.W PySem.Calls
section
variable{X:Cx}
inductive Ft(K:Frag)(x:V)(y:V)(H:Hp)(Q:VK):Prop
 |mk (p q:Addr) (xs ys:List V) (_:x= .ref p) (_:y= .ref q) (_:DT K H p xs) (_:DT K H q ys) (_:xs.all iG=true) (_:ys.all iG=true) (_:Q (.bl (!uK xs ys)) H):Ft K x y H Q
theorem Dd(K:Frag)(hu:X.A.units<cLine)(hK:X.K=K:=by rfl):rl X (compareOp .NotEq) (Ft K):=by
 subst hK;intro pins s σ H x y v u Q I rx ry h;obtain⟨p,q,xs,ys,rfl,rfl,hp,hq,f1,f2,k⟩:=h;cases rx;cases ry;obtain⟨its,r,pl,hz⟩:=I.tuple hp;obtain⟨dS,r2,Hi,Mw⟩:=I.tuple hq;have he:=tF (A:=X.A.in1) (s:=s) r r2 f1 f2;obtain⟨⟨cls,dd,data,sl⟩,ho,hc,n,hd⟩:=id pl;obtain⟨⟨KZ,EF,data2,yb⟩,yc,uB,n2,hd2⟩:=id Hi;simp only at hc hd uB hd2;subst hc hd uB hd2;refine richCompare_meets_room (op:= .NotEq) ⟨_,ho,rfl⟩ ⟨_,yc,rfl⟩ F.slot_tuple_ne F.entry_tuple_ne (F.args_tuple_ne_2 _ _) (SeqAt.tuple_neAt p q its.toArray dS.toArray n n2 dd EF sl yb _) ⟨ho,yc,he,?_⟩ hu;have e:(!((Zj (min its.toArray.size dS.toArray.size)).all (fun j=>nF (xs.getD j .cK) (ys.getD j .cK))&&its.toArray.size==dS.toArray.size))=!uK xs ys:=by
  rw[←kF,r.length,r2.length];simp
 rw[e];exact⟨(fun x=>nomatch x), .bl (!uK xs ys),H,I,rfl,k⟩
end
end L2
namespace QF
open PySem L2
theorem du{p q:Pr}(h:bb p=bb q):p=q:=by
 simp only[bb,List.cons.injEq,Sum.inl.injEq,and_true]at h;exact Prod.ext h.1 h.2
theorem len_sub{α:Type}[DecidableEq α]:∀(l m:List α),l.Nodup→(∀x∈l,x∈m)→l.length≤m.length
 |[],m,_,_=>Wv
 |x::r,m,hn,h=>by
  have DS:=List.nodup_cons.mp hn;have hx:=h x (Wv);have:=len_sub r (m.erase x) DS.2 fun y hy=>(List.mem_erase_of_ne (fun e:y=x=>DS.1 (by rw[←e];exact hy))).mpr (h y (by simp[hy]))
  rw[List.length_erase_of_mem hx]at this;have:=List.length_pos_of_mem hx;simp
  lia
def Jt(E:Pr→Pr→Prop)(p:Pr):Pr→Pr→Prop:=fun a b=>E a b∨(a=p∧b=p)
def qD(E:Pr→Pr→Prop)(p q:Pr):Pr→Pr→Prop:=fun a b=>E a b∨((E a p∨E a q)∧(E b p∨E b q))
theorem De{E:Pr→Pr→Prop}{p q a b:Pr}:qD E p q a b↔qD E q p a b:=by
 unfold qD;rw[or_comm (a:=E a p),or_comm (a:=E b p)]
structure oX(S:Addr→Prop)(H:Hp)(S':Addr→Prop)(H':Hp):Prop where
 grow:∀a,S' a→S a∨H a=none
 keep:∀a o,¬S a→H a=some o→H' a=some o
theorem oX.trans{S S' QI:Addr→Prop}{H H' QJ:Hp}(a:oX S H S' H')(b:oX S' H' QI QJ):oX S H QI QJ:=by
 refine⟨fun x hx=>?_,fun x o hs hx=>b.keep x o (fun z=>?_) (a.keep x o hs hx)⟩
 ·rcases b.grow x hx with h|h
  ·exact a.grow x h
  ·by_cases hs:S x
   ·exact .inl hs
   ·right
    cases e:H x with
    |none=>rfl
    |some o=>rw[a.keep x o hs e]at h;cases h
 ·rcases a.grow x z with h|h
  ·exact hs h
  ·rw[hx]at h;cases h
theorem oX.same{S:Addr→Prop}{H H':Hp}(s:ax H H'):oX S H S H':=⟨fun _ h=> .inl h,fun a o _ h=>s a o h⟩
theorem oX.put{S:Addr→Prop}{H:Hp}{a:Addr}{o:HO}(h:S a):oX S H S (upd H a o):=⟨fun _ h=> .inl h,fun b u hb e=>by rw[ak (fun z:b=a=>hb (by rw[z];exact h))];exact e⟩
structure OL(K:W.Frag)(C:Addr):Prop where
 cl:wm K C
 oY:bZ K C "leads"
 members:bZ K C "members"
def rC(dl dm:Addr):List (Str×V):=[("leads", .ref dl),("members", .ref dm)]
theorem jE(a b:Addr):(rC a b).lookup ("leads":Str)=some (V.ref a):=by kernel_rfl
theorem iZ(a b:Addr):(rC a b).lookup ("members":Str)=some (V.ref b):=by kernel_rfl
theorem OM(a b:Addr):bq "members" (.ref b) (bq "leads" (.ref a) [])=rC a b:=by kernel_rfl
theorem ON(a b:Addr):(rC a b).lookup ("has":Str)=none:=by kernel_rfl
theorem Fu(a b:Addr):(rC a b).lookup ("take_in":Str)=none:=by kernel_rfl
theorem BX(a b:Addr):(rC a b).lookup ("unite":Str)=none:=by kernel_rfl
theorem LL(a b:Addr):(rC a b).lookup ("told":Str)=none:=by kernel_rfl
def LM(H:Hp)(v:Option V):Option Pr→Prop
 |none=>v=none
 |some l=>∃t,v=some (.ref t)∧H t=some (.tup (jA l))
def Th(H:Hp)(S:Addr→Prop)(v:Option V):Option (List Pr)→Prop
 |none=>v=none
 |some ms=>∃a us,v=some (.ref a)∧H a=some (.lst us)∧gK H us ms∧S a
theorem LM.cC{H H':Hp}{v:Option V}{o:Option Pr}(h:LM H v o)(t:c7 H H'):LM H' v o:=by
 cases o with
 |none=>exact h
 |some l=>obtain⟨a,h1,h2⟩:=h;exact⟨a,h1,t _ _ h2⟩
structure DF(H:Hp)(S:Addr→Prop)(dl dm:Addr)(kl km:List (List Key×V))(ld:Pr→Option Pr)(mm:Pr→Option (List Pr)):Prop where
 hl:H dl=some (.dT kl)
 hm:H dm=some (.dT km)
 sl:S dl
 sm:S dm
 ne:dl≠dm
 lv:∀p,LM H (bx kl (bb p)) (ld p)
 mv:∀p,Th H S (bx km (bb p)) (mm p)
 inj:∀p q a,bx km (bb p)=some (.ref a)→bx km (bb q)=some (.ref a)→p=q
 key:∀kv∈km,∃p,kv.1=bb p
 BY:(km.map (·.1)).Nodup
 ms:∀l ms,mm l=some ms→ms.Nodup∧∀p,p∈ms↔ld p=some l
 ml:∀p l,ld p=some l→∃ms,mm l=some ms
 self:∀l ms,mm l=some ms→ld l=some l
theorem DF.keep{H H':Hp}{S:Addr→Prop}{dl dm:Addr}{kl km:List (List Key×V)}{ld:Pr→Option Pr}{mm:Pr→Option (List Pr)}(d:DF H S dl dm kl km ld mm)(h:∀a o,S a→H a=some o→H' a=some o)(t:c7 H H'):DF H' S dl dm kl km ld mm:=by
 refine⟨h _ _ d.sl d.hl,h _ _ d.sm d.hm,d.sl,d.sm,d.ne,fun p=>(d.lv p).cC t,fun p=>?_,d.inj,d.key,d.BY,d.ms,d.ml,d.self⟩;have:=d.mv p;cases e:mm p with
 |none=>rw[e]at this;exact this
 |some ms=>
  rw[e]at this;obtain⟨a,us,h1,h2,h3,h4⟩:=this;exact⟨a,us,h1,h _ _ h4 h2,h3.cC t,h4⟩
theorem DF.sT{H:Hp}{S:Addr→Prop}{dl dm:Addr}{kl km:List (List Key×V)}{ld:Pr→Option Pr}{mm:Pr→Option (List Pr)}(d:DF H S dl dm kl km ld mm){ms:List Pr}(hn:ms.Nodup)(h:∀p∈ms,∃l,ld p=some l):ms.length≤kl.length:=by
 have:=len_sub (ms.map bb) (kl.map (·.1)) (List.Pairwise.map _ (fun a b Fv z=>Fv (du z)) hn) fun k hk=>by
  obtain⟨p,hp,rfl⟩:=List.mem_map.mp hk;obtain⟨l,hl⟩:=h p hp;have:=d.lv p;rw[hl]at this;obtain⟨t,h1,_⟩:=this;exact Bo h1
 simpa using this
theorem DF.take{H H':Hp}{S:Addr→Prop}{dl dm a t:Addr}{kl km:List (List Key×V)}{ld:Pr→Option Pr}{mm:Pr→Option (List Pr)}{p:Pr}(d:DF H S dl dm kl km ld mm)(hn:ld p=none)(ht:H t=some (.tup (jA p)))(ha:H a=none)
  (h1:H' dl=some (.dT (putK kl (bb p) (.ref t)))) (h2:H' dm=some (.dT (putK km (bb p) (.ref a)))) (h3:H' a=some (.lst [.ref t])) (hk:∀b o,b≠dl→b≠dm→H b=some o→H' b=some o):
  DF H' (fun x=>S x∨x=a) dl dm (putK kl (bb p) (.ref t)) (putK km (bb p) (.ref a)) (fun q=>if q=p then some p else ld q) (fun q=>if q=p then some [p]else mm q):=by
 have T:c7 H H':=fun b v hb=>hk b _ (fun z=>by rw[z,d.hl]at hb;cases hb) (fun z=>by rw[z,d.hm]at hb;cases hb) hb
 have Vo:mm p=none:=by
  cases e:mm p with
  |none=>rfl
  |some ms=>have:=d.self p ms e;rw[hn]at this;cases this
 have Fw:bx km (bb p)=none:=by have:=d.mv p;rw[Vo]at this;exact this
 have OO:∀q b,bx km (bb q)=some (.ref b)→b≠a:=fun q b hq z=>by
  have:=d.mv q;cases e:mm q with
  |none=>rw[e]at this;have:bx km (bb q)=none:=this;rw[this]at hq;cases hq
  |some ms=>
   rw[e]at this;obtain⟨a',us,e1,e2,_⟩:=this;rw[hq]at e1;cases e1;rw[z,ha]at e2;cases e2
 refine⟨h1,h2, .inl d.sl, .inl d.sm,d.ne,fun q=>?_,fun q=>?_,fun q r b hq hr=>?_,fun kv QK=>?_,?_,fun l ms hl=>?_,fun q l hq=>?_,fun l ms hl=>?_⟩
 ·rw[i8];by_cases e:q=p
  ·rw[U6 (by rw[e]),U6 e];exact⟨t,rfl,T _ _ ht⟩
  ·rw[Sn (fun z=>e (du z)),Sn e];exact(d.lv q).cC T
 ·show Th _ _ _ (if q=p then some [p]else mm q);rw[i8];by_cases e:q=p
  ·rw[U6 (by rw[e]),U6 e];exact⟨a,_,rfl,h3,gK.one (T _ _ ht), .inr rfl⟩
  ·rw[Sn (fun z=>e (du z)),Sn e];have:=d.mv q;cases e2:mm q with
   |none=>rw[e2]at this;exact this
   |some ms=>
    rw[e2]at this;obtain⟨b,us,z1,z2,z3,z4⟩:=this;exact⟨b,us,z1,hk b _ (fun z=>by rw[z,d.hl]at z2;cases z2) (fun z=>by rw[z,d.hm]at z2;cases z2) z2,z3.cC T, .inl z4⟩
 ·rw[i8]at hq hr;by_cases e:q=p
  ·by_cases e2:r=p
   ·rw[e,e2]
   ·rw[U6 (by rw[e])]at hq;rw[Sn (fun z=>e2 (du z))]at hr;cases hq;exact absurd rfl (OO r _ hr)
  ·rw[Sn (fun z=>e (du z))]at hq;by_cases e2:r=p
   ·rw[U6 (by rw[e2])]at hr;cases hr;exact absurd rfl (OO q _ hq)
   ·rw[Sn (fun z=>e2 (du z))]at hr;exact d.inj q r b hq hr
 ·rw[sP _ Fw]at QK;rcases List.mem_append.mp QK with z|z
  ·exact d.key kv z
  ·exact⟨p,by rw[List.mem_singleton.mp z]⟩
 ·rw[sP _ Fw,List.map_append];refine List.nodup_append.mpr ⟨d.BY,Wv,fun x hx y hy e=>?_⟩;have hy:y=bb p:=by simpa using hy
  rw[e,hy]at hx;exact yD Fw hx
 ·have hl:(if l=p then some [p]else mm l)=some ms:=hl;by_cases e:l=p
  ·rw[U6 e]at hl;cases hl;refine⟨Wv,fun q=>?_⟩;rw[List.mem_singleton];show q=p↔(if q=p then some p else ld q)=some l;by_cases e2:q=p
   ·rw[U6 e2,e];simp[e2]
   ·rw[Sn e2];refine⟨fun z=>ZE z e2,fun z=>?_⟩;obtain⟨ms,DG⟩:=d.ml q l z;rw[e,Vo]at DG;cases DG
  ·rw[Sn e]at hl;obtain⟨z1,z2⟩:=d.ms l ms hl;refine⟨z1,fun q=>?_⟩;rw[z2];show ld q=some l↔(if q=p then some p else ld q)=some l;by_cases e2:q=p
   ·rw[U6 e2,e2,hn];refine⟨fun z=>(by cases z),fun z=>ZE (ZV z).symm e⟩
   ·rw[Sn e2]
 ·have hq:(if q=p then some p else ld q)=some l:=hq;show ∃ms,(if l=p then some [p]else mm l)=some ms;by_cases e:l=p
  ·exact⟨[p],U6 e⟩
  ·rw[Sn e];by_cases e2:q=p
   ·rw[U6 e2]at hq;exact ZE (ZV hq).symm e
   ·rw[Sn e2]at hq;exact d.ml q l hq
 ·have hl:(if l=p then some [p]else mm l)=some ms:=hl;show(if l=p then some p else ld l)=some l;by_cases e:l=p
  ·rw[U6 e,e]
  ·rw[Sn e]at hl⊢;exact d.self l ms hl
theorem B0{κ:Type}[DecidableEq κ]{k:κ}{v:V}:∀{kvs:List (κ×V)}{i:Nat},(kvs.map (·.1)).Nodup→kvs[i]?=some (k,v)→bx kvs k=some v
 |[],i,_,h=>by simp at h
 |p::r,0,_,h=>by
  have h:p=(k,v):=by simpa using h
  subst h;exact cG rfl
 |p::r,i+1,hn,h=>by
  have DS:=List.nodup_cons.mp (show(p.1::r.map (·.1)).Nodup from hn);have h:r[i]?=some (k,v):=by simpa using h
  rw[cz (fun e=>DS.1 (by rw[e];exact List.mem_map.mpr ⟨_,ZO h,rfl⟩))];exact B0 DS.2 h
theorem y6{κ:Type}[DecidableEq κ]{k:κ}{v:V}:∀{kvs:List (κ×V)},bx kvs k=some v→∃i:Nat,kvs[i]?=some (k,v)
 |[],h=>by cases h
 |p::r,h=>by
  by_cases e:p.1=k
  ·rw[cG e]at h;exact⟨0,by simp;exact Prod.ext e (ZV h)⟩
  ·rw[cz e]at h;obtain⟨i,hi⟩:=y6 h;exact⟨i+1,by simpa using hi⟩
theorem mB{κ:Type}[DecidableEq κ](k j:κ):∀kvs:List (κ×V),bx (i7 kvs k) j=if j=k then none else bx kvs j
 |[]=>by simp[i7,bx]
 |p::r=>by
  have ih:=mB k j r;unfold i7 at ih⊢;rw[List.filter_cons];by_cases e:p.1=k
  ·rw[Sn (by simpa using e),ih];by_cases e2:j=k
   ·rw[U6 e2,U6 e2]
   ·rw[Sn e2,Sn e2,cz (fun z=>e2 (z.symm.trans e))]
  ·rw[U6 (by simpa using e)];by_cases e2:p.1=j
   ·rw[cG e2,Sn (fun z=>e (e2.trans z)),cG e2]
   ·rw[cz e2,ih,cz e2]
theorem DF.OP{H H':Hp}{S:Addr→Prop}{dl dm al tl:Addr}{kl uL km:List (List Key×V)}{ld:Pr→Option Pr}{mm:Pr→Option (List Pr)}{l g:Pr}{m1 m2:List Pr}{lr iz:List V}(d:DF H S dl dm kl km ld mm)(B1:l≠g)(h1:mm l=some m1)(h2:mm g=some m2)(B2:bx km (bb l)=some (.ref al))(P1:gK H lr m1)(P2:gK H iz m2)(RT:H al=some (.lst lr))(y8:H tl=some (.tup (jA l)))
  (OQ:∀r,bx uL (bb r)=if r∈m2 then some (.ref tl)else bx kl (bb r)) (e1:H' dl=some (.dT uL)) (e2:H' dm=some (.dT (i7 km (bb g)))) (e3:H' al=some (.lst (lr++iz))) (hk:∀b o,b≠dl→b≠dm→b≠al→H b=some o→H' b=some o):
  DF H' S dl dm uL (i7 km (bb g)) (fun r=>if r∈m2 then some l else ld r) (fun r=>if r=g then none else if r=l then some (m1++m2)else mm r):=by
 have T:c7 H H':=fun b v hb=>hk b _ (fun z=>by rw[z,d.hl]at hb;cases hb) (fun z=>by rw[z,d.hm]at hb;cases hb) (fun z=>by rw[z,RT]at hb;cases hb) hb
 obtain⟨n1,q1⟩:=d.ms l m1 h1;obtain⟨n2,q2⟩:=d.ms g m2 h2;refine⟨e1,e2,d.sl,d.sm,d.ne,fun r=>?_,fun r=>?_,fun p q a hp hq=>?_,fun kv QK=>d.key kv (List.mem_filter.mp QK).1,d.BY.sublist (List.filter_sublist.map _),fun x ms hx=>?_,fun p x hp=>?_,fun x ms hx=>?_⟩
 ·show LM H' _ (if r∈m2 then some l else ld r);rw[OQ];by_cases e:r∈m2
  ·rw[U6 e,U6 e];exact⟨tl,rfl,T _ _ y8⟩
  ·rw[Sn e,Sn e];exact(d.lv r).cC T
 ·show Th H' S _ (if r=g then none else if r=l then some (m1++m2)else mm r);rw[mB];by_cases e:r=g
  ·rw[U6 (by rw[e]),U6 e];rfl
  ·rw[Sn (fun z=>e (du z)),Sn e];by_cases e4:r=l
   ·rw[U6 e4,e4,B2];have:=d.mv l;rw[h1]at this;obtain⟨a,us,z1,_,_,z4⟩:=this;rw[B2]at z1;cases z1;exact⟨al,_,rfl,e3,(P1.append P2).cC T,z4⟩
   ·rw[Sn e4];have:=d.mv r;cases e5:mm r with
    |none=>rw[e5]at this;exact this
    |some ms=>
     rw[e5]at this;obtain⟨a,us,z1,z2,z3,z4⟩:=this;exact⟨a,us,z1,hk a _ (fun z=>by rw[z,d.hl]at z2;cases z2) (fun z=>by rw[z,d.hm]at z2;cases z2) (fun z=>e4 (d.inj r l al (by rw[z1,z]) B2)) z2,z3.cC T,z4⟩
 ·rw[mB]at hp hq;by_cases e:p=g
  ·rw[U6 (by rw[e])]at hp;cases hp
  ·by_cases e4:q=g
   ·rw[U6 (by rw[e4])]at hq;cases hq
   ·rw[Sn (fun z=>e (du z))]at hp;rw[Sn (fun z=>e4 (du z))]at hq;exact d.inj p q a hp hq
 ·have hx:(if x=g then none else if x=l then some (m1++m2)else mm x)=some ms:=hx;by_cases e:x=g
  ·rw[U6 e]at hx;cases hx
  ·rw[Sn e]at hx;by_cases e4:x=l
   ·rw[U6 e4]at hx;cases hx;refine⟨List.nodup_append.mpr ⟨n1,n2,fun a ha b hb z=>?_⟩,fun p=>?_⟩
    ·have ha:=(q1 a).mp ha;have hb:=(q2 b).mp hb;rw[z,hb]at ha;exact B1 (ZV ha).symm
    ·rw[List.mem_append];show p∈m1∨p∈m2↔(if p∈m2 then some l else ld p)=some x;rw[e4];by_cases e5:p∈m2
     ·rw[U6 e5];simp[e5]
     ·rw[Sn e5,←q1];simp[e5]
   ·rw[Sn e4]at hx;obtain⟨z1,z2⟩:=d.ms x ms hx;refine⟨z1,fun p=>?_⟩;rw[z2];show ld p=some x↔(if p∈m2 then some l else ld p)=some x;by_cases e5:p∈m2
    ·rw[U6 e5,(q2 p).mp e5];exact⟨fun z=>ZE (ZV z).symm e,fun z=>ZE (ZV z).symm e4⟩
    ·rw[Sn e5]
 ·have hp:(if p∈m2 then some l else ld p)=some x:=hp;show ∃ms,(if x=g then none else if x=l then some (m1++m2)else mm x)=some ms;by_cases e5:p∈m2
  ·rw[U6 e5]at hp;cases hp;exact⟨m1++m2,by rw[Sn B1,if_pos rfl]⟩
  ·rw[Sn e5]at hp;have hg:x≠g:=fun z=>e5 ((q2 p).mpr (by rw[hp,z]))
   by_cases e4:x=l
   ·exact⟨m1++m2,by rw[Sn hg,U6 e4]⟩
   ·obtain⟨ms,DG⟩:=d.ml p x hp;exact⟨ms,by rw[Sn hg,Sn e4];exact DG⟩
 ·have hx:(if x=g then none else if x=l then some (m1++m2)else mm x)=some ms:=hx;show(if x∈m2 then some l else ld x)=some x;by_cases e:x=g
  ·rw[U6 e]at hx;cases hx
  ·rw[Sn e]at hx;have Vp:ld x=some x:=by
    by_cases e4:x=l
    ·rw[e4];exact d.self l m1 h1
    ·rw[Sn e4]at hx;exact d.self x ms hx
   have:x∉m2:=fun z=>by
    have:=(q2 x).mp z;rw[Vp]at this;exact e (ZV this)
   rw[Sn this,Vp]
theorem LN{ld:Pr→Option Pr}{l g p q:Pr}{m2:List Pr}(B1:l≠g)(hp:ld p=some l)(hq:ld q=some g)(q2:∀r,r∈m2↔ld r=some g){E:Pr→Pr→Prop}(hE:∀a b,E a b↔∃x,ld a=some x∧ld b=some x)(a b:Pr):
  qD E p q a b↔∃x,(if a∈m2 then some l else ld a)=some x∧(if b∈m2 then some l else ld b)=some x:=by
 have A:∀c,(E c p∨E c q)↔(if c∈m2 then some l else ld c)=some l:=fun c=>by
  rw[hE,hE,hp,hq];by_cases e:c∈m2
  ·rw[U6 e,(q2 c).mp e];simp
  ·rw[Sn e];have:ld c≠some g:=fun z=>e ((q2 c).mpr z)
   constructor
   ·rintro(⟨x,h1,h2⟩|⟨x,h1,h2⟩)
    ·cases h2;exact h1
    ·cases h2;exact ZE h1 this
   ·exact fun z=> .inl ⟨l,z,rfl⟩
 unfold qD;rw[A,A,hE];constructor
 ·rintro(⟨x,h1,h2⟩|⟨h1,h2⟩)
  ·by_cases e:x=g
   ·subst e;exact⟨l,by rw[U6 ((q2 a).mpr h1)],by rw[U6 ((q2 b).mpr h2)]⟩
   ·exact⟨x,by rw[Sn (fun z=>e (by have:=(q2 a).mp z;rw[h1]at this;exact ZV this))];exact h1,by rw[Sn (fun z=>e (by have:=(q2 b).mp z;rw[h2]at this;exact ZV this))];exact h2⟩
  ·exact⟨l,h1,h2⟩
 ·rintro⟨x,h1,h2⟩;by_cases e:x=l
  ·subst e;exact .inr ⟨h1,h2⟩
  ·left
   refine⟨x,?_,?_⟩
   ·by_cases e2:a∈m2
    ·rw[U6 e2]at h1;exact ZE (ZV h1).symm e
    ·rw[Sn e2]at h1;exact h1
   ·by_cases e2:b∈m2
    ·rw[U6 e2]at h2;exact ZE (ZV h2).symm e
    ·rw[Sn e2]at h2;exact h2
def jX(H:Hp)(C g:Addr)(S:Addr→Prop)(E:Pr→Pr→Prop)(B:Nat):Prop:=
 ∃dg dl dm kl km ld mm,H g=some (.ins C dg (rC dl dm))∧¬S g∧DF H S dl dm kl km ld mm∧(∀a b,E a b↔∃l,ld a=some l∧ld b=some l)∧kl.length≤B∧km.length≤B
theorem jX.keep{H H':Hp}{C g:Addr}{S:Addr→Prop}{E:Pr→Pr→Prop}{B:Nat}(G:jX H C g S E B)(h:∀a o,S a→H a=some o→H' a=some o)(t:c7 H H')(hg:∀o,H g=some o→H' g=some o):jX H' C g S E B:=by
 obtain⟨dg,dl,dm,kl,km,ld,mm,a1,a2,a3,a4⟩:=G;exact⟨dg,dl,dm,kl,km,ld,mm,hg _ a1,a2,a3.keep h t,a4⟩
theorem jX.same{H H':Hp}{C g:Addr}{S:Addr→Prop}{E:Pr→Pr→Prop}{B:Nat}(G:jX H C g S E B)(s:ax H H'):jX H' C g S E B:=G.keep (fun a o _ h=>s a o h) (c7.same s) (fun o h=>s _ _ h)
theorem jX.iff{H:Hp}{C g:Addr}{S:Addr→Prop}{E E':Pr→Pr→Prop}{B B':Nat}(G:jX H C g S E B)(h:∀a b,E' a b↔E a b)(hB:B≤B'):jX H C g S E' B':=by
 obtain⟨dg,dl,dm,kl,km,ld,mm,a1,a2,a3,a4,a5,a6⟩:=G;exact⟨dg,dl,dm,kl,km,ld,mm,a1,a2,a3,fun a b=>(h a b).trans (a4 a b),by lia,by lia⟩
structure Told(E:Pr→Pr→Prop)(gs:List (List Pr)):Prop where
 qz:∀ps∈gs,ps.Pairwise fun p q=>jD p q=true
 ne:∀ps∈gs,ps≠[]
 cls:∀ps∈gs,∀a∈ps,∀b,b∈ps↔E a b
 all:∀a,E a a→∃ps∈gs,a∈ps
 apart:gs.Pairwise fun ps qs=>∀a∈ps,a∉qs
inductive tM(C:Addr)(vs:List V)(H:Hp)(Q:VK)(u3:XK):Prop
 |mk (x dx:Addr) (_:vs=[.ref x]) (_:H x=some (.ins C dx [])) (_:∀H' S,SameBut x H H'→(∀a,S a→H a=none)→jX H' C x S (fun _ _=>False) 0→Q .cK H'):tM C vs H Q u3
inductive AH(C:Addr)(vs:List V)(H:Hp)(Q:VK)(u3:XK):Prop
 |mk (x t:Addr) (p:Pr) (S:Addr→Prop) (E:Pr→Pr→Prop) (B:Nat) (_:vs=[.ref x, .ref t]) (_:jX H C x S E B) (_:H t=some (.tup (jA p))) (_:∀b:Bool,(b=true↔E p p)→Q (.bl b) H):AH C vs H Q u3
inductive xf(C:Addr)(vs:List V)(H:Hp)(Q:VK)(u3:XK):Prop
 |mk (x t:Addr) (p:Pr) (S:Addr→Prop) (E:Pr→Pr→Prop) (B:Nat) (_:vs=[.ref x, .ref t]) (_:jX H C x S E B) (_:H t=some (.tup (jA p))) (_:B≤10000) (_:∀H' S',oX S H S' H'→jX H' C x S' (Jt E p) (B+1)→Q .cK H'):xf C vs H Q u3
inductive tN(C:Addr)(vs:List V)(H:Hp)(Q:VK)(u3:XK):Prop
 |mk (x t u:Addr) (p q:Pr) (S:Addr→Prop) (E:Pr→Pr→Prop) (B:Nat) (_:vs=[.ref x, .ref t, .ref u]) (_:jX H C x S E B) (_:H t=some (.tup (jA p))) (_:H u=some (.tup (jA q))) (_:E p p) (_:E q q) (_:B≤10000) (_:∀H',oX S H S H'→jX H' C x S (qD E p q) B→Q .cK H'):tN C vs H Q u3
inductive xg(C:Addr)(vs:List V)(H:Hp)(Q:VK)(u3:XK):Prop
 |mk (x:Addr) (S:Addr→Prop) (E:Pr→Pr→Prop) (B:Nat) (_:vs=[.ref x]) (_:jX H C x S E B) (_:B<10000) (_:∀H' r us gs,oX S H S H'→H r=none→H' r=some (.lst us)→gh H' us gs→(∀(k:Nat) a,us[k]?=some (.ref a)→H a=none)→Told E gs→Q (.ref r) H'):xg C vs H Q u3
theorem AI(g:Pr→Option Int)(o i:Int){as:List Pr}(eX:as≠[])(q:Pr)(bs:List Pr):vl g o i (as++q::bs)=vl g o i as-gp o i (lstP as) q+vl g o i (q::bs):=by
 rw[wZ,oT g o i eX]
 lia
theorem Wy.app{g:Pr→Option Int}{as:List Pr}{q:Pr}{bs:List Pr}(a:Wy g as)(b:Wy g (q::bs))(s:zE (lstP as) q):Wy g (as++q::bs):=by
 refine⟨Wv,fun x hx=>?_,List.pairwise_append.mpr ⟨a.up,b.up,fun x hx y hy=>?_⟩⟩
 ·rcases List.mem_append.mp hx with h|h
  ·exact a.ok x h
  ·exact b.ok x h
 ·have h1:zE x q:=by
   rcases pw_lst a.up hx with e|e
   ·rw[e];exact s
   ·exact qw e s
  rcases List.mem_cons.mp hy with e|e
  ·rw[e];exact h1
  ·exact qw h1 ((List.pairwise_cons.mp b.up).1 y e)
theorem Wy.left{g:Pr→Option Int}{as bs:List Pr}(w:Wy g (as++bs))(h:as≠[]):Wy g as:=⟨h,fun x hx=>w.ok x (Ω hx),(List.pairwise_append.mp w.up).1⟩
theorem Wy.right{g:Pr→Option Int}{as bs:List Pr}(w:Wy g (as++bs))(h:bs≠[]):Wy g bs:=⟨h,fun x hx=>w.ok x (Ε hx),(List.pairwise_append.mp w.up).2.1⟩
section
variable(f:Nat→Nat→Option Int)(o p W:Int)
def BW(ps:List Pr):Prop:=Wy (lf f) ps∧vl (lf f) o p ps=W
def e7:Prop:=∀ps,Wy (lf f) ps→vl (lf f) o p ps≤W
inductive gN:Pr→Pr→Prop
 |way {a b:Pr} (ps:List Pr) (_:BW f o p W ps) (_:a∈ps) (_:b∈ps):gN a b
 |tr {a b c:Pr} (_:gN a b) (_:gN b c):gN a c
def uM(as:List Pr)(x y:Int):Int:=vl (lf f) o p as-(o*(x-1-(lstP as).1)+p*(y-1-(lstP as).2))
def OR(q:Pr)(bs:List Pr)(x y:Int):Int:=vl (lf f) o p (q::bs)-(o*(q.1-x)+p*(q.2-y))
def Over(x y:Int)(r:Pr):Prop:=∃as q bs,Wy (lf f) as∧Wy (lf f) (q::bs)∧(lstP as).1<x∧(lstP as).2<y∧x≤q.1∧y≤q.2∧vl (lf f) o p (as++q::bs)=W∧r∈q::bs
end
section
variable{f:Nat→Nat→Option Int}{o p W:Int}
theorem gN.symm{a b:Pr}(h:gN f o p W a b):gN f o p W b a:=by
 induction h with
 |way ps h1 h2 h3=>exact .way ps h1 h3 h2
 |tr _ _ i1 i2=>exact .tr i2 i1
theorem gN.left{a b:Pr}(h:gN f o p W a b):gN f o p W a a:= .tr h h.symm
theorem gN.on{a b:Pr}(h:gN f o p W a b):∃ps,BW f o p W ps∧a∈ps:=by
 induction h with
 |way ps h1 h2 h3=>exact⟨ps,h1,h2⟩
 |tr _ _ i1 _=>exact i1
theorem nM{as:List Pr}{q:Pr}{bs:List Pr}(eX:as≠[])(x y:Int):vl (lf f) o p (as++q::bs)=uM f o p as x y+OR f o p q bs x y:=by
 rw[AI _ _ _ eX];unfold uM OR gp;have e1:q.1-(lstP as).1-1=(x-1-(lstP as).1)+(q.1-x):=by lia
 have e2:q.2-(lstP as).2-1=(y-1-(lstP as).2)+(q.2-y):=by lia
 rw[e1,e2,Int.mul_add,Int.mul_add]
 lia
theorem mC(T:e7 f o p W){as ye:List Pr}{q:Pr}{bs:List Pr}{x y:Int}(a:Wy (lf f) as)(b:Wy (lf f) (q::bs))(h3:x≤q.1)(h4:y≤q.2)(hW:vl (lf f) o p (as++q::bs)=W)
  (a':Wy (lf f) ye) (l1:(lstP ye).1<x) (l2:(lstP ye).2<y) (hb:uM f o p as x y≤uM f o p ye x y):BW f o p W (ye++q::bs):=by
 have w:=a'.app b ⟨by lia,by lia⟩;refine⟨w,?_⟩;have:=T _ w;rw[nM a'.ne x y]at this⊢;rw[nM a.ne x y]at hW
 lia
theorem xh{as:List Pr}{i j:Nat}(a:Wy (lf f) as)(l1:(lstP as).1<(i:Int))(l2:(lstP as).2<(j:Int)):∃b,Bq f o p i j=some b∧uM f o p as i j≤b:=by
 have m:=f9 f o p i j;cases e:Bq f o p i j with
 |none=>rw[e]at m;exact ZE ⟨as,a,l1,l2,rfl⟩ (m _)
 |some b=>rw[e]at m;exact⟨b,rfl,m.2 _ ⟨as,a,l1,l2,rfl⟩⟩
theorem xi{i j:Nat}{b:Int}(e:Bq f o p i j=some b):∃as,Wy (lf f) as∧(lstP as).1<(i:Int)∧(lstP as).2<(j:Int)∧uM f o p as i j=b:=by
 have m:=f9 f o p i j;rw[e]at m;obtain⟨as,h1,h2,h3,h4⟩:=m.1;exact⟨as,h1,h2,h3,h4.symm⟩
theorem mD{i j:Nat}{b:Int}(e:dG f o p i j=some b):∃as,Wy (lf f) as∧lstP as=aR (i,j)∧vl (lf f) o p as=b:=by
 have m:=tH f o p i j;rw[e]at m;obtain⟨as,h1,h2,h3⟩:=m.1;exact⟨as,h1,h2,h3.symm⟩
theorem xj{as:List Pr}{i j:Nat}(a:Wy (lf f) as)(l:lstP as=aR (i,j)):∃b,dG f o p i j=some b∧vl (lf f) o p as≤b:=by
 have m:=tH f o p i j;cases e:dG f o p i j with
 |none=>rw[e]at m;exact ZE ⟨as,a,l,rfl⟩ (m _)
 |some b=>rw[e]at m;exact⟨b,rfl,m.2 _ ⟨as,a,l,rfl⟩⟩
theorem Fx{i j:Nat}(e:dG f o p i j=some W):gN f o p W (aR (i,j)) (aR (i,j)):=by
 obtain⟨as,h1,h2,h3⟩:=mD e;have:aR (i,j)∈as:=by rw[←h2];exact dq h1.ne
 exact .way as ⟨h1,h3⟩ this this
theorem Df(T:e7 f o p W){i j:Nat}{r:Pr}(h:Over f o p W ((i+1:Nat):Int) ((j+1:Nat):Int) r)(e:dG f o p i j=Bq f o p (i+1) (j+1)):gN f o p W (aR (i,j)) r:=by
 obtain⟨as,q,bs,a,b,l1,l2,l3,l4,hW,hr⟩:=h;obtain⟨v,hv,hle⟩:=xh (o:=o) (p:=p) a l1 l2;rw[hv]at e;obtain⟨ye,a',k1,k2⟩:=mD e;have hb:uM f o p ye ((i+1:Nat):Int) ((j+1:Nat):Int)=v:=by
  unfold uM;rw[k1,k2];have e1:((i+1:Nat):Int)-1-(aR (i,j)).1=0:=by show((i+1:Nat):Int)-1-(i:Int)=0;lia
  have e2:((j+1:Nat):Int)-1-(aR (i,j)).2=0:=by show((j+1:Nat):Int)-1-(j:Int)=0;lia
  rw[e1,e2,Int.mul_zero,Int.mul_zero];lia
 have:=mC T a b l3 l4 hW a' (by rw[k1];simp[aR];lia) (by rw[k1];simp[aR];lia) (by rw[hb];exact hle);refine .way _ this (Ω ?_) (Ε hr);rw[←k1];exact dq a'.ne
theorem rD(T:e7 f o p W){i j x y:Nat}{r:Pr}{c:Int}(h:Over f o p W ((i+1:Nat):Int) ((j+1:Nat):Int) r)(hx:x≤i+1)(hy:y≤j+1)(hc:c=o*((i+1:Nat)-x:Int)+p*((j+1:Nat)-y:Int))(e:bB (Bq f o p x y) c=Bq f o p (i+1) (j+1)):Over f o p W (x:Int) (y:Int) r:=by
 obtain⟨as,q,bs,a,b,l1,l2,l3,l4,hW,hr⟩:=h;obtain⟨v,hv,hle⟩:=xh (o:=o) (p:=p) a l1 l2;rw[hv]at e;cases e2:Bq f o p x y with
 |none=>rw[e2]at e;cases e
 |some v2=>
  rw[e2]at e;have e:v2-c=v:=by simpa[bB]using e
  obtain⟨ye,a',k1,k2,k3⟩:=xi e2;have hb:uM f o p ye ((i+1:Nat):Int) ((j+1:Nat):Int)=v:=by
   unfold uM at k3⊢;have e1:((i+1:Nat):Int)-1-(lstP ye).1=((x:Int)-1-(lstP ye).1)+((i+1:Nat)-x:Int):=by lia
   have e2:((j+1:Nat):Int)-1-(lstP ye).2=((y:Int)-1-(lstP ye).2)+((j+1:Nat)-y:Int):=by lia
   rw[e1,e2,Int.mul_add,Int.mul_add]
   lia
  have:=mC T a b l3 l4 hW a' Mm (by lia) (by rw[hb];exact hle);exact⟨ye,q,bs,a',b,k1,k2,by lia,by lia,this.2,hr⟩
theorem HM(T:e7 f o p W){i j:Nat}(h:gN f o p W (aR (i,j)) (aR (i,j)))(g:gP (Bq f o p i j)=true):Over f o p W (i:Int) (j:Int) (aR (i,j)):=by
 obtain⟨ws,⟨hw,hW⟩,hm⟩:=h.on;obtain⟨u,v,rfl⟩:=List.append_of_mem hm;cases e:Bq f o p i j with
 |none=>rw[e]at g;cases g
 |some b=>
  rw[e]at g;have g:0≤b:=by simpa[gP]using g
  obtain⟨as,a,k1,k2,k3⟩:=xi e;have hr:Wy (lf f) (aR (i,j)::v):=hw.right V9;have ws:=a.app hr ⟨k1,k2⟩;have hle:=T _ ws;have cv:=nM (f:=f) (o:=o) (p:=p) (q:=aR (i,j)) (bs:=v) a.ne (i:Int) (j:Int);have ha:OR f o p (aR (i,j)) v (i:Int) (j:Int)=vl (lf f) o p (aR (i,j)::v):=by
   unfold OR;have e1:(aR (i,j)).1-(i:Int)=0:=by simp[aR]
   have e2:(aR (i,j)).2-(j:Int)=0:=by simp[aR]
   rw[e1,e2,Int.mul_zero,Int.mul_zero];lia
  have Zu:W≤b+vl (lf f) o p (aR (i,j)::v):=by
   by_cases hu:u=[]
   ·subst hu;simp only[List.nil_append]at hW
    lia
   ·have cu:=nM (f:=f) (o:=o) (p:=p) (q:=aR (i,j)) (bs:=v) hu (i:Int) (j:Int);have QL:Wy (lf f) u:=hw.left hu;have hs:zE (lstP u) (aR (i,j)):=(List.pairwise_append.mp hw.up).2.2 _ (dq hu) _ (Wv);obtain⟨b2,xk,aaJ⟩:=xh (o:=o) (p:=p) QL (i:=i) (j:=j) hs.1 hs.2;rw[e]at xk;cases xk
    lia
  exact⟨as,aR (i,j),v,a,hr,k1,k2,by simp[aR],by simp[aR],by lia,Wv⟩
theorem over_over(T:e7 f o p W){x y:Int}{r r':Pr}(h:Over f o p W x y r)(h':Over f o p W x y r'):gN f o p W r r':=by
 obtain⟨as,q,bs,a,b,l1,l2,l3,l4,hW,hr⟩:=h;obtain⟨ye,q',XJ,a',b',k1,k2,k3,k4,Vq,LO⟩:=h';have w1:BW f o p W (as++q::bs):=⟨a.app b ⟨by lia,by lia⟩,hW⟩
 have w2:BW f o p W (ye++q'::XJ):=⟨a'.app b' ⟨by lia,by lia⟩,Vq⟩
 by_cases hb:uM f o p as x y≤uM f o p ye x y
 ·have:=mC T a b l3 l4 hW a' k1 k2 hb;exact .tr (.way (b:=lstP ye) _ this (Ε hr) (Ω (dq a'.ne))) (.way _ w2 (Ω (dq a'.ne)) (Ε LO))
 ·have:=mC T a' b' k3 k4 Vq a l1 l2 Mm;exact .tr (.way (b:=lstP as) _ w1 (Ε hr) (Ω (dq a.ne))) (.way _ this (Ω (dq a.ne)) (Ε LO))
theorem between(T:e7 f o p W){u v:List Pr}{q r:Nat×Nat}(w:BW f o p W (u++aR q::aR r::v)):
  (∀x y:Nat,q.1<x→q.2<y→x≤r.1→y≤r.2→Bq f o p x y=some (uM f o p (u++[aR q]) x y))∧dG f o p q.1 q.2=some (vl (lf f) o p (u++[aR q]))∧0≤uM f o p (u++[aR q]) r.1 r.2:=by
 obtain⟨w,hW⟩:=w;have e:u++aR q::aR r::v=(u++[aR q])++aR r::v:=Wv;rw[e]at w hW;have hl:Wy (lf f) (u++[aR q]):=w.left V9;have hr:Wy (lf f) (aR r::v):=w.right V9;have ls:lstP (u++[aR q])=aR q:=dN;have vx:zE (aR q) (aR r):=by
  have:=(List.pairwise_append.mp w.up).2.2 _ (dq hl.ne) (aR r) (Wv);rw[ls]at this;exact this
 refine⟨fun x y h1 h2 h3 h4=>?_,?_,?_⟩
 ·have c1:(lstP (u++[aR q])).1<(x:Int):=by rw[ls];simp[aR];lia
  have c2:(lstP (u++[aR q])).2<(y:Int):=by rw[ls];simp[aR];lia
  obtain⟨b,hb,hle⟩:=xh (o:=o) (p:=p) hl c1 c2;rw[hb]
  congr 1
  obtain⟨as,a,k1,k2,k3⟩:=xi hb;have wa:=a.app hr ⟨by simp[aR];lia,by simp[aR];lia⟩;have:=T _ wa;rw[nM a.ne (x:Int) (y:Int)]at this;rw[nM hl.ne (x:Int) (y:Int)]at hW
  lia
 ·obtain⟨b,hb,hle⟩:=xj (o:=o) (p:=p) hl (i:=q.1) (j:=q.2) ls;rw[hb]
  congr 1
  obtain⟨as,a,k1,k2⟩:=mD hb;have wa:=a.app hr (by rw[k1];exact vx);have:=T _ wa;rw[AI _ _ _ a.ne,k1,show aR (q.1,q.2)=aR q from rfl]at this;rw[AI _ _ _ hl.ne,ls]at hW
  lia
 ·have:=T _ hr;rw[nM hl.ne (r.1:Int) (r.2:Int)]at hW;unfold OR at hW;have e1:(aR r).1-(r.1:Int)=0:=by simp[aR]
  have e2:(aR r).2-(r.2:Int)=0:=by simp[aR]
  rw[e1,e2,Int.mul_zero,Int.mul_zero]at hW
  lia
end
abbrev GS:=(Pr→Pr→Prop)×(Pr→Option Pr)
def y9(s:GS)(c r:Pr):GS:=
 match s.2 c with
 |some r0=>(qD s.1 r0 r,s.2)
 |none=>(s.1,fun x=>if x=c then some r else s.2 x)
section
variable(f:Nat→Nat→Option Int)(o p W:Int)
def Ju(i j:Nat)(s:GS)(r:Pr):GS:=(if dG f o p i j=Bq f o p (i+1) (j+1)then qD (Jt s.1 (aR (i,j))) (aR (i,j)) r else s.1,s.2)
def LP(i j:Nat)(s:GS)(r:Pr):GS:=(br f o p i j).foldl (fun s c=>y9 s c r) (Ju f o p i j s r)
def HN(i j:Nat)(s:GS):GS:=(if dG f o p i j=some W then Jt s.1 (aR (i,j))else s.1,s.2)
def DH(i j:Nat)(s:GS):GS:=
 match s.2 (aR (i+1,j+1))with
 |some r=>LP f o p i j (HN f o p W i j s) r
 |none=>HN f o p W i j s
open Classical in
noncomputable def zI(i j:Nat)(s:GS):GS:=if (DH f o p W i j s).1 (aR (i,j)) (aR (i,j))∧gP (Bq f o p i j)=true then y9 (DH f o p W i j s) (aR (i,j)) (aR (i,j))else DH f o p W i j s
structure iq(s:GS):Prop where
 sy:∀a b,s.1 a b→s.1 b a
 tr:∀a b c,s.1 a b→s.1 b c→s.1 a c
 hg:∀a b,s.1 a b→gN f o p W a b
 mr:∀c r,s.2 c=some r→s.1 r r∧∃i j:Nat,c=aR (i,j)∧Over f o p W (i:Int) (j:Int) r
end
structure Gw(s s':GS)(N:Pr→Prop)(M:Pr→Prop):Prop where
 e:∀a b,s.1 a b→s'.1 a b
 n:∀a,s'.1 a a→s.1 a a∨N a
 m:∀c r,s.2 c=some r→s'.2 c=some r
 k:∀c r,s'.2 c=some r→s.2 c=some r∨M c
theorem Gw.refl{s:GS}{N M:Pr→Prop}:Gw s s N M:=⟨fun _ _ h=>h,fun _ h=> .inl h,fun _ _ h=>h,fun _ _ h=> .inl h⟩
theorem Gw.trans{s s' wu:GS}{N M:Pr→Prop}(a:Gw s s' N M)(b:Gw s' wu N M):Gw s wu N M:=
 ⟨fun x y h=>b.e x y (a.e x y h),fun x h=>(b.n x h).elim (a.n x) .inr,fun c r h=>b.m c r (a.m c r h),fun c r h=>(b.k c r h).elim (a.k c r) .inr⟩
theorem Gw.wide{s s':GS}{N M N' M':Pr→Prop}(a:Gw s s' N M)(hN:∀x,N x→N' x)(hM:∀x,M x→M' x):Gw s s' N' M':=⟨a.e,fun x h=>(a.n x h).imp id (hN x),a.m,fun c r h=>(a.k c r h).imp id (hM c)⟩
section
variable{f:Nat→Nat→Option Int}{o p W:Int}{s:GS}
theorem iq.Vr(k:iq f o p W s){a b:Pr}(ha:s.1 a a)(hb:s.1 b b)(h:gN f o p W a b):iq f o p W (qD s.1 a b,s.2):=by
 have hc:∀c,s.1 c a∨s.1 c b→gN f o p W c a:=fun c h'=>h'.elim (k.hg c a) fun z=> .tr (k.hg c b z) h.symm
 refine⟨fun x y h=>?_,fun x y z h1 h2=>?_,fun x y h=>?_,fun c r h=>⟨.inl (k.mr c r h).1,(k.mr c r h).2⟩⟩
 ·exact h.imp (k.sy x y) fun h=>⟨h.2,h.1⟩
 ·rcases h1 with h1|⟨h1,Jd⟩
  ·rcases h2 with h2|⟨h2,Je⟩
   ·exact .inl (k.tr _ _ _ h1 h2)
   ·exact .inr ⟨h2.imp (k.tr _ _ _ h1) (k.tr _ _ _ h1),Je⟩
  ·rcases h2 with h2|⟨h2,Je⟩
   ·exact .inr ⟨h1,Jd.imp (k.tr _ _ _ (k.sy _ _ h2)) (k.tr _ _ _ (k.sy _ _ h2))⟩
   ·exact .inr ⟨h1,Je⟩
 ·rcases h with h|⟨h1,h2⟩
  ·exact k.hg x y h
  ·exact .tr (hc x h1) (hc y h2).symm
theorem iq.take(k:iq f o p W s){a:Pr}(h:gN f o p W a a):iq f o p W (Jt s.1 a,s.2):=by
 refine⟨fun x y h=>?_,fun x y z h1 h2=>?_,fun x y h'=>?_,fun c r h=>⟨.inl (k.mr c r h).1,(k.mr c r h).2⟩⟩
 ·exact h.imp (k.sy x y) fun h=>⟨h.2,h.1⟩
 ·rcases h1 with h1|⟨h1,Jd⟩
  ·rcases h2 with h2|⟨h2,Je⟩
   ·exact .inl (k.tr _ _ _ h1 h2)
   ·subst h2 Je;exact .inl h1
  ·subst h1 Jd;exact h2
 ·rcases h' with h'|⟨h1,h2⟩
  ·exact k.hg x y h'
  ·subst h1 h2;exact h
theorem Fy(sy:∀a b,s.1 a b→s.1 b a)(tr:∀a b c,s.1 a b→s.1 b c→s.1 a c){a b:Pr}:Gw s (qD s.1 a b,s.2) (fun _=>False) (fun _=>False):=by
 refine⟨fun _ _ h=> .inl h,fun x h=> .inl ?_,fun _ _ h=>h,fun _ _ h=> .inl h⟩;rcases h with h|⟨h,_⟩
 ·exact h
 ·exact h.elim (fun z=>tr _ _ _ z (sy _ _ z)) fun z=>tr _ _ _ z (sy _ _ z)
theorem iq.mark(T:e7 f o p W)(k:iq f o p W s){i j:Nat}{r:Pr}(hr:s.1 r r)(ov:Over f o p W (i:Int) (j:Int) r):iq f o p W (y9 s (aR (i,j)) r):=by
 unfold y9;cases e:s.2 (aR (i,j))with
 |some r0=>
  obtain⟨h1,i2,j2,h2,h3⟩:=k.mr _ _ e;have h2:(i:Int)=i2∧(j:Int)=j2:=by simpa[aR]using h2
  rw[←h2.1,←h2.2]at h3;exact k.Vr h1 hr (over_over T h3 ov)
 |none=>
  refine⟨k.sy,k.tr,k.hg,fun c r' h=>?_⟩;have h:(if c=aR (i,j)then some r else s.2 c)=some r':=h;by_cases e2:c=aR (i,j)
  ·rw[U6 e2]at h;cases h;exact⟨hr,i,j,e2,ov⟩
  ·rw[Sn e2]at h;exact k.mr c r' h
theorem Jv(k:iq f o p W s){c r:Pr}:Gw s (y9 s c r) (fun _=>False) (·=c):=by
 unfold y9;cases e:s.2 c with
 |some r0=>exact(Fy k.sy k.tr).wide (fun _ h=>h) fun _ h=>h.elim
 |none=>
  refine⟨fun _ _ h=>h,fun _ h=> .inl h,fun c' r' h=>?_,fun c' r' h=>?_⟩
  ·show(if c'=c then some r else s.2 c')=some r';rw[Sn (fun z=>by rw[z,e]at h;cases h)];exact h
  ·have h:(if c'=c then some r else s.2 c')=some r':=h;by_cases e2:c'=c
   ·exact .inr e2
   ·rw[Sn e2]at h;exact .inl h
theorem Fz(k:iq f o p W s){c r:Pr}(hr:s.1 r r):∃r',(y9 s c r).2 c=some r'∧(y9 s c r).1 r r':=by
 unfold y9;cases e:s.2 c with
 |some r0=>exact⟨r0,e, .inr ⟨.inr hr, .inl (k.mr _ _ e).1⟩⟩
 |none=>exact⟨r,Wv,hr⟩
theorem tO(T:e7 f o p W){r:Pr}:∀(cs:List Pr)(s:GS),iq f o p W s→s.1 r r→(∀c∈cs,∃i j:Nat,c=aR (i,j)∧Over f o p W (i:Int) (j:Int) r)→
  iq f o p W (cs.foldl (fun s c=>y9 s c r) s)∧Gw s (cs.foldl (fun s c=>y9 s c r) s) (fun _=>False) (·∈cs)∧∀c∈cs,∃r',(cs.foldl (fun s c=>y9 s c r) s).2 c=some r'∧(cs.foldl (fun s c=>y9 s c r) s).1 r r'
 |[],s,k,_,_=>⟨k, .refl,fun c h=>by cases h⟩
 |c::cs,s,k,hr,h=>by
  obtain⟨i,j,rfl,ov⟩:=h c (Wv);have k1:=k.mark T hr ov;have g1:=Jv k (c:=aR (i,j)) (r:=r);obtain⟨r',m1,m2⟩:=Fz k (c:=aR (i,j)) hr;obtain⟨a1,a2,a3⟩:=tO T cs _ k1 (g1.e _ _ hr) fun c hc=>h c (by simp[hc])
  refine⟨a1,(g1.wide (fun _ h=>h) fun x hx=>?_).trans (a2.wide (fun _ h=>h) fun x hx=>?_),fun c hc=>?_⟩
  ·show x∈_::_;rw[hx];simp
  ·exact Η hx
  ·rcases List.mem_cons.mp hc with rfl|hc
   ·exact⟨r',a2.m _ _ m1,a2.e _ _ m2⟩
   ·exact a3 c hc
theorem rE(T:e7 f o p W){i j:Nat}{r:Pr}(h:Over f o p W ((i+1:Nat):Int) ((j+1:Nat):Int) r):∀c∈br f o p i j,∃x y:Nat,c=aR (x,y)∧Over f o p W (x:Int) (y:Int) r:=by
 intro c hc;unfold br at hc;rcases List.mem_append.mp hc with hc|hc
 ·split at hc
  ·rename_i e
   have:c=aR (i,j+1):=by simpa[aR]using hc
   refine⟨i,j+1,this,rD T h Mm (by lia) ?_ e⟩;have e1:((i+1:Nat):Int)-(i:Int)=1:=by lia
   have e2:((j+1:Nat):Int)-((j+1:Nat):Int)=0:=by lia
   rw[e1,e2];lia
  ·cases hc
 ·split at hc
  ·rename_i e
   have:c=aR (i+1,j):=by simpa[aR]using hc
   refine⟨i+1,j,this,rD T h Mm (by lia) ?_ e⟩;have e1:((i+1:Nat):Int)-((i+1:Nat):Int)=0:=by lia
   have e2:((j+1:Nat):Int)-(j:Int)=1:=by lia
   rw[e1,e2];lia
  ·cases hc
theorem FA(T:e7 f o p W)(k:iq f o p W s){i j:Nat}{r:Pr}(hr:s.1 r r)(ov:Over f o p W ((i+1:Nat):Int) ((j+1:Nat):Int) r):
  iq f o p W (Ju f o p i j s r)∧Gw s (Ju f o p i j s r) (·=aR (i,j)) (·∈br f o p i j)∧(dG f o p i j=Bq f o p (i+1) (j+1)→(Ju f o p i j s r).1 (aR (i,j)) r):=by
 unfold Ju;by_cases e:dG f o p i j=Bq f o p (i+1) (j+1)
 ·rw[U6 e];have h:=Df T ov e;have k1:=k.take h.left;have k2:=k1.Vr (a:=aR (i,j)) (b:=r) (.inr ⟨rfl,rfl⟩) (.inl hr) h;refine⟨k2,⟨fun a b h=> .inl (.inl h),fun a h=>?_,fun _ _ h=>h,fun _ _ h=> .inl h⟩,fun _=> .inr ⟨.inl (.inr ⟨rfl,rfl⟩), .inr (.inl hr)⟩⟩;rcases(Fy (s:=(Jt s.1 (aR (i,j)),s.2)) k1.sy k1.tr).n a h with h|h
  ·exact h.imp id And.left
  ·exact h.elim
 ·rw[Sn e];exact⟨⟨k.sy,k.tr,k.hg,k.mr⟩, .refl,fun z=>ZE z e⟩
theorem OS(T:e7 f o p W)(k:iq f o p W s){i j:Nat}{r:Pr}(hr:s.1 r r)(ov:Over f o p W ((i+1:Nat):Int) ((j+1:Nat):Int) r):
  iq f o p W (LP f o p i j s r)∧Gw s (LP f o p i j s r) (·=aR (i,j)) (·∈br f o p i j)∧(dG f o p i j=Bq f o p (i+1) (j+1)→(LP f o p i j s r).1 (aR (i,j)) r)∧∀c∈br f o p i j,∃r',(LP f o p i j s r).2 c=some r'∧(LP f o p i j s r).1 r r':=by
 obtain⟨b1,b2,b3⟩:=FA T k hr ov;obtain⟨a1,a2,a3⟩:=tO T (br f o p i j) _ b1 (b2.e _ _ hr) (rE T ov);exact⟨a1,b2.trans (a2.wide (fun _ h=>h.elim) fun _ h=>h),fun e=>a2.e _ _ (b3 e),a3⟩
theorem FC(k:iq f o p W s)(i j:Nat):iq f o p W (HN f o p W i j s)∧Gw s (HN f o p W i j s) (·=aR (i,j)) (fun _=>False)∧(dG f o p i j=some W→(HN f o p W i j s).1 (aR (i,j)) (aR (i,j))):=by
 unfold HN;by_cases e:dG f o p i j=some W
 ·rw[U6 e];exact⟨k.take (Fx e),⟨fun _ _ h=> .inl h,fun _ h=>h.imp id And.left,fun _ _ h=>h,fun _ _ h=> .inl h⟩,fun _=> .inr ⟨rfl,rfl⟩⟩
 ·rw[Sn e];exact⟨⟨k.sy,k.tr,k.hg,k.mr⟩, .refl,fun z=>ZE z e⟩
def LQ(f:Nat→Nat→Option Int)(o p:Int)(i j:Nat)(c:Pr):Prop:=c∈br f o p i j∨c=aR (i,j)
theorem FG(T:e7 f o p W)(k:iq f o p W s)(i j:Nat):iq f o p W (DH f o p W i j s)∧Gw s (DH f o p W i j s) (·=aR (i,j)) (LQ f o p i j)∧(dG f o p i j=some W→(DH f o p W i j s).1 (aR (i,j)) (aR (i,j)))∧∀r,s.2 (aR (i+1,j+1))=some r→
  (dG f o p i j=Bq f o p (i+1) (j+1)→(DH f o p W i j s).1 (aR (i,j)) r)∧∀c∈br f o p i j,∃r',(DH f o p W i j s).2 c=some r'∧(DH f o p W i j s).1 r r':=by
 obtain⟨k1,g1,e1⟩:=FC k i j;unfold DH;cases e:s.2 (aR (i+1,j+1))with
 |none=>exact⟨k1,g1.wide (fun _ h=>h) fun _ h=>h.elim,e1,fun r h=>by cases h⟩
 |some r=>
  obtain⟨h1,i2,j2,h2,h3⟩:=k.mr _ _ e;have h2:((i+1:Nat):Int)=i2∧((j+1:Nat):Int)=j2:=by simpa[aR]using h2
  rw[←h2.1,←h2.2]at h3;obtain⟨a1,a2,a3,a4⟩:=OS T k1 (g1.e _ _ h1) h3;refine⟨a1,(g1.wide (fun _ h=>h) fun _ h=>h.elim).trans (a2.wide (fun _ h=>h) fun _ h=> .inl h),fun z=>a2.e _ _ (e1 z),fun r' h=>?_⟩;cases h;exact⟨a3,a4⟩
theorem OT(T:e7 f o p W)(k:iq f o p W s)(i j:Nat):iq f o p W (zI f o p W i j s)∧Gw s (zI f o p W i j s) (·=aR (i,j)) (LQ f o p i j)∧(dG f o p i j=some W→(zI f o p W i j s).1 (aR (i,j)) (aR (i,j)))∧(∀r,s.2 (aR (i+1,j+1))=some r→
  (dG f o p i j=Bq f o p (i+1) (j+1)→(zI f o p W i j s).1 (aR (i,j)) r)∧∀c∈br f o p i j,∃r',(zI f o p W i j s).2 c=some r'∧(zI f o p W i j s).1 r r')∧
  ((zI f o p W i j s).1 (aR (i,j)) (aR (i,j))→gP (Bq f o p i j)=true→∃r,(zI f o p W i j s).2 (aR (i,j))=some r∧(zI f o p W i j s).1 (aR (i,j)) r):=by
 obtain⟨k1,g1,e1,o1⟩:=FG T k i j;unfold zI;split
 ·rename_i h
  have k2:=k1.mark T h.1 (HM T (k1.hg _ _ h.1) h.2);have g2:=Jv k1 (c:=aR (i,j)) (r:=aR (i,j));refine⟨k2,g1.trans (g2.wide (fun _ h=>h.elim) fun _ h=> .inr h),fun z=>g2.e _ _ (e1 z),fun r hr=>?_,fun _ _=>Fz k1 h.1⟩;obtain⟨a1,a2⟩:=o1 r hr;refine⟨fun z=>g2.e _ _ (a1 z),fun c hc=>?_⟩;obtain⟨r',b1,b2⟩:=a2 c hc;exact⟨r',g2.m _ _ b1,g2.e _ _ b2⟩
 ·rename_i h
  exact⟨k1,g1,e1,o1,fun h1 h2=>ZE ⟨h1,h2⟩ h⟩
end
structure Vd(f:Nat→Nat→Option Int)(o p W:Int)(V:Nat→Nat→Prop)(s:GS):Prop where
 ok:iq f o p W s
 XM:∀a,s.1 a a→∃i j:Nat,a=aR (i,j)∧V i j
 en:∀i j,V i j→dG f o p i j=some W→s.1 (aR (i,j)) (aR (i,j))
 on:∀i j,V i j→s.1 (aR (i,j)) (aR (i,j))→gP (Bq f o p i j)=true→∃r,s.2 (aR (i,j))=some r∧s.1 (aR (i,j)) r
 ov:∀i j r,V i j→s.2 (aR (i+1,j+1))=some r→(dG f o p i j=Bq f o p (i+1) (j+1)→s.1 (aR (i,j)) r)∧∀c∈br f o p i j,∃r',s.2 c=some r'∧s.1 r r'
theorem iM{a b c d:Nat}(h:aR (a,b)=aR (c,d)):a=c∧b=d:=by
 have h:(a:Int)=c∧(b:Int)=d:=by simpa[aR]using h
 lia
theorem FH{f:Nat→Nat→Option Int}{o p:Int}{i j a b:Nat}(h:LQ f o p i j (aR (a+1,b+1))):(a+1=i∧b+1=j)∨(a+1=i∧b=j)∨(a=i∧b+1=j):=by
 rcases h with h|h
 ·unfold br at h;rcases List.mem_append.mp h with h|h
  ·split at h
   ·have:aR (a+1,b+1)=aR (i,j+1):=by simpa[aR]using h
    have:=iM this
    lia
   ·cases h
  ·split at h
   ·have:aR (a+1,b+1)=aR (i+1,j):=by simpa[aR]using h
    have:=iM this
    lia
   ·cases h
 ·have:=iM h
  lia
def Vb(n m i j:Nat)(a b:Nat):Prop:=a<n∧b<m∧(i<a∨(i=a∧j≤b))
theorem Vd.start(f:Nat→Nat→Option Int)(o p W:Int)(n m:Nat):Vd f o p W (Vb n m n 0) (fun _ _=>False,fun _=>none):=by
 have no:∀a b,¬Vb n m n 0 a b:=fun a b ⟨h1,_,h2⟩=>by lia
 exact⟨⟨fun _ _ h=>h.elim,fun _ _ _ h=>h.elim,fun _ _ h=>h.elim,fun _ _ h=>(by cases h)⟩,fun _ h=>h.elim,fun i j h=>ZE h (no i j),fun i j h=>ZE h (no i j),fun i j r h=>ZE h (no i j)⟩
theorem Vd.turn{f:Nat→Nat→Option Int}{o p W:Int}{n m i:Nat}{s:GS}(v:Vd f o p W (Vb n m (i+1) 0) s):Vd f o p W (Vb n m i m) s:=by
 have e:Vb n m (i+1) 0=Vb n m i m:=by
  funext a b
  simp only[Vb,eq_iff_iff]
  lia
 rw[←e];exact v
theorem Vd.next{f:Nat→Nat→Option Int}{o p W:Int}{n m i j:Nat}{s:GS}(T:e7 f o p W)(hi:i<n)(hj:j<m)(v:Vd f o p W (Vb n m i (j+1)) s):Vd f o p W (Vb n m i j) (zI f o p W i j s):=by
 obtain⟨k,g,e,ov,on⟩:=OT T v.ok i j;have cut:∀a b,Vb n m i j a b→(a=i∧b=j)∨Vb n m i (j+1) a b:=fun a b h=>by
  unfold Vb at h⊢
  lia
 have old:∀a b r,Vb n m i j a b→(zI f o p W i j s).2 (aR (a+1,b+1))=some r→s.2 (aR (a+1,b+1))=some r:=fun a b r h hr=>by
  rcases g.k _ _ hr with z|z
  ·exact z
  ·have:=FH z;unfold Vb at h
   lia
 refine⟨k,fun a ha=>?_,fun a b h he=>?_,fun a b h h1 h2=>?_,fun a b r h hr=>?_⟩
 ·rcases g.n a ha with z|z
  ·obtain⟨x,y,h1,h2⟩:=v.XM a z;exact⟨x,y,h1,by unfold Vb at h2⊢;lia⟩
  ·exact⟨i,j,z,by unfold Vb;lia⟩
 ·rcases cut a b h with⟨rfl,rfl⟩|h'
  ·exact e he
  ·exact g.e _ _ (v.en a b h' he)
 ·rcases cut a b h with⟨rfl,rfl⟩|h'
  ·exact on h1 h2
  ·have hs:s.1 (aR (a,b)) (aR (a,b)):=by
    rcases g.n _ h1 with z|z
    ·exact z
    ·have:=iM z;unfold Vb at h'
     lia
   obtain⟨r,z1,z2⟩:=v.on a b h' hs h2;exact⟨r,g.m _ _ z1,g.e _ _ z2⟩
 ·have LO:=old a b r h hr;rcases cut a b h with⟨rfl,rfl⟩|h'
  ·exact ov r LO
  ·obtain⟨z1,z2⟩:=v.ov a b r h' LO;refine⟨fun z=>g.e _ _ (z1 z),fun c hc=>?_⟩;obtain⟨r',y1,y2⟩:=z2 c hc;exact⟨r',g.m _ _ y1,g.e _ _ y2⟩
theorem jY{f:Nat→Nat→Option Int}{n m:Nat}(t:DC f n m){ps:List Pr}(w:Wy (lf f) ps){a:Pr}(h:a∈ps):∃i j:Nat,a=aR (i,j)∧i<n∧j<m:=by
 have hs:=w.ok a h;obtain⟨i,j,rfl⟩:=BF hs;rw[qx]at hs;obtain⟨h1,h2⟩:=t i j hs;exact⟨i,j,rfl,h1,h2⟩
theorem Vd.step{f:Nat→Nat→Option Int}{o p W:Int}{n m:Nat}{s:GS}(T:e7 f o p W)(v:Vd f o p W (Vb n m 0 0) s){us vs:List Pr}{q r:Nat×Nat}(w:BW f o p W (us++aR q::aR r::vs))(hr:r.1<n)(zJ:r.2<m)(hq:q.1<r.1)(FI:q.2<r.2)(hE:s.1 (aR r) (aR r)):s.1 (aR q) (aR r):=by
 obtain⟨b1,b2,b3⟩:=between T w;have ok:=v.ok;have V0:∀a b,a<n→b<m→Vb n m 0 0 a b:=fun a b h1 h2=>⟨h1,h2,by lia⟩
 have top:=b1 r.1 r.2 hq FI Zn (Nat.le_refl _);obtain⟨r0,m0,e0⟩:=v.on r.1 r.2 (V0 _ _ hr zJ) hE (by rw[top];simpa[gP]using b3);have XN:∀x y:Nat,uM f o p (us++[aR q]) (x:Int) (y:Int)-o=uM f o p (us++[aR q]) ((x+1:Nat):Int) (y:Int):=fun x y=>by
  unfold uM;have e1:((x+1:Nat):Int)-1-(lstP (us++[aR q])).1=((x:Int)-1-(lstP (us++[aR q])).1)+1:=by lia
  rw[e1,Int.mul_add];lia
 have XO:∀x y:Nat,uM f o p (us++[aR q]) (x:Int) (y:Int)-p=uM f o p (us++[aR q]) (x:Int) ((y+1:Nat):Int):=fun x y=>by
  unfold uM;have e1:((y+1:Nat):Int)-1-(lstP (us++[aR q])).2=((y:Int)-1-(lstP (us++[aR q])).2)+1:=by lia
  rw[e1,Int.mul_add];lia
 have go:∀d x y:Nat,(r.1-x)+(r.2-y)=d→q.1<x→q.2<y→x≤r.1→y≤r.2→∃r',s.2 (aR (x,y))=some r'∧s.1 (aR r) r':=by
  intro d
  induction d with
  |zero=>
   intro x y hd h1 h2 h3 h4;have:x=r.1:=by lia
   have:y=r.2:=by lia
   subst x y;exact⟨r0,m0,e0⟩
  |succ d ih=>
   intro x y hd h1 h2 h3 h4;by_cases hx:x<r.1
   ·obtain⟨r1,m1,e1⟩:=ih (x+1) y Mm (by lia) h2 Mm h4;obtain⟨y,rfl⟩:∃y',y=y'+1:=⟨y-1,by lia⟩
    obtain⟨_,z⟩:=v.ov x y r1 (V0 _ _ (by lia) (by lia)) m1;have hc:aR (x,y+1)∈br f o p x y:=by
     unfold br;refine List.mem_append_left _ ?_;rw[if_pos]
     ·simp[aR]
     ·rw[b1 x (y+1) h1 h2 h3 h4,b1 (x+1) (y+1) (by lia) h2 Mm h4];simp only[bB];rw[XN]
    obtain⟨r2,m2,e2⟩:=z _ hc;exact⟨r2,m2,ok.tr _ _ _ e1 e2⟩
   ·obtain⟨r1,m1,e1⟩:=ih x (y+1) (by lia) h1 Mm h3 Mm;obtain⟨x,rfl⟩:∃x',x=x'+1:=⟨x-1,by lia⟩
    obtain⟨_,z⟩:=v.ov x y r1 (V0 _ _ (by lia) (by lia)) m1;have hc:aR (x+1,y)∈br f o p x y:=by
     unfold br;refine List.mem_append_right _ ?_;rw[if_pos]
     ·simp[aR]
     ·rw[b1 (x+1) y h1 h2 h3 h4,b1 (x+1) (y+1) h1 Mm h3 Mm];simp only[bB];rw[XO]
    obtain⟨r2,m2,e2⟩:=z _ hc;exact⟨r2,m2,ok.tr _ _ _ e1 e2⟩
 obtain⟨r1,m1,e1⟩:=go _ (q.1+1) (q.2+1) rfl (by lia) (by lia) (by lia) (by lia);obtain⟨z,_⟩:=v.ov q.1 q.2 r1 (V0 _ _ (by lia) (by lia)) m1;have:=z (by
  rw[b2,b1 (q.1+1) (q.2+1) (by lia) (by lia) (by lia) (by lia)]
  congr 1
  unfold uM;rw[dN];have z1:((q.1+1:Nat):Int)-1-(aR q).1=0:=by show((q.1+1:Nat):Int)-1-(q.1:Int)=0;lia
  have z2:((q.2+1:Nat):Int)-1-(aR q).2=0:=by show((q.2+1:Nat):Int)-1-(q.2:Int)=0;lia
  rw[z1,z2,Int.mul_zero,Int.mul_zero];lia)
 exact ok.tr _ _ _ this (ok.sy _ _ e1)
theorem Vd.all{f:Nat→Nat→Option Int}{o p W:Int}{n m:Nat}{s:GS}(T:e7 f o p W)(t:DC f n m)(v:Vd f o p W (Vb n m 0 0) s){ws:List Pr}(w:BW f o p W ws):
  ∀(vs us:List Pr),ws=us++vs→vs≠[]→∀a∈vs,s.1 a (lh vs)
 |[],_,_,h=>absurd rfl h
 |[l],us,e,_=>fun a ha=>by
  have ha:a=l:=by simpa using ha
  subst ha;show s.1 a a;obtain⟨i,j,rfl,hi,hj⟩:=jY t w.1 (a:=a) (by rw[e];simp);have hl:lstP ws=aR (i,j):=by rw[e];exact dN
  obtain⟨b,hb,hle⟩:=xj (o:=o) (p:=p) w.1 hl;obtain⟨as,a1,a2,a3⟩:=mD hb;have:=T _ a1;have hW:=w.2;exact v.en i j ⟨hi,hj,by lia⟩ (by rw[hb];congr 1;lia)
 |q::r::vs,us,e,_=>fun a ha=>by
  have ih:=Vd.all T t v w (r::vs) (us++[q]) (by rw[e];simp) (Wv);have MI:s.1 r r:=ih r V9;have ok:=v.ok;obtain⟨i,j,hq,hi,hj⟩:=jY t w.1 (a:=q) (by rw[e];simp);obtain⟨x,y,hr,hx,hy⟩:=jY t w.1 (a:=r) (by rw[e];simp);have vx:zE q r:=by
   have:=w.1.up;rw[e]at this;exact(List.pairwise_cons.mp (List.pairwise_append.mp this).2.1).1 r V9
  rw[hq,hr]at vx;have h1:(i:Int)<x:=vx.1;have h2:(j:Int)<y:=vx.2;rw[e,hq,hr]at w;have key:=v.step T w (q:=(i,j)) (r:=(x,y)) hx hy (by show i<x;lia) (by show j<y;lia) (by rw[←hr];exact MI);rw[←hq,←hr]at key;show s.1 a q;rcases List.mem_cons.mp ha with rfl|ha
  ·exact ok.tr _ _ _ key (ok.sy _ _ key)
  ·exact ok.tr _ _ _ (ih a ha) (ok.sy _ _ key)
theorem Vd.Ti{f:Nat→Nat→Option Int}{o p W:Int}{n m:Nat}{s:GS}(T:e7 f o p W)(t:DC f n m)(v:Vd f o p W (Vb n m 0 0) s)(a b:Pr):s.1 a b↔gN f o p W a b:=by
 refine⟨v.ok.hg a b,fun h=>?_⟩
 induction h with
 |way ps w h1 h2=>
  have k:=Vd.all T t v w ps [] rfl w.1.ne;exact v.ok.tr _ _ _ (k _ h1) (v.ok.sy _ _ (k _ h2))
 |tr _ _ i1 i2=>exact v.ok.tr _ _ _ i1 i2
theorem Told.iff{E E':Pr→Pr→Prop}{gs:List (List Pr)}(t:Told E gs)(h:∀a b,E a b↔E' a b):Told E' gs:=
 ⟨t.qz,t.ne,fun ps hp a ha b=>(t.cls ps hp a ha b).trans (h a b),fun a ha=>t.all a ((h a a).mpr ha),t.apart⟩
def NT(H:Hp)(a:Addr):Prop:=∃o,H a=some o∧∀v,o≠ .tup v
theorem NT.same{H H':Hp}{a:Addr}(h:NT H a)(s:ax H H'):NT H' a:=let ⟨o,h1,h2⟩:=h;⟨o,s _ _ h1,h2⟩
theorem oX.cC{S S':Addr→Prop}{H H':Hp}(u:oX S H S' H')(h:∀a,S a→NT H a):c7 H H':=fun t v e=>u.keep t _ (fun z=>by
 obtain⟨o,h1,h2⟩:=h t z;rw[e]at h1;cases h1;exact h2 v rfl) e
theorem oX.out{S S':Addr→Prop}{H H':Hp}(u:oX S H S' H'){a:Addr}{o:HO}(h:¬S a)(e:H a=some o):¬S' a:=fun z=>by
 rcases u.grow a z with z|z
 ·exact h z
 ·rw[e]at z;cases z
theorem jX.nt{H:Hp}{C g:Addr}{S:Addr→Prop}{E:Pr→Pr→Prop}{B:Nat}(G:jX H C g S E B):jX H C g (fun a=>S a∧NT H a) E B:=by
 obtain⟨dg,dl,dm,kl,km,ld,mm,a1,a2,D,a4⟩:=G;refine⟨dg,dl,dm,kl,km,ld,mm,a1,fun z=>a2 z.1,⟨D.hl,D.hm,⟨D.sl,_,D.hl,fun v=>(Wv)⟩,⟨D.sm,_,D.hm,fun v=>(Wv)⟩,D.ne,D.lv,fun p=>?_,D.inj,D.key,D.BY,D.ms,D.ml,D.self⟩,a4⟩;have:=D.mv p;cases e:mm p with
 |none=>rw[e]at this;exact this
 |some ms=>
  rw[e]at this;obtain⟨a,us,h1,h2,h3,h4⟩:=this;exact⟨a,us,h1,h2,h3,h4,_,h2,fun v=>(Wv)⟩
structure Jw(K:W.Frag)(C:Addr):Prop where
 cl:wm K C
 tP:bZ K C "trails"
 worth:bZ K C "worth"
 groups:bZ K C "groups"
 marks:bZ K C "marks"
def jZ(tr:Addr)(W:Int)(g dk:Addr):List (Str×V):=[("trails", .ref tr),("worth", .int W),("groups", .ref g),("marks", .ref dk)]
theorem mE(a:Addr)(W:Int)(b c:Addr):(jZ a W b c).lookup ("trails":Str)=some (V.ref a):=by kernel_rfl
theorem FJ(a:Addr)(W:Int)(b c:Addr):(jZ a W b c).lookup ("worth":Str)=some (V.int W):=by kernel_rfl
theorem i4(a:Addr)(W:Int)(b c:Addr):(jZ a W b c).lookup ("groups":Str)=some (V.ref b):=by kernel_rfl
theorem lQ(a:Addr)(W:Int)(b c:Addr):(jZ a W b c).lookup ("marks":Str)=some (V.ref c):=by kernel_rfl
theorem B4(a:Addr)(W:Int)(b c:Addr):(jZ a W b c).lookup ("mark":Str)=none:=by kernel_rfl
theorem HP(a:Addr)(W:Int)(b c:Addr):(jZ a W b c).lookup ("go_over":Str)=none:=by kernel_rfl
theorem FK(a:Addr)(W:Int)(b c:Addr):(jZ a W b c).lookup ("visit":Str)=none:=by kernel_rfl
theorem LR(a:Addr)(W:Int)(b c:Addr):bq "marks" (.ref c) (bq "groups" (.ref b) (bq "worth" (.int W) (bq "trails" (.ref a) [])))=jZ a W b c:=by kernel_rfl
structure LS(H:Hp)(C CG x tr:Addr)(W:Int)(S:Addr→Prop)(s:GS)(B M:Nat)(dx g dk:Addr)(km:List (List Key×V))(S1:Addr→Prop):Prop where
 ob:H x=some (.ins C dx (jZ tr W g dk))
 gr:jX H CG g S1 s.1 B
 hk:H dk=some (.dT km)
 mv:∀c,LM H (bx km (bb c)) (s.2 c)
 len:km.length≤M
 sS:∀a,S a↔S1 a∨a=dk
 BY:¬S1 dk
 nx:¬S x
 ng:¬S g
 nt:∀a,S a→NT H a
def ir(H:Hp)(C CG x tr:Addr)(W:Int)(S:Addr→Prop)(s:GS)(B M:Nat):Prop:=∃dx g dk km S1,LS H C CG x tr W S s B M dx g dk km S1
theorem ir.nt{H:Hp}{C CG x tr:Addr}{W:Int}{S:Addr→Prop}{s:GS}{B M:Nat}(G:ir H C CG x tr W S s B M):∀a,S a→NT H a:=let ⟨_,_,_,_,_,D⟩:=G;D.nt
theorem ir.same{H H':Hp}{C CG x tr:Addr}{W:Int}{S:Addr→Prop}{s:GS}{B M:Nat}(G:ir H C CG x tr W S s B M)(t:ax H H'):ir H' C CG x tr W S s B M:=by
 obtain⟨dx,g,dk,km,S1,D⟩:=G;exact⟨dx,g,dk,km,S1,t _ _ D.ob,D.gr.same t,t _ _ D.hk,fun c=>(D.mv c).cC (c7.same t),D.len,D.sS,D.BY,D.nx,D.ng,fun a h=>(D.nt a h).same t⟩
theorem ir.out{H:Hp}{C CG x tr:Addr}{W:Int}{S:Addr→Prop}{s:GS}{B M:Nat}(G:ir H C CG x tr W S s B M){a:Addr}(h:H a=none):¬S a:=fun z=>by
 obtain⟨o,e,_⟩:=G.nt a z;rw[h]at e;cases e
theorem ir.cast{H:Hp}{C CG x tr:Addr}{W:Int}{S:Addr→Prop}{s s':GS}{B M B' M':Nat}(G:ir H C CG x tr W S s B M)(h:s=s')(hB:B≤B')(hM:M≤M'):ir H C CG x tr W S s' B' M':=by
 subst h;obtain⟨dx,g,dk,km,S1,D⟩:=G;exact⟨dx,g,dk,km,S1,D.ob,D.gr.iff (fun _ _=>Iff.rfl) hB,D.hk,D.mv,by have:=D.len;lia,D.sS,D.BY,D.nx,D.ng,D.nt⟩
section
variable{H H':Hp}{C CG x tr dx g dk:Addr}{W:Int}{S S1 LU:Addr→Prop}{s:GS}{B M B':Nat}{km:List (List Key×V)}
theorem LS.QM(D:LS H C CG x tr W S s B M dx g dk km S1){E':Pr→Pr→Prop}(u:oX S1 H LU H')(G:jX H' CG g LU E' B'):∃S' S2,oX S H S' H'∧LS H' C CG x tr W S' (E',s.2) B' M dx g dk km S2:=by
 have s1:∀a,S1 a→S a:=fun a h=>(D.sS a).mpr (.inl h)
 have XQ:∀a,S1 a→NT H a:=fun a h=>D.nt a (s1 a h)
 have T:=u.cC XQ;have EL:=u.keep dk _ D.BY D.hk;obtain⟨dg,dl,dm,kl,HQ,ld,mm,og,_⟩:=id D.gr;have gone:∀{a o},¬S a→H a=some o→a≠dk→¬((LU a∧NT H' a)∨a=dk):=fun{a o} h1 h2 h3 z=>by
  rcases z with z|z
  ·exact u.out (fun y=>h1 (s1 _ y)) h2 z.1
  ·exact h3 z
 have AJ:S dk:=(D.sS dk).mpr (.inr rfl);refine⟨fun a=>(LU a∧NT H' a)∨a=dk,fun a=>LU a∧NT H' a,⟨fun a h=>?_,fun a o h e=>u.keep a o (fun z=>h (s1 a z)) e⟩,⟨u.keep x _ (fun z=>D.nx (s1 _ z)) D.ob,G.nt,EL,fun c=>(D.mv c).cC T,D.len,fun a=>Iff.rfl,fun z=>u.out D.BY D.hk z.1,gone D.nx D.ob (fun z=>D.nx (by rw[z];exact AJ)),gone D.ng og (fun z=>D.ng (by rw[z];exact AJ)),fun a h=>?_⟩⟩
 ·rcases h with h|h
  ·exact(u.grow a h.1).imp (s1 a) id
  ·exact .inl (by rw[h];exact AJ)
 ·rcases h with h|h
  ·exact h.2
  ·exact⟨_,by rw[h];exact EL,fun v=>(Wv)⟩
theorem LS.put(D:LS H C CG x tr W S s B M dx g dk km S1){c r:Pr}{t:Addr}(ht:H t=some (.tup (jA r))):oX S H S (upd H dk (.dT (putK km (bb c) (.ref t))))∧LS (upd H dk (.dT (putK km (bb c) (.ref t)))) C CG x tr W S (s.1,fun y=>if y=c then some r else s.2 y) B (M+1) dx g dk (putK km (bb c) (.ref t)) S1:=by
 have AJ:S dk:=(D.sS dk).mpr (.inr rfl);have nx:x≠dk:=fun z=>D.nx (by rw[z];exact AJ)
 have ng:g≠dk:=fun z=>D.ng (by rw[z];exact AJ)
 have T:c7 H (upd H dk (.dT (putK km (bb c) (.ref t)))):=fun b v hb=>by
  rw[ak (fun z=>by rw[z,D.hk]at hb;cases hb)];exact hb
 refine⟨.put AJ,⟨by rw[ak nx];exact D.ob,D.gr.keep (fun a o h e=>by rw[ak (fun z=>D.BY (by rw[←z];exact h))];exact e) T (fun o e=>by rw[ak ng];exact e),ae,fun y=>?_,Nat.le_trans (eZ _ _ _) (by have:=D.len;lia),D.sS,D.BY,D.nx,D.ng,fun a h=>?_⟩⟩
 ·show LM _ _ (if y=c then some r else s.2 y);rw[i8];by_cases e:y=c
  ·rw[U6 (by rw[e]),U6 e];exact⟨t,rfl,T _ _ ht⟩
  ·rw[Sn (fun z=>e (du z)),Sn e];exact(D.mv y).cC T
 ·by_cases e:a=dk
  ·exact⟨_,by rw[e];exact ae,fun v=>(Wv)⟩
  ·obtain⟨o,h1,h2⟩:=D.nt a h;exact⟨o,by rw[ak e];exact h1,h2⟩
end
structure Base(H0 H:Hp)(S:Addr→Prop):Prop where
 same:ax H0 H
 free:∀a,S a→H0 a=none
theorem Base.ups{H0 H H':Hp}{S S':Addr→Prop}(b:Base H0 H S)(u:oX S H S' H'):Base H0 H' S':=by
 refine⟨fun a o h=>u.keep a o (fun z=>by rw[b.free a z]at h;cases h) (b.same a o h),fun a h=>?_⟩;rcases u.grow a h with z|z
 ·exact b.free a z
 ·exact b.same.free z
theorem Base.more{H0 H H':Hp}{S:Addr→Prop}(b:Base H0 H S)(s:ax H H'):Base H0 H' S:=⟨b.same.trans s,b.free⟩
inductive qE(C CG:Addr)(vs:List V)(H:Hp)(Q:VK)(u3:XK):Prop
 |mk (x dx tr:Addr) (W:Int) (_:vs=[.ref x, .ref tr, .int W]) (_:H x=some (.ins C dx [])) (_:∀H' S,SameBut x H H'→(∀a,S a→H a=none)→ir H' C CG x tr W S (fun _ _=>False,fun _=>none) 0 0→Q .cK H'):qE C CG vs H Q u3
inductive tQ(C CG:Addr)(vs:List V)(H:Hp)(Q:VK)(u3:XK):Prop
 |mk (x tc tp tr:Addr) (W:Int) (c r:Pr) (S:Addr→Prop) (s:GS) (B M:Nat) (_:vs=[.ref x, .ref tc, .ref tp]) (_:ir H C CG x tr W S s B M) (_:H tc=some (.tup (jA c))) (_:H tp=some (.tup (jA r))) (_:s.1 r r) (_:∀r0,s.2 c=some r0→s.1 r0 r0) (_:B≤10000) (_:M≤10000) (_:∀H' S',oX S H S' H'→ir H' C CG x tr W S' (y9 s c r) B (M+1)→Q .cK H'):tQ C CG vs H Q u3
inductive tR(C CG CT:Addr)(vs:List V)(H:Hp)(Q:VK)(u3:XK):Prop
 |mk (x tc tp tr dt e b:Addr) (es bs:List Addr) (f:Nat→Nat→Option Int) (o p:Int) (n m:Nat) (W:Int) (i j:Nat) (r:Pr) (S:Addr→Prop) (s:GS) (B M:Nat) (H0:Hp) (_:vs=[.ref x, .ref tc, .ref tp]) (_:ir H C CG x tr W S s B M) (_:qA H0 CT tr dt e b es bs f o p n m) (_:Base H0 H S) (_:H tc=some (.tup (jA (aR (i+1,j+1))))) (_:H tp=some (.tup (jA (aR (i,j))))) (_:i<n) (_:j<m) (_:e7 f o p W) (_:iq f o p W s) (_:s.2 (aR (i+1,j+1))=some r) (_:B<10000) (_:M+2≤10000)
  (_:∀H' S',oX S H S' H'→ir H' C CG x tr W S' (LP f o p i j s r) (B+1) (M+2)→Q .cK H'):tR C CG CT vs H Q u3
inductive qF(C CG CT:Addr)(vs:List V)(H:Hp)(Q:VK)(u3:XK):Prop
 |mk (x tr dt e b:Addr) (es bs:List Addr) (f:Nat→Nat→Option Int) (o p:Int) (n m:Nat) (W:Int) (i j:Nat) (S:Addr→Prop) (s:GS) (B M:Nat) (H0:Hp) (_:vs=[.ref x, .int i, .int j]) (_:ir H C CG x tr W S s B M) (_:qA H0 CT tr dt e b es bs f o p n m) (_:Base H0 H S) (_:i<n) (_:j<m) (_:n≤1000) (_:m≤1000) (_:e7 f o p W) (_:iq f o p W s) (_:B+2≤10000) (_:M+3≤10000)
  (_:∀H' S',oX S H S' H'→ir H' C CG x tr W S' (zI f o p W i j s) (B+2) (M+3)→Q .cK H'):qF C CG CT vs H Q u3
inductive AK(CT:Addr)(vs:List V)(H:Hp)(Q:VK)(u3:XK):Prop
 |mk (tr dt e b:Addr) (es bs:List Addr) (f:Nat→Nat→Option Int) (o p:Int) (n m:Nat) (W:Int) (_:vs=[.ref tr, .int W]) (_:qA H CT tr dt e b es bs f o p n m) (_:DC f n m) (_:n*m≤3000) (_:n≤1000) (_:m≤1000) (_:e7 f o p W)
  (_:∀H' r us gs,ax H H'→H r=none→H' r=some (.lst us)→gh H' us gs→(∀(k:Nat) a,us[k]?=some (.ref a)→H a=none)→Told (gN f o p W) gs→Q (.ref r) H'):AK CT vs H Q u3
structure Fd where
 worth:Int
 way:List Pr
 row:List Int
 pairs:List Pr
def zK(g:Pr→Option Int)(o p:Int)(ps:List Pr):List Int:=(Zj ps.length).map fun k=>vl g o p (ps.take (k+1))
theorem FN(g:Pr→Option Int)(o p:Int)(ps:List Pr)(q:Pr):zK g o p (ps++[q])=zK g o p ps++[vl g o p (ps++[q])]:=by
 unfold zK;rw[List.length_append,List.length_singleton,List.range_succ,List.map_append]
 congr 1
 ·apply List.map_congr_left;intro k hk;have:k<ps.length:=by simpa using hk
  rw[List.take_append_of_le_length Mm]
 ·simp;rw[List.take_of_length_le V9]
structure OU(f:Nat→Nat→Option Int)(o p W:Int)(d:Fd):Prop where
 worth:d.worth=W
 way:BW f o p W d.way
 row:d.row=zK (lf f) o p d.way
 sub:∀q∈d.way,q∈d.pairs
def iu(f:Nat→Nat→Option Int)(ps:List Pr):Nat→Nat→Option Int:=fun i j=>if aR (i,j)∈ps then none else f i j
def Stop(f:Nat→Nat→Option Int)(o p least:Int):Prop:=∀ps,Wy (lf f) ps→vl (lf f) o p ps<least
structure g9(f:Nat→Nat→Option Int)(o p least W:Int)(gs:List (List Pr))(ds:List Fd):Prop where
 top:e7 f o p W
 ex:∃ps,BW f o p W ps
 least:least≤W
 told:Told (gN f o p W) gs
 FO:ds.map Fd.pairs=gs
 ok:∀d∈ds,OU f o p W d
inductive Reach(f0:Nat→Nat→Option Int)(o p least:Int):List Fd→(Nat→Nat→Option Int)→Prop
 |start:Reach f0 o p least [] f0
 |round {done:List Fd} {f:Nat→Nat→Option Int} {W:Int} {gs:List (List Pr)} {ds:List Fd} (_:Reach f0 o p least done f) (_:g9 f o p least W gs ds):Reach f0 o p least (done++ds) (iu f gs.flatten)
theorem FP{f:Nat→Nat→Option Int}{n m:Nat}(t:DC f n m)(ps:List Pr):DC (iu f ps) n m:=fun i j h=>t i j (by
 unfold iu at h;split at h
 ·cases h
 ·exact h)
theorem Reach.Tj{f0 f:Nat→Nat→Option Int}{o p least:Int}{ds:List Fd}{n m:Nat}(t:DC f0 n m)(r:Reach f0 o p least ds f):DC f n m:=by
 induction r with
 |start=>exact t
 |round _ _ ih=>exact FP ih _
theorem sJ(f:Nat→Nat→Option Int)(ps:List Pr)(q:Pr):lf (iu f ps) q=if q∈ps then none else lf f q:=by
 unfold lf iu;by_cases h:0≤q.1∧0≤q.2
 ·rw[U6 h,U6 h];have:aR (q.1.toNat,q.2.toNat)=q:=Prod.ext (by simp[aR];lia) (by simp[aR];lia);rw[this]
 ·rw[Sn h,Sn h];split<;>rfl
theorem gN.open{f:Nat→Nat→Option Int}{o p W:Int}{a b:Pr}(h:gN f o p W a b):(lf f a).isSome=true:=by
 obtain⟨ps,⟨w,_⟩,hm⟩:=h.on;exact w.ok a hm
theorem Told.mem{E:Pr→Pr→Prop}{gs:List (List Pr)}(t:Told E gs){ps:List Pr}(h:ps∈gs){a:Pr}(ha:a∈ps):E a a:=(t.cls ps h a ha a).mp ha
structure Apart(f0 f:Nat→Nat→Option Int)(ds:List Fd):Prop where
 sub:∀q,(lf f q).isSome=true→lf f q=lf f0 q
 shut:∀d∈ds,∀q∈d.pairs,lf f q=none∧(lf f0 q).isSome=true
 ap:ds.Pairwise fun a b=>∀q∈a.pairs,q∉b.pairs
 qz:∀d∈ds,d.pairs.Pairwise (fun p q=>jD p q=true)∧d.pairs≠[]
 gone:∀q,lf f q=none→(lf f0 q).isSome=true→∃d∈ds,q∈d.pairs
theorem Reach.apart{f0 f:Nat→Nat→Option Int}{o p least:Int}{ds:List Fd}(r:Reach f0 o p least ds f):Apart f0 f ds:=by
 induction r with
 |start=>exact⟨fun _ _=>rfl,fun d h=>(by cases h), .nil,fun d h=>(by cases h),fun q h1 h2=>by rw[h1]at h2;cases h2⟩
 |@round done f W gs ds r R ih=>
  have mem:∀d∈ds,d.pairs∈gs:=fun d h=>by rw[←R.FO];exact List.mem_map.mpr ⟨d,h,rfl⟩
  have op:∀d∈ds,∀q∈d.pairs,(lf f q).isSome=true:=fun d h q hq=>(R.told.mem (mem d h) hq).open
  refine⟨fun q h=>?_,fun d h q hq=>?_,?_,fun d h=>?_,fun q h1 h2=>?_⟩
  ·rw[sJ]at h⊢;split at h
   ·cases h
   ·rename_i hn
    rw[Sn hn];exact ih.sub q h
  ·rw[sJ];rcases List.mem_append.mp h with h|h
   ·obtain⟨h1,h2⟩:=ih.shut d h q hq;exact⟨by split;rfl;exact h1,h2⟩
   ·rw[U6 (List.mem_flatten.mpr ⟨_,mem d h,hq⟩)];have:=op d h q hq;exact⟨rfl,by rw[←ih.sub q this];exact this⟩
  ·refine List.pairwise_append.mpr ⟨ih.ap,?_,fun a ha b hb q hq FI=>?_⟩
   ·have:=R.told.apart;rw[←R.FO,List.pairwise_map]at this;exact this
   ·have h1:=(ih.shut a ha q hq).1;have h2:=op b hb q FI;rw[h1]at h2;cases h2
  ·rcases List.mem_append.mp h with h|h
   ·exact ih.qz d h
   ·exact⟨R.told.qz _ (mem d h),R.told.ne _ (mem d h)⟩
  ·rw[sJ]at h1;by_cases hm:q∈gs.flatten
   ·obtain⟨ps,DE,hq⟩:=List.mem_flatten.mp hm;rw[←R.FO]at DE;obtain⟨d,hd,rfl⟩:=List.mem_map.mp DE;exact⟨d,Ε hd,hq⟩
   ·rw[Sn hm]at h1;obtain⟨d,hd,hq⟩:=ih.gone q h1 h2;exact⟨d,Ω hd,hq⟩
theorem tS(f:Nat→Nat→Option Int)(o p:Int):∀i j v,Bq f o p i j=some v→∃e,dG f o p (cJ f o p i j).1 (cJ f o p i j).2=some e∧v=e-(o*((i:Int)-1-(cJ f o p i j).1)+p*((j:Int)-1-(cJ f o p i j).2))
 |0,j,v,h=>by rw[iL]at h;cases h
 |i+1,0,v,h=>by unfold Bq at h;cases h
 |i+1,j+1,v,hB=>by
  unfold cJ;by_cases h1:dG f o p i j=Bq f o p (i+1) (j+1)
  ·rw[U6 h1];refine⟨v,by rw[h1,hB],?_⟩;have e1:((i+1:Nat):Int)-1-((i,j).1:Int)=0:=by show((i+1:Nat):Int)-1-(i:Int)=0;lia
   have e2:((j+1:Nat):Int)-1-((i,j).2:Int)=0:=by show((j+1:Nat):Int)-1-(j:Int)=0;lia
   rw[e1,e2,Int.mul_zero,Int.mul_zero];lia
  ·rw[Sn h1];by_cases h2:bB (Bq f o p i (j+1)) o=Bq f o p (i+1) (j+1)
   ·rw[U6 h2];cases e:Bq f o p i (j+1)with
    |none=>rw[e,hB]at h2;cases h2
    |some v2=>
     rw[e,hB]at h2;have h2:v2-o=v:=by simpa[bB]using h2
     obtain⟨x,hx,hv⟩:=tS f o p i (j+1) v2 e;refine⟨x,hx,?_⟩;have e1:((i+1:Nat):Int)-1-((cJ f o p i (j+1)).1:Int)=((i:Int)-1-(cJ f o p i (j+1)).1)+1:=by lia
     rw[e1,Int.mul_add]
     lia
   ·rw[Sn h2];have e0:Bq f o p (i+1) (j+1)=oR [dG f o p i j,bB (Bq f o p i (j+1)) o,bB (Bq f o p (i+1) j) p]:=by rw[Bq];rfl
    have key:∀a b c:Option Int,oR [a,b,c]≠a→oR [a,b,c]≠b→c=oR [a,b,c]:=fun a b c=>by
     cases a<;>cases b<;>cases c<;>simp[oR]<;>lia
    have h3:bB (Bq f o p (i+1) j) p=Bq f o p (i+1) (j+1):=by
     rw[e0];exact key _ _ _ (fun z=>h1 (by rw[e0];exact z.symm)) (fun z=>h2 (by rw[e0];exact z.symm))
    cases e:Bq f o p (i+1) j with
    |none=>rw[e,hB]at h3;cases h3
    |some v2=>
     rw[e,hB]at h3;have h3:v2-p=v:=by simpa[bB]using h3
     obtain⟨x,hx,hv⟩:=tS f o p (i+1) j v2 e;refine⟨x,hx,?_⟩;have e1:((j+1:Nat):Int)-1-((cJ f o p (i+1) j).2:Int)=((j:Int)-1-(cJ f o p (i+1) j).2)+1:=by lia
     rw[e1,Int.mul_add]
     lia
termination_by i j=>(i,j)
theorem HR(f:Nat→Nat→Option Int)(o p:Int):∀(k i j:Nat)(v:Int),i≤k→dG f o p i j=some v→Wy (lf f) ((eK f o p i i j).map aR)∧lstP ((eK f o p i i j).map aR)=aR (i,j)∧vl (lf f) o p ((eK f o p i i j).map aR)=v∧(eK f o p i i j).map (fun q=>dG f o p q.1 q.2)=(zK (lf f) o p ((eK f o p i i j).map aR)).map some:=by
 intro k
 induction k with
 |zero=>
  intro i j v hi he;have:i=0:=by lia
  subst this;rw[gU (fun h=>by rw[iL]at h;cases h)];have hw:f 0 j=some v:=by
   unfold dG at he;rw[iL]at he;cases e:f 0 j with
   |none=>rw[e]at he;cases he
   |some w=>rw[e]at he;exact he
  have hl:lf f (aR (0,j))=some v:=by rw[←hw];exact qx f 0 j
  refine⟨.one (by rw[hl];rfl),rfl,by simp[vl,hl],?_⟩;simp[zK,vl,hl,he]
 |succ k ih=>
  intro i j v hi he;by_cases hg:gP (Bq f o p i j)=true
  ·obtain⟨a1,a2,a3⟩:=ke hg;obtain⟨l1,l2⟩:=(kI f o p i j a1 a2).resolve_right a3;rw[vV hg,List.map_append,List.map_append];cases eb:Bq f o p i j with
   |none=>exact ZE eb a3
   |some b=>
    obtain⟨x,hx,hb⟩:=tS f o p i j b eb;obtain⟨w1,w2,w3,w4⟩:=ih _ _ x (by lia) hx;have aaE:0≤b:=by rw[eb]at hg;simpa[gP]using hg
    have hw:∃w,f i j=some w∧v=w+b:=by
     unfold dG at he;rw[eb]at he;cases e:f i j with
     |none=>rw[e]at he;cases he
     |some w=>
      rw[e]at he;simp only[Hu,show ¬b<0 by lia,if_false,Option.some.injEq]at he;exact⟨w,rfl,by lia⟩
    obtain⟨w,hw,hv⟩:=hw;have hl:lf f (aR (i,j))=some w:=by rw[←hw];exact qx f i j
    have st:zE (lstP ((eK f o p (cJ f o p i j).1 (cJ f o p i j).1 (cJ f o p i j).2).map aR)) (aR (i,j)):=by
     rw[w2];exact⟨by simp[aR];lia,by simp[aR];lia⟩
    have ev:vl (lf f) o p ((eK f o p (cJ f o p i j).1 (cJ f o p i j).1 (cJ f o p i j).2).map aR++[aR (i,j)])=v:=by
     rw[oT _ _ _ w1.ne,w2,w3,hl];simp only[gp,Option.getD_some];have e1:(aR (i,j)).1-(aR ((cJ f o p i j).1,(cJ f o p i j).2)).1-1=(i:Int)-1-(cJ f o p i j).1:=by show(i:Int)-((cJ f o p i j).1:Int)-1=_;lia
     have e2:(aR (i,j)).2-(aR ((cJ f o p i j).1,(cJ f o p i j).2)).2-1=(j:Int)-1-(cJ f o p i j).2:=by show(j:Int)-((cJ f o p i j).2:Int)-1=_;lia
     rw[e1,e2]
     lia
    refine⟨w1.snoc (by rw[hl];rfl) st,dN,ev,?_⟩;show _++[dG f o p i j]=(zK (lf f) o p (_++[aR (i,j)])).map some;rw[FN,List.map_append,w4,he];show _++[some v]=_++[some _];rw[ev]
  ·rw[gU hg];have hw:f i j=some v:=by
    unfold dG at he;cases e:f i j with
    |none=>rw[e]at he;cases he
    |some w=>
     rw[e]at he;cases eb:Bq f o p i j with
     |none=>rw[eb]at he;exact he
     |some b=>
      rw[eb]at he hg;have:b<0:=by
       have:¬0≤b:=fun z=>hg (by simpa[gP]using z)
       lia
      simp only[Hu,this,if_true]at he;exact he
   have hl:lf f (aR (i,j))=some v:=by rw[←hw];exact qx f i j
   refine⟨.one (by rw[hl];rfl),rfl,by simp[vl,hl],?_⟩;simp[zK,vl,hl,he]
def HS(f:Nat→Nat→Option Int)(o p:Int)(n m:Nat):Option Int:=oR ((Zj n).map fun i=>oR ((Zj m).map (dG f o p i)))
theorem FQ{f:Nat→Nat→Option Int}{n m:Nat}(t:DC f n m)(o p:Int):f7 (fun v=>∃ps,Wy (lf f) ps∧v=vl (lf f) o p ps) (HS f o p n m):=by
 refine(kG _).Va (fun v hv=>?_) (fun v hv=>?_)
 ·obtain⟨i,_,h2⟩:=List.mem_map.mp hv;have h3:=kG ((Zj m).map (dG f o p i));rw[h2]at h3;obtain⟨j,_,h4⟩:=List.mem_map.mp h3.1;obtain⟨as,a1,_,a3⟩:=mD h4;exact⟨as,a1,a3.symm⟩
 ·obtain⟨ps,w,rfl⟩:=hv;obtain⟨i,j,hl,hi,hj⟩:=jY t w (dq w.ne);obtain⟨b,hb,hle⟩:=xj (o:=o) (p:=p) w hl;have h3:=kG ((Zj m).map (dG f o p i));have lI:some b∈(Zj m).map (dG f o p i):=List.mem_map.mpr ⟨j,by simpa using hj,hb⟩;cases e:oR ((Zj m).map (dG f o p i))with
  |none=>rw[e]at h3;exact ZE lI (h3 b)
  |some u=>
   rw[e]at h3;refine⟨u,List.mem_map.mpr ⟨i,by simpa using hi,e⟩,?_⟩;have:=h3.2 b lI
   lia
theorem Dg{f:Nat→Nat→Option Int}{o p W:Int}(T:e7 f o p W){n m:Nat}(t:DC f n m){a b:Pr}(h:gN f o p W a b):∃i j:Nat,dG f o p i j=some W∧i<n∧j<m∧gN f o p W a (aR (i,j)):=by
 obtain⟨ps,w,hm⟩:=h.on;obtain⟨i,j,hl,hi,hj⟩:=jY t w.1 (dq w.1.ne);obtain⟨v,hb,hle⟩:=xj (o:=o) (p:=p) w.1 hl;obtain⟨as,a1,_,a3⟩:=mD hb;have:=T _ a1;have hW:=w.2;refine⟨i,j,by rw[hb];congr 1;lia,hi,hj, .way ps w hm ?_⟩;rw[←hl];exact dq w.1.ne
def uN(n m:Nat):List Pr:=(Zj n).flatMap fun i=>(Zj m).map fun j=>aR (i,j)
theorem oZ(n m:Nat):(uN n m).length=n*m:=by
 unfold uN
 induction n with
 |zero=>simp
 |succ n ih=>
  rw[List.range_succ,List.flatMap_append,List.length_append,ih,Nat.succ_mul];simp
theorem o6{n m i j:Nat}(hi:i<n)(hj:j<m):aR (i,j)∈uN n m:=List.mem_flatMap.mpr ⟨i,by simpa using hi,List.mem_map.mpr ⟨j,by simpa using hj,rfl⟩⟩
theorem Told.sT{E:Pr→Pr→Prop}{gs:List (List Pr)}{n m:Nat}(t:Told E gs)(h:∀g∈gs,∀a∈g,∃i j:Nat,a=aR (i,j)∧i<n∧j<m):gs.length≤n*m:=by
 have hf:∀g∈gs,lh g∈g:=fun g hg=>by
  cases e:g with
  |nil=>exact ZE e (t.ne g hg)
  |cons a r=>simp[lh]
 have:=len_sub (gs.map lh) (uN n m) (List.pairwise_map.mpr (List.Pairwise.imp_of_mem (fun{a b} ha hb Fv e=>Fv (lh a) (hf a ha) (by rw[e];exact hf b hb)) t.apart)) fun x hx=>by
  obtain⟨g,hg,rfl⟩:=List.mem_map.mp hx;obtain⟨i,j,e,hi,hj⟩:=h g hg _ (hf g hg);rw[e];exact o6 hi hj
 rw[List.length_map,oZ]at this;exact this
structure vW(P:Addr→Prop)(H:Hp)(CF a:Addr)(d:Fd)(dy wy rw pr:Addr)(lr iz:List V):Prop where
 ob:H a=some (.ins CF dy (m8 d.worth wy rw pr))
 hw:H wy=some (.lst lr)
 pw:gK H lr d.way
 hr:H rw=some (.lst (d.row.map V.int))
 hp:H pr=some (.lst iz)
 pp:gK H iz d.pairs
 fa:P a
 fw:P wy
 fr:P rw
 fp:P pr
def b_(P:Addr→Prop)(H:Hp)(CF:Addr)(us:List V)(ds:List Fd):Prop:=us.length=ds.length∧∀(k:Nat) d,ds[k]?=some d→∃a dy wy rw pr lr iz,us[k]?=some (V.ref a)∧vW P H CF a d dy wy rw pr lr iz
theorem vW.keep{P P':Addr→Prop}{H H':Hp}{CF a:Addr}{d:Fd}{dy wy rw pr:Addr}{lr iz:List V}(F:vW P H CF a d dy wy rw pr lr iz)(h:∀b o,P b→H b=some o→H' b=some o)(t:c7 H H')(hP:∀b,P b→P' b):vW P' H' CF a d dy wy rw pr lr iz:=
 ⟨h _ _ F.fa F.ob,h _ _ F.fw F.hw,F.pw.cC t,h _ _ F.fr F.hr,h _ _ F.fp F.hp,F.pp.cC t,hP _ F.fa,hP _ F.fw,hP _ F.fr,hP _ F.fp⟩
theorem b_.keep{P P':Addr→Prop}{H H':Hp}{CF:Addr}{us:List V}{ds:List Fd}(F:b_ P H CF us ds)(h:∀b o,P b→H b=some o→H' b=some o)(t:c7 H H')(hP:∀b,P b→P' b):b_ P' H' CF us ds:=
 ⟨F.1,fun k d e=>let ⟨a,dy,wy,rw,pr,lr,iz,h1,h2⟩:=F.2 k d e;⟨a,dy,wy,rw,pr,lr,iz,h1,h2.keep h t hP⟩⟩
theorem b_.nil{P:Addr→Prop}{H:Hp}{CF:Addr}:b_ P H CF [] []:=⟨rfl,fun k d e=>by simp at e⟩
theorem b_.append{P:Addr→Prop}{H:Hp}{CF:Addr}{us vs:List V}{ds es:List Fd}(F:b_ P H CF us ds)(G:b_ P H CF vs es):b_ P H CF (us++vs) (ds++es):=by
 refine⟨by rw[List.length_append,List.length_append,F.1,G.1],fun k d e=>?_⟩;by_cases hk:k<ds.length
 ·rw[Zy hk]at e;rw[Zy (by rw[F.1];exact hk)];exact F.2 k d e
 ·rw[Δ Mm]at e;rw[Δ (by rw[F.1];lia),F.1];exact G.2 _ d e
inductive tT(CT:Addr)(vs:List V)(H:Hp)(Q:VK)(u3:XK):Prop
 |mk (f g t:Addr) (v:V) (c:Case) (shut:List Pr) (_:vs=[.ref f, .ref g, .ref t,v]) (_:H f=some (.lst (c.xs.map V.str))) (_:H g=some (.lst (c.ys.map V.str))) (_:yJ H CT t c) (_:EU H v shut) (_:shut.length≤1000) (_:c.xs.length≤1000) (_:c.ys.length≤1000) (_:∀H' e as,ax H H'→H' e=some (.lst (as.map V.ref))→H e=none→ja H' as (jm c shut) c.xs.length c.ys.length→as.Nodup→e∉as→(∀a∈as,H a=none)→Q (.ref e) H'):tT CT vs H Q u3
inductive o7(CT CF:Addr)(vs:List V)(H:Hp)(Q:VK)(u3:XK):Prop
 |mk (w t:Addr) (as:List Addr) (c:Case) (f:Nat→Nat→Option Int) (n m:Nat) (_:vs=[.ref w, .ref t]) (_:H w=some (.lst (as.map V.ref))) (_:ja H as f n m) (_:yJ H CT t c) (_:DC f n m) (_:n*m≤3000) (_:n≤1000) (_:m≤1000)
  (_:Stop f c.out c.into c.least→∀H' r,ax H H'→H r=none→H' r=some (.lst [])→Q (.ref r) H')
  (_:∀W gs ds,g9 f c.out c.into c.least W gs ds→gs≠[]→∀H' r us,ax H H'→H r=none→H' r=some (.lst us)→b_ (fun b=>H b=none) H' CF us ds→Q (.ref r) H'):o7 CT CF vs H Q u3
inductive tU(CF:Addr)(vs:List V)(H:Hp)(Q:VK)(u3:XK):Prop
 |mk (w md:Addr) (as:List Addr) (us:List V) (ds:List Fd) (f:Nat→Nat→Option Int) (n m:Nat) (_:vs=[.ref w, .ref md]) (_:H w=some (.lst (as.map V.ref))) (_:as.Nodup) (_:w∉as) (_:ja H as f n m) (_:H md=some (.lst us)) (_:md∉as) (_:b_ (fun b=>b∉as) H CF us ds) (_:∀d∈ds,∀q∈d.pairs,∃i j:Nat,q=aR (i,j)∧i<n∧j<m)
  (_:∀H',(∀b o,b∉as→H b=some o→H' b=some o)→c7 H H'→ja H' as (iu f (ds.map Fd.pairs).flatten) n m→Q .cK H'):tU CF vs H Q u3
def LV(a b:Fd):Bool:=if a.worth=b.worth then jD (lh a.pairs) (lh b.pairs)else decide (b.worth<a.worth)
structure bN(f0:Nat→Nat→Option Int)(o p least:Int)(es:List Fd):Prop where
 QN:∃ds f,Reach f0 o p least ds f∧Stop f o p least∧es.Perm ds
 sT:es.length≤20
 qz:es.Pairwise fun a b=>LV a b=true
inductive xl(CT CF CX:Addr)(vs:List V)(H:Hp)(Q:VK)(E:XK):Prop
 |mk (a b t:Addr) (c:Case) (_:vs=[.ref a, .ref b, .ref t]) (_:H a=some (.lst (c.xs.map V.str))) (_:H b=some (.lst (c.ys.map V.str))) (_:yJ H CT t c) (_:c.xs.length≤50) (_:c.ys.length≤50)
  (_:∀es,bN (jm c []) c.out c.into c.least es→∀H' r us,ax H H'→H r=none→H' r=some (.lst us)→b_ (fun b=>H b=none) H' CF us es→Q (.ref r) H')
  (_:∀ds f,Reach (jm c []) c.out c.into c.least ds f→20<ds.length→∀H',ax H H'→E (.ref CX) none H'):xl CT CF CX vs H Q E
def FT(c:Case)(i m:Nat):Nat:=((Zj m).filter fun j=>(c.pw (aR (i,j))).isSome).length
def manyN(c:Case):Nat→Nat
 |0=>0
 |n+1=>manyN c n+FT c n c.ys.length
theorem Dh(c:Case)(i m:Nat):FT c i (m+1)=FT c i m+if (c.pw (aR (i,m))).isSome=true then 1 else 0:=by
 unfold FT;rw[List.range_succ,List.filter_append,List.length_append]
 congr 1
 by_cases h:(c.pw (aR (i,m))).isSome=true
 ·rw[U6 h,List.filter_cons,U6 h];rfl
 ·rw[Sn h,List.filter_cons,Sn h];rfl
theorem tV(c:Case):∀n,((uN n c.ys.length).filter fun q=>(c.pw q).isSome).length=manyN c n
 |0=>rfl
 |n+1=>by
  unfold uN;rw[List.range_succ,List.flatMap_append,List.filter_append,List.length_append];have ih:=tV c n;unfold uN at ih;rw[ih,manyN]
  congr 1
  simp only[List.flatMap_cons,List.flatMap_nil,List.append_nil];rw[List.filter_map,List.length_map];rfl
def bV(c:Case):Nat:=manyN c c.xs.length/21+1
def eM(c:Case):Int:=min c.same (999999/(bV c:Int))
def gi(c:Case):Case:={c with same:=eM c,least:=max c.least (((bV c:Int)-1)*eM c+1)}
theorem AL(s t:Int)(fs:List Form)(x y:Str):(cI s fs x y).isSome=(cI t fs x y).isSome:=by
 unfold cI;split
 ·rfl
 ·simp
theorem Di(c:Case)(q:Pr):((gi c).pw q).isSome=(c.pw q).isSome:=by
 unfold Case.pw;show((wd c.xs q.1).bind fun x=>(wd c.ys q.2).bind fun y=>cI (gi c).same c.fs x y).isSome=_;cases wd c.xs q.1 with
 |none=>rfl
 |some x=>
  cases wd c.ys q.2 with
  |none=>rfl
  |some y=>exact AL _ _ _ _ _
theorem Dj{fs:List Form}(g:bD fs=true){x y:Str}{p:Int}(h:cP fs x y=some p):0≤p:=by
 unfold cP at h;cases e:fs.find? fun f=>decide (f.1=x∧f.2.1=y)with
 |none=>rw[e]at h;cases h
 |some f=>
  rw[e]at h;have h:f.2.2=p:=by simpa using h
  have hm:=List.mem_of_find?_eq_some e;simp only[bD,Bool.and_eq_true,List.all_eq_true]at g;have:=g.1.2 f hm;simp only[CC,gS,inR,Bool.and_eq_true,decide_eq_true_eq]at this
  lia
theorem pw_le{c:Case}(g:bD c.fs=true){q:Pr}{w:Int}(h:c.pw q=some w):w≤c.same:=by
 unfold Case.pw at h;cases e1:wd c.xs q.1 with
 |none=>rw[e1]at h;cases h
 |some x=>
  cases e2:wd c.ys q.2 with
  |none=>rw[e1,e2]at h;cases h
  |some y=>
   rw[e1,e2]at h;have h:cI c.same c.fs x y=some w:=h;unfold cI at h;split at h
   ·cases h;exact Int.le_refl _
   ·cases e3:cP c.fs x y with
    |none=>rw[e3]at h;cases h
    |some p=>
     rw[e3]at h;have h:c.same-p=w:=by simpa using h
     have:=Dj g e3
     lia
theorem B5(c:Case)(n:Nat):manyN c n≤n*c.ys.length:=by
 rw[←tV,←oZ];exact List.length_filter_le _ _
theorem B6{m:Nat}{c:Case}(k:dM m c)(hm:m≤60):dM m (gi c):=by
 have h1:manyN c c.xs.length≤3600:=by
  have:=B5 c c.xs.length;have h2:=Nat.mul_le_mul (Nat.le_trans k.x hm) (Nat.le_trans k.y hm)
  lia
 have he:(1:Int)≤bV c∧(bV c:Int)≤172:=by unfold bV;lia
 have hq:(bV c:Int)*(999999/(bV c:Int))≤999999:=by
  have:=Int.mul_ediv_self_le (x:=999999) (k:=(bV c:Int)) (by lia);exact this
 have OW:1≤999999/(bV c:Int):=by
  have:(172:Int)≤999999:=U7;exact(Int.le_ediv_iff_mul_le Mm).mpr Mm
 have hs:=k.same;have hl:=k.least;have s1:1≤eM c∧eM c≤999999∧eM c≤999999/(bV c:Int):=by unfold eM;lia
 refine⟨k.x,k.y,k.good,⟨s1.1,s1.2.1⟩,k.out,k.into,?_⟩;show 1≤max c.least (((bV c:Int)-1)*eM c+1)∧max c.least (((bV c:Int)-1)*eM c+1)≤999999;have h3:((bV c:Int)-1)*eM c+1≤999999:=by
  have h4:(bV c:Int)*eM c≤(bV c:Int)*(999999/(bV c:Int)):=Int.mul_le_mul_of_nonneg_left s1.2.2 Mm;rw[Int.sub_mul]
  lia
 lia
theorem jd{g g':Pr→Option Int}(o p:Int):∀{ps:List Pr},(∀q∈ps,g q=g' q)→vl g o p ps=vl g' o p ps
 |[],_=>rfl
 |[a],h=>by simp only[vl];rw[h a (Wv)]
 |a::b::r,h=>by
  have ih:=jd (g:=g) (g':=g') o p (ps:=b::r) fun q hq=>h q (by simp[hq])
  simp only[vl];rw[ih,h a (Wv)]
theorem Dk{g g':Pr→Option Int}(o p:Int){ps:List Pr}(h:∀q∈ps,g q=g' q):zK g o p ps=zK g' o p ps:=by
 unfold zK;apply List.map_congr_left;intro k _;exact jd o p fun q hq=>h q (List.mem_of_mem_take hq)
theorem Wy.congr{g g':Pr→Option Int}{ps:List Pr}(w:Wy g ps)(h:∀q∈ps,g q=g' q):Wy g' ps:=⟨w.ne,fun q hq=>by rw[←h q hq];exact w.ok q hq,w.up⟩
theorem LW{o p:Int}(ho:0≤o)(hp:0≤p){a b:Pr}(s:zE a b):0≤gp o p a b:=by
 have h1:=s.1;have h2:=s.2;have:=Int.mul_nonneg ho (show 0≤b.1-a.1-1 by lia);have:=Int.mul_nonneg hp (show 0≤b.2-a.2-1 by lia);unfold gp
 lia
theorem Jx{g:Pr→Option Int}{o p S:Int}(ho:0≤o)(hp:0≤p):∀{ps:List Pr},ps.Pairwise zE→(∀q∈ps,∃w,g q=some w∧w≤S)→vl g o p ps≤ps.length*S
 |[],_,_=>by simp[vl]
 |[a],_,h=>by
  obtain⟨w,h1,h2⟩:=h a (Wv);simp[vl,h1,h2]
 |a::b::r,hs,h=>by
  have m6:=List.pairwise_cons.mp hs;have ih:=Jx ho hp m6.2 fun q hq=>h q (by simp[hq])
  obtain⟨w,h1,h2⟩:=h a (Wv);have:=LW ho hp (m6.1 b (Wv));simp only[vl,h1,Option.getD_some];have e:((a::b::r).length:Int)*S=((b::r).length:Int)*S+S:=by
   rw[List.length_cons (as:=b::r),Int.natCast_add,Int.add_mul];simp
  rw[e]
  lia
structure OX(f0:Nat→Nat→Option Int)(o p least:Int)(d:Fd):Prop where
 way:Wy (lf f0) d.way
 worth:vl (lf f0) o p d.way=d.worth
 least:least≤d.worth
 row:d.row=zK (lf f0) o p d.way
 sub:∀q∈d.way,q∈d.pairs
 qz:d.pairs.Pairwise fun p q=>jD p q=true
 op:∀q∈d.pairs,(lf f0 q).isSome=true
 part:∀a b,d.way=a++b→a≠[]→b≠[]→vl (lf f0) o p a≤d.worth∧vl (lf f0) o p b≤d.worth
theorem Reach.lu{f0 f:Nat→Nat→Option Int}{o p least:Int}{ds:List Fd}(r:Reach f0 o p least ds f):∀d∈ds,OX f0 o p least d:=by
 induction r with
 |start=>exact fun d h=>by cases h
 |@round done f W gs ds r R ih=>
  intro d hd;rcases List.mem_append.mp hd with hd|hd
  ·exact ih d hd
  have ap:=r.apart;have k:=R.ok d hd;have hg:d.pairs∈gs:=by rw[←R.FO];exact List.mem_map.mpr ⟨d,hd,rfl⟩
  have cg:∀q∈d.way,lf f q=lf f0 q:=fun q hq=>ap.sub q (k.way.1.ok q hq)
  refine⟨k.way.1.congr cg,?_,by rw[k.worth];exact R.least,by rw[k.row];exact Dk o p cg,k.sub,R.told.qz _ hg,fun q hq=>?_,fun a b e ha hb=>?_⟩
  ·rw[←jd o p cg,k.way.2,k.worth]
  ·have:=(R.told.mem hg hq).open;rw[←ap.sub q this];exact this
  ·have w:=k.way.1;rw[e]at w;rw[←jd o p (fun q hq=>cg q (by rw[e];exact Ω hq)),←jd o p (fun q hq=>cg q (by rw[e];exact Ε hq)),k.worth];exact⟨R.top _ (w.left ha),R.top _ (w.right hb)⟩
theorem Reach.met{f0 f:Nat→Nat→Option Int}{o p least:Int}{ds:List Fd}(r:Reach f0 o p least ds f){ws:List Pr}(w:Wy (lf f0) ws):(∀q∈ws,(lf f q).isSome=true)∨∃d∈ds,vl (lf f0) o p ws≤d.worth∧∃q∈ws,q∈d.pairs:=by
 induction r with
 |start=>exact .inl w.ok
 |@round done f W gs ds r R ih=>
  rcases ih with h|⟨d,h1,h2⟩
  ·have ap:=r.apart;by_cases hm:∃q∈ws,q∈gs.flatten
   ·obtain⟨q,hq,hg⟩:=hm;obtain⟨g,Vs,XR⟩:=List.mem_flatten.mp hg;rw[←R.FO]at Vs;obtain⟨d,hd,rfl⟩:=List.mem_map.mp Vs;refine .inr ⟨d,Ε hd,?_,q,hq,XR⟩;have cg:∀q∈ws,lf f0 q=lf f q:=fun q hq=>(ap.sub q (h q hq)).symm
    rw[jd o p cg,(R.ok d hd).worth];exact R.top _ (w.congr cg)
   ·refine .inl fun q hq=>?_
    rw[sJ,Sn (fun z=>hm ⟨q,hq,z⟩)];exact h q hq
  ·exact .inr ⟨d,Ω h1,h2⟩
theorem bN.met{f0:Nat→Nat→Option Int}{o p least:Int}{es:List Fd}(t:bN f0 o p least es){ws:List Pr}(w:Wy (lf f0) ws)(h:least≤vl (lf f0) o p ws):∃d∈es,vl (lf f0) o p ws≤d.worth∧∃q∈ws,q∈d.pairs:=by
 obtain⟨ds,f,r,st,pm⟩:=t.QN;rcases r.met w with z|⟨d,h1,h2⟩
 ·exfalso;have cg:∀q∈ws,lf f0 q=lf f q:=fun q hq=>(r.apart.sub q (z q hq)).symm
  have:=st ws (w.congr cg);rw[←jd o p cg]at this
  lia
 ·exact⟨d,pm.mem_iff.mpr h1,h2⟩
theorem bN.lu{f0:Nat→Nat→Option Int}{o p least:Int}{es:List Fd}(t:bN f0 o p least es):∀d∈es,OX f0 o p least d:=fun d hd=>by
 obtain⟨ds,f,r,_,pm⟩:=t.QN;exact r.lu d (pm.mem_iff.mp hd)
theorem bN.apart{f0:Nat→Nat→Option Int}{o p least:Int}{es:List Fd}(t:bN f0 o p least es):es.Pairwise fun a b=>∀q∈a.pairs,q∉b.pairs:=by
 obtain⟨ds,f,r,_,pm⟩:=t.QN;exact(pm.pairwise_iff fun{a b} h q hq FI=>h q FI hq).mpr r.apart.ap
theorem FU{l:List (List Pr)}{k:Nat}(h:∀x∈l,k≤x.length):l.length*k≤l.flatten.length:=by
 induction l with
 |nil=>simp
 |cons a r ih=>
  have h1:=h a (Wv);have h2:=ih fun x hx=>h x (by simp[hx])
  rw[List.flatten_cons,List.length_append,List.length_cons,Nat.succ_mul]
  lia
theorem nN:∀{ds:List Fd},ds.Pairwise (fun a b=>∀q∈a.pairs,q∉b.pairs)→(∀d∈ds,d.pairs.Nodup)→(ds.map Fd.pairs).flatten.Nodup
 |[],_,_=>Wv
 |d::r,h,h2=>by
  have h':=List.pairwise_cons.mp h;rw[List.map_cons,List.flatten_cons];refine List.nodup_append.mpr ⟨h2 d (Wv),nN h'.2 fun x hx=>h2 x (by simp[hx]),fun a ha b hb e=>?_⟩;obtain⟨ps,hp,hq⟩:=List.mem_flatten.mp hb;obtain⟨x,hx,rfl⟩:=List.mem_map.mp hp;exact h'.1 x hx a ha (by rw[e];exact hq)
theorem qG{ps:List Pr}(h:ps.Pairwise fun p q=>jD p q=true):ps.Nodup:=h.imp fun{a b} h e=>by
 rw[e]at h;unfold jD at h;simp at h
theorem AM(c:Case)(q:Pr):lf (jm c []) q=c.pw q:=by
 rw[w6];simp[mM]
theorem FV{m:Nat}{c:Case}(k:dM m (gi c)){ds:List Fd}{f:Nat→Nat→Option Int}(r:Reach (jm (gi c) []) (gi c).out (gi c).into (gi c).least ds f):ds.length≤20:=by
 have each:∀d∈ds,bV c≤d.pairs.length:=fun d hd=>by
  have F:=r.lu d hd;have h1:=Jx (g:=lf (jm (gi c) [])) (S:=(gi c).same) k.out.1 k.into.1 F.way.up fun q hq=>by
   obtain⟨w,hw⟩:=Option.isSome_iff_exists.mp (F.way.ok q hq);refine⟨w,hw,?_⟩;rw[AM]at hw;exact pw_le k.good hw
  rw[F.worth]at h1;have h2:=F.least;have h3:((bV c:Int)-1)*eM c+1≤(gi c).least:=by show _≤max c.least _;lia
  have hs:1≤eM c:=k.same.1;have h4:((bV c:Int)-1)*eM c<(d.way.length:Int)*eM c:=by
   have:(gi c).same=eM c:=rfl;rw[this]at h1
   lia
  have h5:(bV c:Int)-1<(d.way.length:Int):=Int.lt_of_mul_lt_mul_right h4 Mm;have h6:=len_sub d.way d.pairs (F.way.up.imp fun{a b} h e=>by
   rw[e]at h;have:=h.1
   lia) F.sub
  lia
 have h1:=FU (l:=ds.map Fd.pairs) (k:=bV c) fun x hx=>by
  obtain⟨d,hd,rfl⟩:=List.mem_map.mp hx;exact each d hd
 have h2:=nN r.apart.ap fun d hd=>qG (r.lu d hd).qz
 have h3:=len_sub _ ((uN c.xs.length c.ys.length).filter fun q=>(c.pw q).isSome) h2 fun q hq=>by
  obtain⟨ps,hp,hq⟩:=List.mem_flatten.mp hq;obtain⟨d,hd,rfl⟩:=List.mem_map.mp hp;have:=(r.lu d hd).op q hq;rw[AM,Di]at this;refine List.mem_filter.mpr ⟨?_,this⟩;obtain⟨w,hw⟩:=Option.isSome_iff_exists.mp this;obtain⟨⟨a1,a2⟩,a3,a4⟩:=c.pw_in hw;have:=o6 (n:=c.xs.length) (m:=c.ys.length) (i:=q.1.toNat) (j:=q.2.toNat) (by lia) (by lia);have e:aR (q.1.toNat,q.2.toNat)=q:=Prod.ext (by simp[aR];lia) (by simp[aR];lia);rw[e]at this;exact this
 rw[tV]at h3;rw[List.length_map]at h1;have h4:ds.length*bV c≤manyN c c.xs.length:=Nat.le_trans h1 h3;rcases Nat.lt_or_ge 20 ds.length with h|h
 ·exfalso;have h5:21*bV c≤ds.length*bV c:=Nat.mul_le_mul_right _ h;unfold bV at h4 h5
  lia
 ·exact h
inductive xm(vs:List V)(H:Hp)(Q:VK)(u3:XK):Prop
 |mk (a:Addr) (c:Case) (f g m l:Addr) (us:List V) (_:vs=[.ref a]) (_:jB H a c f g m l us) (_:dM 60 c) (_:∀H' b m',ax H H'→H b=none→H' b=some (.lst [.ref f, .ref g, .ref m', .ref l])→jB H' b (gi c) f g m' l us→Q (.ref b) H'):xm vs H Q u3
end QF
namespace QF
open PySem L2 PySem.Spec PyProof.Rows PySem.W PySem.Calls
section
variable{X:Cx}
inductive OY(K:Frag)(neg:Bool)(x:V)(y:V)(H:Hp)(Q:VK):Prop
 |mk (p q:Addr) (r:Pr) (vs:List V) (ps:List Pr) (_:x= .ref p) (_:y= .ref q) (_:H p=some (.tup (jA r))) (_:iE K H q vs) (_:gK H vs ps) (_:Q (.bl (xor neg (decide (r∈ps)))) H):OY K neg x y H Q
open Classical in
theorem FW{pins:List (Addr×Obj)}{s:Shared}{σ:L2.St}{H:Hp}{p q:Addr}{r:Pr}{vs:List V}{ps:List Pr}(hu:X.A.units+1<cLine)(I:Inv X pins σ H s)(hp:H p=some (.tup (jA r)))(hq:iE X.K H q vs)(P:gK H vs ps):
  ∃(its:List Value)(e:Value→Bool),s.heap.IsList q its.toArray∧(∀y∈its.toArray,SeqAt.EqAt X.A.in1 s y (.ref p) (e y))∧its.toArray.any e=decide (r∈ps):=by
 obtain⟨its,r1,pl,hz⟩:=I.tuple (xs:=jA r) (.of hp);obtain⟨dS,r2,Hi,Mw⟩:=I.list hq;have lc:=P.1;have l2:=r2.length;have key:∀j,j<dS.length→∃g t,ps[j]?=some g∧dS[j]?=some (.ref t)∧H t=some (.tup (jA g)):=fun j hj=>by
  have hc:ps[j]?=some ps[j]:=by simp[show j<ps.length by lia]
  obtain⟨t,h1,h2⟩:=P.2 j _ hc;obtain⟨u,eu,ru⟩:=r2.get h1;cases ru;exact⟨_,t,hc,eu,h2⟩
 let e:Value→Bool:=fun y=>decide (∃t,y=Value.ref t∧H t=some (.tup (jA r)))
 have ee:∀{t g},H t=some (.tup (jA g))→e (.ref t)=decide (g=r):=fun{t g} h=>by
  show decide _=_;rw[Bool.eq_iff_iff,decide_eq_true_iff,decide_eq_true_iff];constructor
  ·rintro⟨t',e1,e2⟩;cases e1;rw[h]at e2;have:=HO.tup.inj (ZV e2);simp only[jA,List.cons.injEq,V.int.injEq,and_true]at this;exact Prod.ext this.1 this.2
  ·rintro rfl;exact⟨t,rfl,h⟩
 refine⟨dS,e,Hi.isList,fun y hy=>?_,?_⟩
 ·obtain⟨j,hj,rfl⟩:=Array.mem_iff_getElem.mp hy;have Ag:j<dS.length:=by simpa using hj
  obtain⟨g,t,h1,h2,h3⟩:=key j Ag;have ej:dS.toArray[j]= .ref t:=by
   have:=(Z' h2).2;simpa using this
  rw[ej,ee h3];by_cases hn:t=p
  ·subst hn;rw[hp]at h3;have:=HO.tup.inj (ZV h3);simp only[jA,List.cons.injEq,V.int.injEq,and_true]at this;have:r=g:=Prod.ext this.1 this.2;rw[decide_eq_true this.symm];exact SeqAt.EqAt.same _
  ·obtain⟨OZ,r3,Tn,XS⟩:=I.tuple (xs:=jA g) (.of h3);have:=SeqAt.EqAt.of_refs hn (SeqAt.RcAt.tuples (A:=X.A.in1) Tn pl (show X.A.in1.units<cLine from hu) (tF r3 r1 rfl rfl));rw[←wY,←kF,r3.length,r1.length];simpa using this
 ·rw[Bool.eq_iff_iff,Array.any_eq_true,decide_eq_true_iff];constructor
  ·rintro⟨j,hj,hh⟩;have Ag:j<dS.length:=by simpa using hj
   obtain⟨g,t,h1,h2,h3⟩:=key j Ag;have ej:dS.toArray[j]= .ref t:=by
    have:=(Z' h2).2;simpa using this
   rw[ej,ee h3,decide_eq_true_iff]at hh;rw[←hh];exact ZO h1
  ·intro hm;obtain⟨j,hj,hg⟩:=List.mem_iff_getElem.mp hm;have Ag:j<dS.length:=by lia
   obtain⟨g,t,h1,h2,h3⟩:=key j Ag;refine⟨j,by simpa using Ag,?_⟩;have ej:dS.toArray[j]'(by simpa using Ag)= .ref t:=by
    have:=(Z' h2).2;simpa using this
   rw[ej,ee h3,decide_eq_true_iff];rw[Θ hj,hg]at h1;exact(ZV h1).symm
theorem m9(K:Frag)(hu:X.A.units+1<cLine)(hK:X.K=K:=by rfl):rl X (compareOp .NotIn) (OY K true):=by
 subst hK;intro pins s σ H x y v u Q I rx ry h;obtain⟨p,q,r,vs,ps,rfl,rfl,hp,hq,P,k⟩:=h;cases rx;cases ry;obtain⟨its,e,pl,h1,h2⟩:=FW hu I hp hq P;refine SeqAt.notIn_listAt e pl h1 ⟨.bl (!decide (r∈ps)),H,I,?_,by simpa using k⟩;rw[h2];rfl
end
end QF
namespace QF
open PySem L2
theorem oS.of{c:Case}{ps:List Pr}(h:k8 c ps=true):oS c [] ps:=⟨h,fun p _=>Wv⟩
theorem HU{c:Case}{ps:List Pr}(h:k8 c ps=true):Wy (lf (jm c [])) ps∧dH c ps (ps.length-1)=vl (lf (jm c [])) c.out c.into ps:=⟨yO.mp (.of h),Hw (.of h)⟩
end QF
namespace L2
open PySem PySem.Spec PyProof.Rows PySem.W PySem.Calls
inductive fQ(K:Frag)(x q:Str)(st:Stmt)(f:Addr):Prop
 |mk {oc kV dc pm cd ct:Value} {od an:Option Addr} {sl:Array (Option Value)} (l:K.lookup f=some ⟨oc,od, .func (fnOf x q (fK st) (eL st) (ar st) .none kV dc pm an cd ct),sl⟩) (c:codeIn K cd q=true) (k:keepIn K (.ref f)=true):fQ K x q st f
theorem B7{Φ:Value→Value→Value→Option Addr→Value→Value→List Value→Prop}(h:∀k d p n c t a,Φ k d p n c t [a])(k d p:Value)(n:Option Addr)(c t:Value)(us:List Value)(e:us.length=1):Φ k d p n c t us:=QF.Xe (h k d p n c t) us e
theorem xn{Φ:Value→Value→Value→Option Addr→Value→Value→List Value→Prop}(h:∀k d p n c t a b,Φ k d p n c t [a,b])(k d p:Value)(n:Option Addr)(c t:Value)(us:List Value)(e:us.length=2):Φ k d p n c t us:=QF.Xf (h k d p n c t) us e
theorem AN{Φ:Value→Value→Value→Option Addr→Value→Value→List Value→Prop}(h:∀k d p n c t x y z,Φ k d p n c t [x,y,z])(k d p:Value)(n:Option Addr)(c t:Value)(us:List Value)(e:us.length=3):Φ k d p n c t us:=QF.Xg (h k d p n c t) us e
theorem To{Φ:Value→Value→Value→Option Addr→Value→Value→List Value→Prop}(h:∀k d p n c t x y z u,Φ k d p n c t [x,y,z,u])(k d p:Value)(n:Option Addr)(c t:Value)(us:List Value)(e:us.length=4):Φ k d p n c t us:=QF.Xh (h k d p n c t) us e
theorem Vt{Φ:Value→Value→Value→Option Addr→Value→Value→List Value→Prop}(h:∀k d p n c t x y z u v,Φ k d p n c t [x,y,z,u,v])(k d p:Value)(n:Option Addr)(c t:Value)(us:List Value)(e:us.length=5):Φ k d p n c t us:=QF.Xi (h k d p n c t) us e
theorem XT{Φ:Value→Value→Value→Option Addr→Value→Value→List Value→Prop}(h:∀k d p n c t x y z u v w,Φ k d p n c t [x,y,z,u,v,w])(k d p:Value)(n:Option Addr)(c t:Value)(us:List Value)(e:us.length=6):Φ k d p n c t us:=QF.Xj (h k d p n c t) us e
section
variable{P:Program}{w:World}{K:Frag}{mg:Str→Option Value}{base h:Heap}{cm:Bool}{k:Nat}{x q:Str}{st:Stmt}{f C:Addr}{ps:List Str}{sp:Sp}
def QO(x q:Str)(st:Stmt)(ps:List Str):Prop:=∀(kV doc pm:Value)(an:Option Addr)(bS ct:Value)(us:List Value),us.length=ps.length→bindArgs (fnOf x q (fK st) (eL st) (ar st) .none kV doc pm an bS ct) ⟨us,[]⟩=pure (ps.zip us)
theorem fQ.df(d:fQ K x q st f)(X:K.In h)(G:h.Ns mainGlobals mg)(a:nsIn K mainGlobals x=some (some (.ref f)))(ok:∀fd,jw K x q st f fd→a7 P w K mg base (cW P w) cm k f fd ps sp)(b:QO x q st ps):bK P w K mg base cm k x ps sp:=by
 obtain⟨l,c,z⟩:=d;have F:=En (st:=st) l c z;exact Ex F (mg_of X G a) (F.binds b) (ok _ F)
theorem fQ.ok(d:fQ K x q st f){R:FuncData→Prop}(ok:∀fd,iB K x q st f fd→R fd)(b:QO x q st ps):∃fd,R fd∧Binds K fd ps []:=by
 obtain⟨l,c,z⟩:=d;exact⟨_,ok _ (Bt (st:=st) l c z), .all fun us e=>b _ _ _ _ _ _ us e⟩
theorem fQ.mt(d:fQ K x q st f)(cl:wm K C)(a:findIn K (.ref C) x=some (some (.ref f)))(i:isFn K (.ref f)=true)(ok:∀fd,iB K x q st f fd→a7 P w K mg base (cW P w) cm k f fd ps sp)(b:QO x q st ps):eJ P w K mg base cm k C x ps sp:=by
 obtain⟨fd,h1,h2⟩:=d.ok (R:=fun fd=>a7 P w K mg base (cW P w) cm k f fd ps sp) ok b;obtain⟨l,c,z⟩:=d;exact Cz h1 ⟨a,i,z⟩ h2 cl
theorem fQ.nw{y:Str}(d:fQ K x q st f)(m:mg y=some (.ref C))(g1:makesIn K C=true)(g2:keepIn K (.ref C)=true)(a:findIn K (.ref C) "__init__"=some (some (.ref f)))(i:isFn K (.ref f)=true)(ok:∀fd,iB K x q st f fd→a7 P w K mg base (cW P w) cm k f fd ps sp)(b:QO x q st ps):m3 P w K mg base cm k y C ps [] sp:=by
 obtain⟨fd,h1,h2⟩:=d.ok (R:=fun fd=>a7 P w K mg base (cW P w) cm k f fd ps sp) ok b;exact yF h1 ⟨g1,a,i,g2⟩ m h2 .nil
structure O0(K:Frag)(x:Str)(C:Addr):Prop where
 a:nsIn K mainGlobals x=some (some (.ref C))
 b:excIn K C [.type "ValueError", .type "Exception", .type "BaseException", .type "object"] "ValueError.__new__"=true
 c:findIn K (.ref C) "__class__"=some (some (.builtin "object.__class__"))
 d:mroIn K C (.type "object")=some true
 e:mroIn K C (.type "BaseException")=some true
 f:findIn K (.ref C) "__getattribute__"=some (some (.builtin "BaseException.__getattribute__"))
 g:findIn K (.ref C) "__getattr__"=some none
 h:instIn K (.ref C) (.type "tuple")=some false
 i:keepIn K (.ref C)=true
theorem O0.er{x:Str}{C:Addr}(e:O0 K x C)(X:K.In h)(G:h.Ns mainGlobals mg):QF.Er K mg x C:=⟨mg_of X G e.a,e.b,e.c,e.d,e.e,e.f,e.g,e.h,e.i⟩
structure O1(K:Frag)(x:Str)(C:Addr):Prop where
 a:nsIn K mainGlobals x=some (some (.ref C))
 b:makesIn K C=true
 c:keepIn K (.ref C)=true
def zL(K:Frag)(x:Str):Prop:=nsIn K mainGlobals x=some none
structure TZ(K:Frag):Prop where
 a:zL K "len"
 b:zL K "range"
 c:zL K "isinstance"
 d:zL K "int"
 e:zL K "bool"
 f:zL K "str"
 g:zL K "list"
 h:zL K "tuple"
 i:zL K "dict"
 j:zL K "all"
 k:zL K "any"
 l:zL K "min"
 m:zL K "max"
 n:zL K "enumerate"
 o:zL K "ValueError"
theorem nP{x:Str}(z:zL K x)(X:K.In h)(G:h.Ns mainGlobals mg):mg x=none:=mg_none_of X G z
theorem TZ.tb(z:TZ K)(X:K.In h)(G:h.Ns mainGlobals mg):QF.TB mg:=⟨nP z.a X G,nP z.b X G,nP z.c X G,nP z.d X G,nP z.e X G,nP z.f X G,nP z.g X G,nP z.h X G,nP z.i X G,nP z.j X G,nP z.k X G,nP z.l X G,nP z.m X G,nP z.n X G,nP z.o X G⟩
end
end L2
namespace QF
open PySem L2
def DI(H:Hp)(us:List V)(ts:List (Pr×Int)):Prop:=us.length=ts.length∧∀(k:Nat)(x:Pr×Int),ts[k]?=some x→∃t,us[k]?=some (V.ref t)∧H t=some (.tup [.int x.1.1, .int x.1.2, .int x.2])
theorem DI.cC{H H':Hp}{us:List V}{ts:List (Pr×Int)}(S:DI H us ts)(t:c7 H H'):DI H' us ts:=⟨S.1,fun k x e=>let ⟨a,h1,h2⟩:=S.2 k x e;⟨a,h1,t _ _ h2⟩⟩
theorem DI.nil{H:Hp}:DI H [] []:=⟨rfl,fun k x e=>by simp at e⟩
theorem DI.snoc{H:Hp}{us:List V}{ts:List (Pr×Int)}(S:DI H us ts){t:Addr}{x:Pr×Int}(h:H t=some (.tup [.int x.1.1, .int x.1.2, .int x.2])):DI H (us++[.ref t]) (ts++[x]):=by
 refine⟨by simp[S.1],fun k y e=>?_⟩;by_cases hk:k<ts.length
 ·rw[Zy hk]at e;rw[Zy (by rw[S.1];exact hk)];exact S.2 k y e
 ·rw[Δ Mm]at e;have w_:k-ts.length=0:=by
   have:=(Z' e).1;simp at this;lia
  rw[w_]at e;cases e;refine⟨t,?_,h⟩;rw[Δ (by rw[S.1];lia),S.1,w_];rfl
def lR(c:Case)(sh:List Pr)(i:Nat):Nat→List (Pr×Int)
 |0=>[]
 |j+1=>lR c sh i j++match mM c sh (aR (i,j))with|some w=>[(aR (i,j),w)]|none=>[]
def kf(c:Case)(sh:List Pr):Nat→List (Pr×Int)
 |0=>[]
 |n+1=>kf c sh n++lR c sh n c.ys.length
theorem qH(c:Case)(sh:List Pr)(i:Nat):∀j,(lR c sh i j).length≤j
 |0=>Nat.le_refl _
 |j+1=>by
  have:=qH c sh i j;simp only[lR,List.length_append];split<;>simp<;>lia
theorem vX(c:Case)(sh:List Pr):∀n,(kf c sh n).length≤n*c.ys.length
 |0=>by simp[kf]
 |n+1=>by
  have:=vX c sh n;have:=qH c sh n c.ys.length;simp only[kf,List.length_append,Nat.succ_mul]
  lia
theorem vY{c:Case}{sh:List Pr}{i:Nat}{x:Pr×Int}:∀{j},x∈lR c sh i j→mM c sh x.1=some x.2
 |0,h=>by cases h
 |j+1,h=>by
  rcases List.mem_append.mp h with h|h
  ·exact vY h
  ·split at h
   ·rename_i w e
    have:x=(aR (i,j),w):=by simpa using h
    rw[this];exact e
   ·cases h
theorem vZ{c:Case}{sh:List Pr}{x:Pr×Int}:∀{n},x∈kf c sh n→mM c sh x.1=some x.2
 |0,h=>by cases h
 |n+1,h=>by
  rcases List.mem_append.mp h with h|h
  ·exact vZ h
  ·exact vY h
inductive tW(vs:List V)(H:Hp)(Q:VK)(u3:XK):Prop
 |mk (a s:Addr) (c:Case) (f g m l:Addr) (us ws:List V) (sh:List Pr) (_:vs=[.ref a, .ref s]) (_:jB H a c f g m l us) (_:H s=some (.lst ws)) (_:gK H ws sh) (_:c.xs.length≤50) (_:c.ys.length≤50) (_:∀H' r vs,ax H H'→H r=none→H' r=some (.lst vs)→DI H' vs (kf c sh c.xs.length)→Q (.ref r) H'):tW vs H Q u3
inductive tX(CF:Addr)(vs:List V)(H:Hp)(Q:VK)(u3:XK):Prop
 |mk (y:Addr) (P:Addr→Prop) (d:Fd) (dy wy rw pr:Addr) (lr iz:List V) (_:vs=[.ref y]) (_:vW P H CF y d dy wy rw pr lr iz) (_:d.row.length=d.way.length) (_:d.way≠[]) (_:∀H',ax H H'→Q (.bl true) H'):tX CF vs H Q u3
inductive qI(CF:Addr)(vs:List V)(H:Hp)(Q:VK)(u3:XK):Prop
 |mk (a t:Addr) (c:Case) (f g m l:Addr) (us ws:List V) (es:List Fd) (_:vs=[.ref a, .ref t]) (_:jB H a c f g m l us) (_:dM 50 c) (_:H t=some (.lst ws)) (_:b_ (fun _=>True) H CF ws es) (_:bN (jm c []) c.out c.into c.least es) (_:∀H',ax H H'→Q (.bl true) H'):qI CF vs H Q u3
theorem FX{c:Case}{ps:List Pr}(w:Wy (lf (jm c [])) ps):k8 c ps=true:=(yO.mpr w).1
theorem HV(g:Pr→Option Int)(o p:Int)(ps:List Pr):(zK g o p ps).length=ps.length:=by simp[zK]
theorem bN.pair{c:Case}{es:List Fd}(t:bN (jm c []) c.out c.into c.least es){q:Pr}{w:Int}(h:mM c [] q=some w)(hl:c.least≤w):∃d∈es,q∈d.pairs:=by
 have hq:lf (jm c []) q=some w:=by rw[w6];exact h
 obtain⟨d,hd,_,p,hp,zZ⟩:=t.met (ws:=[q]) (.one (by rw[hq];rfl)) (by simp[vl,hq];exact hl);have:p=q:=by simpa using hp
 exact⟨d,hd,this▸zZ⟩
theorem bN.FY{m:Nat}{c:Case}(ok:dM m c){es:List Fd}(t:bN (jm c []) c.out c.into c.least es){ds:List Fd}(hs:ds.Sublist es):(ds.map Fd.pairs).flatten.length≤m*m:=by
 have h2:=nN (t.apart.sublist hs) fun d hd=>qG (t.lu d (hs.subset hd)).qz
 have h3:=len_sub _ (uN c.xs.length c.ys.length) h2 fun q hq=>by
  obtain⟨ps,hp,hq⟩:=List.mem_flatten.mp hq;obtain⟨d,hd,rfl⟩:=List.mem_map.mp hp;have:=(t.lu d (hs.subset hd)).op q hq;rw[AM]at this;obtain⟨w,hw⟩:=Option.isSome_iff_exists.mp this;obtain⟨⟨a1,a2⟩,a3,a4⟩:=c.pw_in hw;have:=o6 (n:=c.xs.length) (m:=c.ys.length) (i:=q.1.toNat) (j:=q.2.toNat) (by lia) (by lia);have e:aR (q.1.toNat,q.2.toNat)=q:=Prod.ext (by simp[aR];lia) (by simp[aR];lia);rw[e]at this;exact this
 rw[oZ]at h3;exact Nat.le_trans h3 (Nat.mul_le_mul ok.x ok.y)
end QF
namespace L2
open PySem PySem.Spec PyProof.Rows PySem.W PySem.Calls
open AutoSeq1 (wpAny_loadPart')
end L2
namespace QF
open PySem L2 PySem.Spec PyProof.Rows PySem.W PySem.Calls
section
variable{X:Cx}
end
def lS(es:List Fd)(k:Nat):List Pr:=((es.take k).map Fd.pairs).flatten
theorem y_{es:List Fd}{k:Nat}{d:Fd}(ek:es[k]?=some d):lS es (k+1)=lS es k++d.pairs:=by
 unfold lS;rw[List.take_succ,ek];simp
theorem HW{es:List Fd}{k:Nat}{q:Pr}(h:q∈lS es k):∃d∈es.take k,q∈d.pairs:=by
 obtain⟨ps,hp,hq⟩:=List.mem_flatten.mp h;obtain⟨d,hd,rfl⟩:=List.mem_map.mp hp;exact⟨d,hd,hq⟩
theorem LX{es:List Fd}{d:Fd}{q:Pr}(hd:d∈es)(hq:q∈d.pairs):q∈lS es es.length:=by
 unfold lS;rw[List.take_length];exact List.mem_flatten.mpr ⟨_,List.mem_map.mpr ⟨d,hd,rfl⟩,hq⟩
theorem bN.HX{c:Case}{es:List Fd}(t:bN (jm c []) c.out c.into c.least es){k:Nat}{d:Fd}(ek:es[k]?=some d){q:Pr}(hq:q∈d.pairs):q∉lS es k:=fun h=>by
 obtain⟨e,he,h2⟩:=HW h;obtain⟨hk,rfl⟩:=Z' ek;obtain⟨i,hi,rfl⟩:=List.mem_iff_getElem.mp he;rw[List.length_take]at hi;rw[List.getElem_take]at h2;exact List.pairwise_iff_getElem.mp t.apart i k (by lia) hk Mm q h2 hq
theorem bN.LY{m:Nat}{c:Case}(ok:dM m c){es:List Fd}(t:bN (jm c []) c.out c.into c.least es)(k:Nat):(lS es k).length≤m*m:=t.FY ok (List.take_sublist _ _)
theorem HY{α:Type}{l:List α}{i:Nat}{g:α}(h:l.Nodup)(e:l[i]?=some g):g∉l.take i:=fun m=>by
 obtain⟨hi,rfl⟩:=Z' e;obtain⟨j,hj,e2⟩:=List.mem_iff_getElem.mp m;rw[List.length_take]at hj;rw[List.getElem_take]at e2;exact List.pairwise_iff_getElem.mp h j i Mm hi Mm e2
theorem FZ{kvs:List (List Key×V)}{ps:List Pr}(h:m7 kvs ps)(g:Pr)(v:V):m7 (putK kvs (bb g) v) (ps++[g]):=fun p=>by
 rw[i8];by_cases hp:p=g
 ·rw[U6 (by rw[hp])];simp[hp]
 ·rw[Sn (fun z=>hp (du z)),h p];simp[hp]
theorem xo{α:Type}{R:α→α→Prop}(as:∀a b,R a b→¬R b a):∀{l m:List α},l.Pairwise R→m.Pairwise R→(∀x,x∈l↔x∈m)→l=m
 |[],[],_,_,_=>rfl
 |[],b::m,_,_,h=>by have:=(h b).mpr V9;cases this
 |a::l,[],_,_,h=>by have:=(h a).mp V9;cases this
 |a::l,b::m,hl,hm,h=>by
  have Jy:=List.pairwise_cons.mp hl;have yE:=List.pairwise_cons.mp hm;have e:a=b:=by
   rcases List.mem_cons.mp ((h a).mp V9)with e|e
   ·exact e
   ·rcases List.mem_cons.mp ((h b).mpr V9)with e2|e2
    ·exact e2.symm
    ·exact ZE (yE.1 a e) (as _ _ (Jy.1 b e2))
  subst e
  congr 1
  refine xo as Jy.2 yE.2 fun x=>⟨fun hx=>?_,fun hx=>?_⟩
  ·rcases List.mem_cons.mp ((h x).mp (by simp[hx]))with e|e
   ·subst e;exact ZE (Jy.1 x hx) (as _ _ (Jy.1 x hx))
   ·exact e
  ·rcases List.mem_cons.mp ((h x).mpr (by simp[hx]))with e|e
   ·subst e;exact ZE (yE.1 x hx) (as _ _ (yE.1 x hx))
   ·exact e
theorem F0(p q:Pr)(h:jD p q=true):¬jD q p=true:=fun z=>by rw[Ay h]at z;cases z
abbrev Ky:=Int×List Pr
def lz(d:Fd):Ky:=(d.worth,d.pairs)
def LZ(a b:Ky):Bool:=if a.1=b.1 then jD (lh a.2) (lh b.2)else decide (b.1<a.1)
theorem HZ(a b:Ky)(h:LZ a b=true):¬LZ b a=true:=fun z=>by
 unfold LZ at h z;by_cases e:a.1=b.1
 ·rw[U6 e]at h;rw[U6 e.symm]at z;exact F0 _ _ h z
 ·rw[Sn e]at h;rw[Sn (Ne.symm e)]at z;simp at h z;lia
theorem Told.same{E:Pr→Pr→Prop}{gs hs:List (List Pr)}(t:Told E gs)(u:Told E hs):∀ps∈gs,ps∈hs:=fun ps h=>by
 obtain⟨a,ha⟩:=List.exists_mem_of_ne_nil ps (t.ne ps h);obtain⟨qs,hq,hb⟩:=u.all a (t.mem h ha);have:ps=qs:=xo F0 (t.qz ps h) (u.qz qs hq) fun x=>(t.cls ps h a ha x).trans (u.cls qs hq a hb x).symm
 rw[this];exact hq
inductive Rn(o p least:Int):(Nat→Nat→Option Int)→List Fd→Prop
 |stop {f:Nat→Nat→Option Int} (_:Stop f o p least):Rn o p least f []
 |round {f:Nat→Nat→Option Int} {W:Int} {gs:List (List Pr)} {ds rs:List Fd} (_:g9 f o p least W gs ds) (_:Rn o p least (iu f gs.flatten) rs):Rn o p least f (ds++rs)
theorem Reach.rn{f0 f:Nat→Nat→Option Int}{o p least:Int}{ds rs:List Fd}(r:Reach f0 o p least ds f)(h:Rn o p least f rs):Rn o p least f0 (ds++rs):=by
 induction r generalizing rs with
 |start=>exact h
 |round _ R ih=>rw[List.append_assoc];exact ih (.round R h)
theorem bN.rn{f0:Nat→Nat→Option Int}{o p least:Int}{es:List Fd}(t:bN f0 o p least es):∃ds,Rn o p least f0 ds∧es.Perm ds:=by
 obtain⟨ds,f,r,st,pm⟩:=t.QN;have:=r.rn (.stop st);rw[List.append_nil]at this;exact⟨ds,this,pm⟩
theorem g9.za{f:Nat→Nat→Option Int}{o p least W:Int}{gs:List (List Pr)}{ds:List Fd}(R:g9 f o p least W gs ds)(s:Stop f o p least):False:=by
 obtain⟨ps,w,e⟩:=R.ex;have:=s ps w;have:=R.least
 lia
theorem g9.keys{f:Nat→Nat→Option Int}{o p least W:Int}{gs:List (List Pr)}{ds:List Fd}(R:g9 f o p least W gs ds)(k:Ky):k∈ds.map lz↔k.1=W∧k.2∈gs:=by
 constructor
 ·intro h;obtain⟨d,hd,rfl⟩:=List.mem_map.mp h;refine⟨(R.ok d hd).worth,?_⟩;rw[←R.FO];exact List.mem_map.mpr ⟨d,hd,rfl⟩
 ·rintro⟨h1,h2⟩;rw[←R.FO]at h2;obtain⟨d,hd,e⟩:=List.mem_map.mp h2;exact List.mem_map.mpr ⟨d,hd,Prod.ext ((R.ok d hd).worth.trans h1.symm) e⟩
theorem Dm{f:Nat→Nat→Option Int}{ps qs:List Pr}(h:∀x,x∈ps↔x∈qs):iu f ps=iu f qs:=by
 funext i j
 unfold iu;by_cases e:aR (i,j)∈ps
 ·rw[U6 e,U6 ((h _).mp e)]
 ·rw[Sn e,Sn (fun z=>e ((h _).mpr z))]
theorem Rn.uniq{o p least:Int}{f:Nat→Nat→Option Int}{ds es:List Fd}(a:Rn o p least f ds)(b:Rn o p least f es):∀k,k∈ds.map lz↔k∈es.map lz:=by
 induction a generalizing es with
 |stop s=>
  cases b with
  |stop _=>exact fun k=>Iff.rfl
  |round R _=>exact(R.za s).elim
 |@round f W gs ds rs R _ ih=>
  cases b with
  |stop s=>exact(R.za s).elim
  |@round _ W' Vu XU Zw R' b'=>
   have eW:W=W':=by
    obtain⟨ps,w,e⟩:=R.ex;obtain⟨qs,v,e'⟩:=R'.ex;have:=R.top qs v;have:=R'.top ps w
    lia
   subst eW;have hg:∀ps,ps∈gs↔ps∈Vu:=fun ps=>⟨R.told.same R'.told ps,R'.told.same R.told ps⟩
   have es:iu f gs.flatten=iu f Vu.flatten:=Dm fun x=>by
    simp only[List.mem_flatten];exact⟨fun⟨l,h1,h2⟩=>⟨l,(hg l).mp h1,h2⟩,fun⟨l,h1,h2⟩=>⟨l,(hg l).mpr h1,h2⟩⟩
   rw[←es]at b';intro k;rw[List.map_append,List.map_append,List.mem_append,List.mem_append,R.keys,R'.keys,hg,ih b' k]
theorem bN.keys{f0:Nat→Nat→Option Int}{o p least:Int}{es:List Fd}(t:bN f0 o p least es){ds:List Fd}(r:Rn o p least f0 ds)(k:Ky):k∈es.map lz↔k∈ds.map lz:=by
 obtain⟨XU,r',pm⟩:=t.rn;rw[(pm.map lz).mem_iff];exact r'.uniq r k
theorem bN.eq{f0 f1:Nat→Nat→Option Int}{o p least o' p' least':Int}{es yk:List Fd}(t:bN f0 o p least es)(hs:yk.Pairwise fun a b=>LV a b=true)(h:∀k,k∈es.map lz↔k∈yk.map lz):es.map lz=yk.map lz:=
 xo HZ (List.pairwise_map.mpr t.qz) (List.pairwise_map.mpr hs) h
theorem bN.uniq{f0:Nat→Nat→Option Int}{o p least:Int}{es yk:List Fd}(t:bN f0 o p least es)(t':bN f0 o p least yk):es.map lz=yk.map lz:=by
 obtain⟨ds,r,_⟩:=t'.rn;exact bN.eq (f1:=f0) (o':=o) (p':=p) (least':=least) t t'.qz fun k=>(t.keys r k).trans (t'.keys r k).symm
def L0(H:Hp)(ws:List V)(ks:List Ky):Prop:=ws.length=ks.length∧∀(i:Nat)(x:Ky),ks[i]?=some x→∃t l us,ws[i]?=some (V.ref t)∧H t=some (.tup [.int x.1, .ref l])∧H l=some (.lst us)∧gK H us x.2
inductive tY(CF:Addr)(vs:List V)(H:Hp)(Q:VK)(u3:XK):Prop
 |mk (t d:Addr) (us ws:List V) (es:List Fd) (P:Addr→Prop) (_:vs=[.ref t, .ref d]) (_:H t=some (.lst us)) (_:b_ P H CF us es) (_:H d=some (.lst ws)) (_:L0 H ws (es.map lz)) (_:es.length≤1000) (_:Q (.bl true) H):tY CF vs H Q u3
section
variable{X:Cx}
inductive Ft(K:Frag)(x:V)(y:V)(H:Hp)(Q:VK):Prop
 |mk (p q:Addr) (xs ys:List V) (ps:List Pr) (_:x= .ref p) (_:y= .ref q) (_:iE K H p xs) (_:iE K H q ys) (_:gK H xs ps) (_:gK H ys ps) (_:Q (.bl false) H):Ft K x y H Q
theorem AO(K:Frag)(hu:X.A.units+1<cLine)(hK:X.K=K:=by rfl):rl X (compareOp .NotEq) (Ft K):=by
 subst hK;intro pins s σ H x y v u Q I rx ry h;obtain⟨p,q,xs,ys,ps,rfl,rfl,hp,hq,P1,P2,k⟩:=h;cases rx;cases ry;obtain⟨its,r,pl,hz⟩:=I.list hp;obtain⟨dS,r2,Hi,Mw⟩:=I.list hq;have l1:=r.length;have l2:=r2.length;have c1:=P1.1;have c2:=P2.1;obtain⟨⟨cls,dd,data,sl⟩,ho,hc,n,hd⟩:=id pl.isList;obtain⟨⟨KZ,EF,data2,yb⟩,yc,uB,n2,hd2⟩:=id Hi.isList;simp only at hc hd uB hd2;subst hc hd uB hd2;have hsz:its.toArray.size=dS.toArray.size:=by rw[List.size_toArray,List.size_toArray];lia
 refine richCompare_meets_room (op:= .NotEq) ⟨_,ho,rfl⟩ ⟨_,yc,rfl⟩ F.slot_list_ne F.entry_list_ne (F.args_list_ne_2 _ _) (SeqAt.list_neAt p q its.toArray dS.toArray n n2 dd EF sl yb hsz fun _=>true) ⟨ho,yc,fun j h1 h2=>?_,?_⟩ Mm
 ·have Jd:j<ps.length:=by simp at h1;lia
  have ej:ps[j]?=some ps[j]:=by simp[Jd]
  generalize ps[j]=g at ej;obtain⟨a1,e1,g1⟩:=P1.2 j g ej;obtain⟨a2,e2,g2⟩:=P2.2 j g ej;obtain⟨u1,XW,XX⟩:=r.get e1;obtain⟨u2,XY,XZ⟩:=r2.get e2;cases XX;cases XZ;have k1:its.toArray[j]= .ref a1:=by simpa[List.getElem?_eq_some_iff]using(Z' XW).2
  have k2:dS.toArray[j]= .ref a2:=by simpa[List.getElem?_eq_some_iff]using(Z' XY).2
  rw[k1,k2];by_cases ha:a1=a2
  ·subst ha;exact SeqAt.EqAt.same _
  ·obtain⟨OZ,r3,Tn,XS⟩:=I.tuple (xs:=jA g) (.of g1);obtain⟨Tp,r4,X0,Zx⟩:=I.tuple (xs:=jA g) (.of g2);have:=SeqAt.EqAt.of_refs ha (SeqAt.RcAt.tuples (A:=X.A.in1) Tn X0 (show X.A.in1.units<cLine from hu) (tF r3 r4 rfl rfl));have e9:true=decide (g=g):=Wv;have h3:OZ.toArray.size=(jA g).length:=by rw[List.size_toArray,←r3.length]
   have h4:Tp.toArray.size=(jA g).length:=by rw[List.size_toArray,←r4.length]
   rw[h3,h4]at this;rw[e9,←wY,←kF];exact this
 ·refine⟨(fun x=>nomatch x), .bl false,H,I,?_,k⟩;have e9:((Zj its.toArray.size).all fun _=>true)=true:=Wv;rw[e9];rfl
end
end QF
namespace QF
open PySem L2
def O2(c:Case):Prop:=∀ds f,Reach (jm c []) c.out c.into c.least ds f→ds.length≤20
inductive xp(CF:Addr)(vs:List V)(H:Hp)(Q:VK)(u3:XK):Prop
 |mk (a:Addr) (c:Case) (f g m l:Addr) (us:List V) (most:Nat) (_:vs=[.ref a]) (_:jB H a c f g m l us) (_:dM most c) (_:most≤50) (_:O2 c) (_:∀es,bN (jm c []) c.out c.into c.least es→∀H' r vs,ax H H'→H r=none→H' r=some (.lst vs)→b_ (fun _=>True) H' CF vs es→Q (.ref r) H'):xp CF vs H Q u3
theorem F1{m:Nat}{c:Case}(k:dM m (gi c)):O2 (gi c):=fun _ _ r=>FV k r
def lT(H:Hp)(S:Addr)(ws:List V)(ks:List Ky):Prop:=ws.length=ks.length∧∀(i:Nat)(x:Ky),ks[i]?=some x→∃t l us,ws[i]?=some (V.ref t)∧H t=some (.tup [.int x.1, .ref l])∧H l=some (.lst us)∧gK H us x.2∧l≠S
theorem lT.Tq{H:Hp}{S:Addr}{ws:List V}{ks:List Ky}(D:lT H S ws ks):L0 H ws ks:=⟨D.1,fun i x e=>let ⟨t,l,us,h1,h2,h3,P,_⟩:=D.2 i x e;⟨t,l,us,h1,h2,h3,P⟩⟩
theorem lT.nil{H:Hp}{S:Addr}:lT H S [] []:=⟨rfl,fun i x e=>by simp at e⟩
theorem lT.keep{H H':Hp}{S:Addr}{ws:List V}{ks:List Ky}(D:lT H S ws ks)(h:∀b o,b≠S→H b=some o→H' b=some o)(T:c7 H H'):lT H' S ws ks:=
 ⟨D.1,fun i x e=>let ⟨t,l,us,h1,h2,h3,P,n⟩:=D.2 i x e;⟨t,l,us,h1,T _ _ h2,h l _ n h3,P.cC T,n⟩⟩
theorem lT.snoc{H:Hp}{S:Addr}{ws:List V}{ks:List Ky}(D:lT H S ws ks){t l:Addr}{us:List V}{x:Ky}(h1:H t=some (.tup [.int x.1, .ref l]))(h2:H l=some (.lst us))(P:gK H us x.2)(n:l≠S):lT H S (ws++[.ref t]) (ks++[x]):=by
 refine⟨by simp[D.1],fun k y e=>?_⟩;by_cases hk:k<ks.length
 ·rw[Zy hk]at e;rw[Zy (by rw[D.1];exact hk)];exact D.2 k y e
 ·rw[Δ Mm]at e;have w_:k-ks.length=0:=by
   have:=(Z' e).1;simp at this;lia
  rw[w_]at e;cases e;refine⟨t,l,us,?_,h1,h2,P,n⟩;rw[Δ (by rw[D.1];lia),D.1,w_];rfl
end QF
namespace L2
open PySem PySem.Spec PyProof.Rows PySem.W PySem.Calls
open AutoSeq1 (wpAny_loadPart')
end L2
namespace QF
open PySem L2 PySem.Spec PyProof.Rows PySem.W PySem.Calls
section
variable{X:Cx}
end
end QF
namespace QF
open PySem L2
end QF
namespace QF
open PySem L2
section
variable{m:Nat}{c:Case}
end
section
variable{φ ψ:Pr→Pr}{o p o' p' W least:Int}{f g:Nat→Nat→Option Int}
end
end QF
namespace L2
open PySem PySem.Spec PyProof.Rows PySem.W PySem.Calls
open AutoSeq1 (wpAny_loadPart')
open PySem.SeqAt PySem.MeetsSeq PySem.MeetsSeq2 PySem.MeetsSeq3 PySem.SeqRoads2
open PySem.SeqAt
section
variable{prog:Program}{w:World}{A:Around}{E:Value→Shared→Prop}{s:Shared}
end
end L2
namespace QF
open PySem L2 PySem.Spec PyProof.Rows PySem.W PySem.Calls
end QF
namespace QF
open PySem L2
section
variable{φ:Pr→Pr}{c:Case}{es:List Fd}{ks:List Ky}
end
section
open PySem.Spec PyProof.Rows PySem.W PySem.Calls
variable{X:Cx}
end
def tZ:Nat→Int→Str×Int
 |0,r=>(Str.ofString "",r)
 |k+1,r=>((tZ k r).1++⟨#[97+((tZ k r).2%26).toNat]⟩,(tZ k r).2/26)
def zb(cell other:Int)(n:Nat):List Str:=(Zj n).map (jy (tZ 12 (cell/24)).1 cell other)
inductive t5(vs:List V)(H:Hp)(Q:VK)(u3:XK):Prop
 |mk (cell other many:Int) (_:vs=[.int cell, .int other, .int many]) (_:0≤many) (_:many≤12) (_:∀H' b (zs:List Str),ax H H'→H b=none→H' b=some (.lst (zs.map V.str))→zs.length=many.toNat→(∀z∈zs,ql z=true)→zs.Nodup→zs=zb cell other many.toNat→Q (.ref b) H'):t5 vs H Q u3
inductive t6(vs:List V)(H:Hp)(Q:VK)(u3:XK):Prop
 |mk (cell same:Int) (b:Addr) (zs:List Str) (_:vs=[.int cell, .ref b, .int same]) (_:H b=some (.lst (zs.map V.str))) (_:zs.length≤8) (_:(∀z∈zs,ql z=true)) (_:zs.Nodup) (_:1≤same) (_:same≤999999) (_:∀H' l xs fs,ax H H'→H l=none→H' l=some (.lst xs)→cZ H' xs fs→bD fs=true→(∀f∈fs,f.1∈zs∧f.2.1∈zs)→Q (.ref l) H'):t6 vs H Q u3
structure F2(c:Case)(zs:List Str):Prop where
 x:∀w∈c.xs,w∈zs
 y:∀w∈c.ys,w∈zs
 f:∀f∈c.fs,f.1∈zs∧f.2.1∈zs
inductive t8(K:W.Frag)(vs:List V)(H:Hp)(Q:VK)(u3:XK):Prop
 |mk (a:Addr) (ns:List Int) (most:Int) (_:vs=[.ref a, .int most]) (_:iE K H a (ns.map V.int)) (_:0≤most) (_:most≤40) (_:most≤20) (_:∀H' b c f g m l us,ax H H'→H b=none→jB H' b c f g m l us→dM most.toNat c→∀zs,zs=zb (cell ns 0) (cell ns 1) (1+cell ns 2%5).toNat→zs.length≤5→(∀z∈zs,ql z=true)→zs.Nodup→F2 c zs→Q (.ref b) H'):t8 K vs H Q u3
def rF(zs rs:List Str)(w:Str):Str:=(rs[zs.findIdx fun x=>decide (x=w)]?).getD w
theorem xq{zs rs:List Str}{w:Str}(hl:rs.length=zs.length)(h:w∈zs):∃j:Nat,zs[j]?=some w∧rs[j]?=some (rF zs rs w)∧∀m:Nat,m<j→zs[m]?≠some w:=by
 have hj:(zs.findIdx fun x=>decide (x=w))<zs.length:=List.findIdx_lt_length_of_exists ⟨w,h,Wv⟩;refine⟨zs.findIdx fun x=>decide (x=w),?_,?_,fun m hm e=>?_⟩
 ·have:=List.findIdx_getElem (w:=hj);rw[Θ hj];exact congrArg some (of_decide_eq_true this)
 ·unfold rF;rw[Θ Mm];rfl
 ·have:=List.not_of_lt_findIdx hm;obtain⟨h1,h2⟩:=Z' e;simp[h2]at this
theorem mF{zs rs:List Str}{x y:Str}(hl:rs.length=zs.length)(nd:rs.Nodup)(hx:x∈zs)(hy:y∈zs)(e:rF zs rs x=rF zs rs y):x=y:=by
 obtain⟨i,a1,a2,_⟩:=xq hl hx;obtain⟨j,b1,b2,_⟩:=xq hl hy;rw[←e,←a2]at b2;have hi:=(Z' a2).1;have:=(List.getElem?_inj hi nd).mp b2.symm;subst this;rw[a1]at b1;exact ZV b1
theorem F5{zs rs:List Str}{w:Str}(hl:rs.length=zs.length)(h:w∈zs):rF zs rs w∈rs:=by
 obtain⟨i,_,a2,_⟩:=xq hl h;exact ZO a2
def zc(zs rs:List Str)(f:Form):Form:=(rF zs rs f.1,rF zs rs f.2.1,f.2.2)
def DJ(zs rs:List Str)(c:Case):Case:={c with xs:=c.xs.map (rF zs rs),ys:=c.ys.map (rF zs rs),fs:=c.fs.map (zc zs rs)}
section
variable{zs rs:List Str}{c:Case}(hl:rs.length=zs.length)(nd:rs.Nodup)(W:F2 c zs)
include hl nd
theorem zd{x y:Str}(hx:x∈zs)(hy:y∈zs):∀fs:List Form,(∀f∈fs,f.1∈zs∧f.2.1∈zs)→cP (fs.map (zc zs rs)) (rF zs rs x) (rF zs rs y)=cP fs x y
 |[],_=>rfl
 |f::fs,h=>by
  have ih:=zd hx hy fs fun g hg=>h g (by simp[hg])
  have hf:=h f V9;unfold cP at ih⊢;rw[List.map_cons,List.find?_cons,List.find?_cons];have e:decide ((zc zs rs f).1=rF zs rs x∧(zc zs rs f).2.1=rF zs rs y)=decide (f.1=x∧f.2.1=y):=by
   apply decide_eq_decide.mpr;constructor
   ·rintro⟨e1,e2⟩;exact⟨mF hl nd hf.1 hx e1,mF hl nd hf.2 hy e2⟩
   ·rintro⟨e1,e2⟩;exact⟨by show rF zs rs f.1=_;rw[e1],by show rF zs rs f.2.1=_;rw[e2]⟩
  rw[e];by_cases h2:f.1=x∧f.2.1=y
  ·simp[h2,zc]
  ·simp only[h2,decide_false];exact ih
include W
theorem O3(q:Pr):(DJ zs rs c).pw q=c.pw q:=by
 unfold Case.pw;show((wd (c.xs.map (rF zs rs)) q.1).bind fun x=>(wd (c.ys.map (rF zs rs)) q.2).bind fun y=>cI c.same (c.fs.map (zc zs rs)) x y)=_;have hm:∀(xs:List Str)(i:Int),wd (xs.map (rF zs rs)) i=(wd xs i).map (rF zs rs):=fun xs i=>by
  unfold wd;split
  ·rw[List.getElem?_map]
  ·rfl
 have lI:∀{xs:List Str}{i:Int}{x:Str},wd xs i=some x→x∈xs:=fun{xs i x} h=>by
  unfold wd at h;split at h
  ·exact ZO h
  ·cases h
 rw[hm,hm];cases e1:wd c.xs q.1 with
 |none=>rfl
 |some x=>
  cases e2:wd c.ys q.2 with
  |none=>rfl
  |some y=>
   have hx:=W.x x (lI e1);have hy:=W.y y (lI e2);show cI c.same (c.fs.map (zc zs rs)) (rF zs rs x) (rF zs rs y)=cI c.same c.fs x y;unfold cI;rw[zd hl nd hx hy c.fs W.f];by_cases e:x=y
   ·rw[U6 e,U6 (by rw[e])]
   ·rw[Sn e,Sn (fun z=>e (mF hl nd hx hy z))]
theorem F8:jm (DJ zs rs c) []=jm c []:=by
 funext i j
 have:=O3 hl nd W (aR (i,j));show mM _ _ _=mM _ _ _;unfold mM;rw[if_neg V9,if_neg V9];exact this
theorem L1(f:O2 c):O2 (DJ zs rs c):=fun ds g r=>f ds g (by
 rw[F8 hl nd W]at r;exact r)
theorem O4{m:Nat}(hw:∀z∈rs,ql z=true)(k:dM m c):dM m (DJ zs rs c):=by
 refine⟨by show(c.xs.map _).length≤m;rw[List.length_map];exact k.x,by show(c.ys.map _).length≤m;rw[List.length_map];exact k.y,?_,k.same,k.out,k.into,k.least⟩;have g:=k.good;show bD (c.fs.map (zc zs rs))=true;simp only[bD,Bool.and_eq_true,List.all_eq_true,decide_eq_true_eq]at g⊢;refine⟨⟨by rw[List.length_map];exact g.1.1,fun f hf=>?_⟩,?_⟩
 ·obtain⟨f0,h0,rfl⟩:=List.mem_map.mp hf;have k:=g.1.2 f0 h0;have w:=W.f f0 h0;simp only[CC,gS,Bool.and_eq_true,Bool.not_eq_true',beq_eq_false_iff_ne]at k⊢;exact⟨⟨⟨hw _ (F5 hl w.1),hw _ (F5 hl w.2)⟩,fun z=>k.1.2 (mF hl nd w.1 w.2 z)⟩,k.2⟩
 ·have h2:c.fs.Pairwise fun a b=>jn a≠jn b:=List.pairwise_map.mp g.2
  rw[List.map_map];refine List.pairwise_map.mpr (List.Pairwise.imp_of_mem (fun{a b} ha hb h e=>h ?_) h2);have wa:=W.f a ha;have wb:=W.f b hb;simp only[jn,zc,Function.comp,List.cons.injEq,Sum.inr.injEq,and_true]at e;obtain⟨e1,e2⟩:=e;have h1:=mF hl nd wa.1 wb.1 e1;have h2:=mF hl nd wa.2 wb.2 e2;simp only[jn,h1,h2]
end
def L3(k:Nat)(zs:List Str):List Str:=zs.drop k++zs.take k
theorem F9(k:Nat)(zs:List Str):(L3 k zs).Perm zs:=by
 have:=List.perm_append_comm (l₁:=zs.drop k) (l₂:=zs.take k);rw[List.take_append_drop]at this;exact this
theorem H_{zs:List Str}{k:Nat}(h:k≤zs.length):wA (zs.map V.str) (some (k:Int)) none=(zs.drop k).map V.str∧wA (zs.map V.str) none (some (k:Int))=(zs.take k).map V.str:=by
 have e:HT.j7 (zs.map V.str).length 0 (some (k:Int))=k:=by rw[HT.Bk,List.length_map];lia
 have e':HT.j7 (zs.map V.str).length (zs.map V.str).length (some (k:Int))=k:=by rw[HT.Bk,List.length_map];lia
 unfold wA;rw[e,e',HT.sU,HT.sU];constructor
 ·rw[List.length_map,←List.map_drop,List.take_of_length_le (by rw[List.length_map,List.length_drop];lia)]
 ·rw[List.drop_zero,Nat.sub_zero,←List.map_take]
def Vv(n m:Nat)(q:Pr):Prop:=(0≤q.1∧q.1<n)∧0≤q.2∧q.2<m
section
variable{n m:Nat}{S o p least:Int}(hS:0<S)(ho:40*S≤o)(hp:40*S≤p)(hn:n≤40)(hl:1≤least)
structure Un(n m:Nat)(S:Int)(f:Nat→Nat→Option Int):Prop where
 val:∀q,(lf f q).isSome=true→lf f q=some S∧Vv n m q
 all:∀q q',(lf f q).isSome=true→Vv n m q'→q.1-q.2=q'.1-q'.2→(lf f q').isSome=true
include hS ho hp hn
include hl
end
section
variable{n m:Nat}{S o p least:Int}{w:Str}(hS:0<S)(ho:40*S≤o)(hp:40*S≤p)(hn:n≤40)(hl:1≤least)
include hS ho hp hn hl
end
end QF
namespace Tr
open PySem L2 QF
def top(i:Nat):Stmt:=PySem.Challenge.pw_quotefind_k27_other_words.main.body.getD i (.Pass ⟨0,0,0,0⟩)
abbrev gj:Stmt:=top 28
abbrev mG:Stmt:=top 29
abbrev kJ:Stmt:=top 34
abbrev je:Stmt:=top 35
abbrev gk:Stmt:=top 36
abbrev g_:Stmt:=top 37
abbrev bu:Stmt:=inClass (top 38) 0
abbrev dZ:Stmt:=inClass (top 38) 1
abbrev kK:Stmt:=top 11
abbrev AQ:Stmt:=top 12
abbrev fU:Stmt:=top 13
abbrev dO:Stmt:=inClass (top 14) 1
abbrev eO:Stmt:=inClass (top 14) 0
abbrev gW:Stmt:=inClass (top 14) 2
abbrev d6:Stmt:=inClass (top 14) 4
abbrev cR:Stmt:=inClass (top 14) 3
abbrev e8:Stmt:=inClass (top 14) 5
abbrev iC:Stmt:=inClass (top 14) 6
abbrev fV:Stmt:=inClass (top 20) 0
abbrev nQ:Stmt:=top 24
abbrev e_:Stmt:=top 21
abbrev gm:Stmt:=inClass (top 7) 0
abbrev iO:Stmt:=inClass (top 7) 1
abbrev fz:Stmt:=inClass (top 7) 2
abbrev fe:Stmt:=inClass (top 7) 3
abbrev hG:Stmt:=inClass (top 7) 4
abbrev fg:Stmt:=inClass (top 8) 0
abbrev fA:Stmt:=inClass (top 8) 1
abbrev dI:Stmt:=inClass (top 8) 2
abbrev eP:Stmt:=inClass (top 8) 3
abbrev j1:Stmt:=top 9
abbrev mH:Stmt:=top 16
abbrev fG:Stmt:=top 17
abbrev gq:Stmt:=top 22
abbrev kL:Stmt:=top 23
abbrev qJ:Stmt:=top 25
abbrev qK:Stmt:=top 40
abbrev kM:Stmt:=top 41
abbrev lU:Stmt:=top 42
abbrev lV:Stmt:=top 43
abbrev iP:Stmt:=top 44
abbrev gu:Stmt:=top 45
abbrev lW:Stmt:=top 46
abbrev lX:Stmt:=top 47
abbrev lY:Stmt:=top 48
abbrev kN:Stmt:=top 49
abbrev kO:Stmt:=top 50
abbrev kP:Stmt:=top 51
abbrev lZ:Stmt:=top 52
abbrev gv:Stmt:=top 53
abbrev hJ:Stmt:=top 54
abbrev iQ:Stmt:=top 55
abbrev hU:Stmt:=top 56
abbrev kQ:Stmt:=top 57
abbrev fB:Stmt:=top 58
abbrev la:Stmt:=top 59
section
variable{P:Program}{w:World}{K:W.Frag}{mg:Str→Option Value}{base:Heap}
variable{d7 cT aU aA ay aI az kg:Addr}
variable(T:TB mg)
theorem nS:aM ["sign"] ["sign"] (ar gj):=⟨rfl,rfl,rfl,by decide+kernel,rfl,by decide+kernel,by decide+kernel⟩
include T in
theorem nU{f:Addr}{fd:FuncData}(F:jw K "is_small_letter" "is_small_letter" gj f fd):a7 P w K mg base (cW P w) true 1 f fd ["sign"] Ah:=by
 refine F.gM nS ZQ (fun bS A outer s H vs Q E hr h hX=>?_)
 ·obtain⟨i,rfl,_⟩:=h;rfl
 ·obtain⟨c,rfl,q⟩:=h;refine⟨_,(WX (ZS (@wk _ _ _ _ _ _ _ (@iI _ _ _ _ _ _ _ _ vM dX Xd (aV _)) (@wj _ _ _ _ _ (@iI _ _ _ _ _ _ _ _ vM Xd dX (aV _)))))),?_⟩;refine⟨_,rfl,_,_,rfl,rfl,_,rfl,?_⟩;have q:Q (.bl (decide (97≤c)&&decide (c≤122))) H:=q;rw[←So,←Sq]at q;refine bf (fun h=>?_) (fun h=>?_)
  ·refine⟨_,rfl,_,_,rfl,rfl,?_⟩;rw[h,Bool.true_and]at q;exact q
  ·rw[Bool.not_eq_true]at h;rw[h,Bool.false_and]at q;exact q
variable(jF:D5 mg "WORD_MOST" (.int 12))
variable(eQ:bK P w K mg base true 1 "is_small_letter" ["sign"] Ah)
theorem AR:aM ["text"] ["text"] (ar mG):=⟨rfl,rfl,rfl,by decide+kernel,rfl,by decide+kernel,by decide+kernel⟩
include T jF eQ in
theorem AS{f:Addr}{fd:FuncData}(F:jw K "is_word" "is_word" mG f fd):a7 P w K mg base (cW P w) true 2 f fd ["text"] wJ:=by
 refine F.gM AR ZQ (fun bS A outer s H vs Q E hr h hX=>?_)
 ·obtain⟨i,rfl,_⟩:=h;rfl
 ·obtain⟨z,rfl,hz,q⟩:=h;refine⟨_,(Xc (Ξ (@PW.pt _ _ _ (Κ (Zk mY (Z7 oF T.cX (Z2 Xd)) ai (aV _)) (@pw_or1 _ _ _ _ (Zk rq (Z7 oF T.cX (Z2 Xd)) (ζ jF) (aV _))))) aQ) (WX (ZS (γ (CB K rfl) T.Ob PyProof.Rows.Boot.«all» (Z2 (@oK _ _ _ _ _ _ _ _ _ _ _ _ _ _ (by exact rfl) (show bh ["text"] (ar mG) _ ["sign"] [] []from⟨rfl,by decide+kernel,by decide+kernel,by decide+kernel,rfl,rfl,by decide+kernel,by decide+kernel,by decide+kernel⟩) (@KO _ _ _ _ (pv 0)) (fun _ _ _ _ _=>(Z1 (0) (show(["sign"]:List Str).Nodup by decide+kernel))) (fun _ _ _ _ _=>fL) (fun _ _ _ _ _=>(Z5 eQ aO (Z2 Xd))) (by intro _;rfl))))))),?_⟩;have Vw:z.length≤sizeLine:=Nat.le_trans hz (U7);refine⟨_,rfl,z,rfl,Vw,_,_,rfl,rfl,_,rfl,?_⟩;refine bf (fun h=>?_) (fun h=>?_)
  ·have h:((z.length:Nat):Int)<1:=by simpa using h
   refine jV ?_;have e:ql z=false:=by
    have:¬1≤z.length:=by lia
    simp[ql,this]
   have q:=q H (ax.refl H);rw[e]at q;exact q
  have h:¬((z.length:Nat):Int)<1:=by simpa using h
  refine⟨_,rfl,z,rfl,Vw,_,_,rfl,rfl,_,rfl,?_⟩;refine bf (fun h2=>?_) (fun h2=>?_)
  ·have h2:(12:Int)<((z.length:Nat):Int):=by simpa using h2
   have e:ql z=false:=by
    have:¬z.length≤12:=by lia
    simp[ql,this]
   have q:=q H (ax.refl H);rw[e]at q;exact q
  have h2:¬(12:Int)<((z.length:Nat):Int):=by simpa using h2
  have hl:z.length≤12:=by lia
  have e:ql z=z.cps.toList.all low:=by
   have h3:1≤z.length:=by lia
   simp[ql,h3,hl]
  refine⟨_,rfl,z,rfl,fun D hD=>?_⟩;refine Et (fun i ys σ H'=>(∃v,σ=[v])∧ys=(z.cps.toList.take i).map (fun c=>V.bl (low c))∧H'=upd H D (.lst ys)) ⟨⟨_,rfl⟩,rfl,rfl⟩ ?_ ?_
  ·rintro i c ys σ H' hc ⟨⟨v,rfl⟩,hy,rfl⟩;refine lK ?_;refine⟨_,rfl,c,rfl,ae,?_,⟨_,rfl⟩,?_,?_⟩
   ·rw[hy,List.length_map,List.length_take];exact Nat.lt_of_le_of_lt (Nat.min_le_left _ _) (Nat.lt_of_lt_of_le (Nat.lt_of_lt_of_le (Z' hc).1 (by simpa[Str.length]using hl)) (U7))
   ·rw[hy,List.take_succ,hc];simp
   ·rw[gc]
  ·rintro ys σ H' ⟨_,hy,rfl⟩;have DK:ys=(z.cps.toList.map low).map V.bl:=by
    rw[hy,List.take_of_length_le (by simp[Str.length])];simp
   rw[DK];refine⟨D,z.cps.toList.map low,rfl,iE.of ae,?_⟩;have q:=q _ (ax.upd hD:ax H (upd H D (.lst ((z.cps.toList.map low).map V.bl))));rw[e]at q;have e3:(z.cps.toList.map low).all id=z.cps.toList.all low:=by rw[List.all_map];rfl
   rw[←e3]at q;exact q
theorem uO:aM ["low","number","high"] ["low","number","high"] (ar kJ):=⟨rfl,rfl,rfl,by decide+kernel,rfl,by decide+kernel,by decide+kernel⟩
include T in
theorem uP{f:Addr}{fd:FuncData}(F:jw K "is_between" "is_between" kJ f fd):a7 P w K mg base (cW P w) true 1 f fd ["low","number","high"] nG:=by
 refine F.gM uO ZQ (fun bS A outer s H vs Q E hr h hX=>?_)
 ·obtain⟨l,n,h,rfl,_⟩:=h;rfl
 ·obtain⟨l,n,h,rfl,q⟩:=h;refine⟨_,(WX (ZS (@wk _ _ _ _ _ _ _ (@iI _ _ _ _ _ _ _ _ Bf Xd (pv 1) (aV _)) (@wj _ _ _ _ _ (@iI _ _ _ _ _ _ _ _ Bf ZC (pv 2) (aV _)))))),?_⟩;refine⟨_,rfl,_,rfl,_,_,rfl,rfl,_,rfl,?_⟩;refine bf (fun h1=>?_) (fun h1=>?_)
  ·refine⟨_,rfl,_,rfl,_,_,rfl,rfl,?_⟩;rw[h1,Bool.true_and]at q;exact q
  ·rw[Bool.not_eq_true]at h1;rw[h1,Bool.false_and]at q;exact q
variable(d8:bK P w K mg base true 1 "is_between" ["low","number","high"] nG)
variable(jf:Er K mg "BadTerms" d7)
theorem rV:aM ["name","number","low","high"] ["name","number","low","high"] (ar je):=⟨rfl,rfl,rfl,by decide+kernel,rfl,by decide+kernel,by decide+kernel⟩
include T d8 jf in
theorem rW{f:Addr}{fd:FuncData}(F:jw K "check_number" "check_number" je f fd):a7 P w K mg base (cW P w) true 2 f fd ["name","number","low","high"] (qm d7):=by
 refine F.gM rV ZQ (fun bS A outer s H vs Q E hr h hX=>?_)
 ·obtain⟨nm,n,l,h,rfl,_⟩:=h;rfl
 ·obtain⟨nm,n,l,h,rfl,hn,hl,hh,q⟩:=h;refine⟨_,(WX (Zr (@cL _ _ _ _ (Γ (Z5 d8 aO (Z_ (pv 2) (ε ZC))))) (WX (@i9 _ _ _ _ _ _ _ _ _ _ hX Zv (by exact rfl) jf.m jf.e (Z2 (@mw _ _ _ _ _ _ (@fu _ _ _ _ _ (@qk _ _ _ _ (pv 0)) (@fu _ _ _ _ _ dX (@fu _ _ _ _ _ (@qk _ _ _ _ (pv 2)) (@fu _ _ _ _ _ dX (@fu _ _ _ _ _ (@qk _ _ _ _ (pv 3)) wG))))))) (U7) (ZA) (ZA))) aQ)),?_⟩;refine⟨_,rfl,_,rfl,_,rfl,l,n,h,rfl,?_⟩;refine⟨_,rfl,?_⟩;refine bf (fun h1=>?_) (fun h1=>?_)
  ·have h1:inR l n h=false:=(Bool.not_eq_true' _).mp h1;rw[h1]at q;have z1:=oO (i:=l) (by lia);have z2:=oO (i:=h) (by lia);have w1:(Str.ofString " lies between ").length=14:=by decide+kernel
   have w2:(Str.ofString " and ").length=5:=by decide+kernel
   have w3:=my;refine⟨_,rfl, .inl ⟨nm,rfl,aF Mm,nm,rfl,aF ?_,_,rfl,aF ?_,_,rfl, .inr ⟨l,rfl,z1.1,_,rfl,aF ?_,_,rfl,aF ?_,_,rfl, .inr ⟨h,rfl,z2.1,_,rfl,aF ?_,aF ?_,ik,?_⟩⟩⟩⟩
   ·rw[len_app];lia
   ·rw[len_app,len_app];lia
   ·rw[len_app,len_app,len_app];lia
   ·rw[len_app,len_app,len_app,len_app];lia
   ·rw[len_app,len_app,len_app,len_app,len_app];lia
   ·rw[len_app,len_app,len_app,len_app,len_app];lia
   ·exact q
  ·have h1:inR l n h=true:=by
    have h1:¬(!(inR l n h))=true:=h1;simpa using h1
   rw[h1]at q;exact q
variable(bO:D5 mg "WORTH_MOST" (.int 999999))
variable(kh:bK P w K mg base true 2 "is_word" ["text"] wJ)
variable(cb:Er K mg "BadNear" cT)
theorem nV:aM ["x","y","price"] ["x","y","price"] (ar gk):=⟨rfl,rfl,rfl,by decide+kernel,rfl,by decide+kernel,by decide+kernel⟩
include T d8 bO kh cb in
theorem nW{f:Addr}{fd:FuncData}(F:jw K "check_near_form" "check_near_form" gk f fd):a7 P w K mg base (cW P w) true 3 f fd ["x","y","price"] (wK cT):=by
 refine F.gM nV ZQ (fun bS A outer s H vs Q E hr h hX=>?_)
 ·obtain⟨x,y,p,rfl,_⟩:=h;rfl
 ·obtain⟨x,y,p,rfl,hx,hy,q⟩:=h;have bad:gS x y p=false→∀H',ax H H'→E (.ref cT) none H':=fun e=>by rw[e]at q;exact q
  have good:gS x y p=true→∀H',ax H H'→Q .cK H':=fun e=>by rw[e]at q;exact q
  refine⟨_,(Xc (Zr (@PW.pt _ _ _ (Κ (@cL _ _ _ _ (Γ (Z5 kh aO (Z2 Xd)))) (@pw_or1 _ _ _ _ (@cL _ _ _ _ (Γ (Z5 kh aO (Z2 ZC))))))) (WX (@i9 _ _ _ _ _ _ _ _ _ _ hX Zv (by exact rfl) cb.m cb.e (Z2 dX) (U7) (ZA) (ZA))) aQ) (Xc (Zr (Zk jv Xd (pv 1) (aV _)) (WX (@i9 _ _ _ _ _ _ _ _ _ _ hX Zv (by exact rfl) cb.m cb.e (Z2 dX) (U7) (ZA) (ZA))) aQ) (WX (Zr (@cL _ _ _ _ (Γ (Z5 d8 aO (Z_ ai (Z_ (pv 2) (Z2 (ζ bO))))))) (WX (@i9 _ _ _ _ _ _ _ _ _ _ hX Zv (by exact rfl) cb.m cb.e (Z2 (@mw _ _ _ _ _ _ (@fu _ _ _ _ _ dX (@fu _ _ _ _ _ (@qk _ _ _ _ (ζ bO)) wG)))) (U7) (ZA) (ZA))) aQ)))),?_⟩;refine⟨_,rfl,x,rfl,hx,fun H1 s1=>⟨_,rfl,?_⟩⟩;refine bf (fun h1=>?_) (fun h1=>?_)
  ·have h1:(!(ql x))=true:=h1;exact⟨ik,bad (by simp[gS,(Bool.not_eq_true' _).mp h1]) H1 s1⟩
  have h1:¬(!(ql x))=true:=h1;have h1:ql x=true:=by simpa using h1
  refine⟨_,rfl,y,rfl,hy,fun H2 s2=>⟨_,rfl,?_⟩⟩;have s2:=s1.trans s2;refine bf (fun h2=>?_) (fun h2=>?_)
  ·have h2:(!(ql y))=true:=h2;exact⟨ik,bad (by simp[gS,(Bool.not_eq_true' _).mp h2]) H2 s2⟩
  have h2:¬(!(ql y))=true:=h2;have h2:ql y=true:=by simpa using h2
  refine⟨_,rfl,_,rfl,rfl,_,rfl,?_⟩;refine bf (fun h3=>?_) (fun h3=>?_)
  ·have h3:x=y:=by simpa using h3
   exact⟨ik,bad (by simp[gS,h3]) H2 s2⟩
  have h3:¬x=y:=by simpa using h3
  refine⟨_,rfl,0,p,999999,rfl,_,rfl,?_⟩;refine bf (fun h4=>?_) (fun h4=>?_)
  ·have h4:(!(inR 0 p 999999))=true:=h4;have z1:=oO (i:=999999) (by lia);have w1:(Str.ofString "the price of a near form lies between 0 and ").length=44:=by decide+kernel
   have w3:=my;refine⟨_,rfl,aF ?_, .inr ⟨999999,rfl,z1.1,_,rfl,aF ?_,aF ?_,ik,?_⟩⟩
   ·rw[len_app];lia
   ·rw[len_app,len_app];lia
   ·rw[len_app,len_app];lia
   ·exact bad (by simp[gS,(Bool.not_eq_true' _).mp h4]) H2 s2
  ·have h4:¬(!(inR 0 p 999999))=true:=h4;have h4:inR 0 p 999999=true:=by simpa using h4
   exact good (by simp[gS,h1,h2,h3,h4]) H2 s2
variable(iy:D5 mg "NEAR_MOST" (.int 60))
variable(eR:bK P w K mg base true 3 "check_near_form" ["x","y","price"] (wK cT))
theorem fh:aM ["near","prices","x","y","price"] ["near"] (ar g_):=⟨rfl,rfl,rfl,by decide+kernel,rfl,by decide+kernel,by decide+kernel⟩
include T cb iy eR in
theorem t9{f:Addr}{fd:FuncData}(F:jw K "near_prices" "near_prices" g_ f fd):a7 P w K mg base (cW P w) true 4 f fd ["near"] (qo cT):=by
 refine F.gM fh ZQ (fun bS A outer s H vs Q E hr h hX=>?_)
 ·obtain⟨a,xs,fs,rfl,_⟩:=h;rfl
 ·obtain⟨a,xs,fs,rfl,ha,ht,NW,q⟩:=h;have bad:bD fs=false→∀H',ax H H'→E (.ref cT) none H':=fun e=>by rw[e]at q;exact q
  have good:bD fs=true→∀H' d,ax H H'→H d=none→H' d=some (.dT (fs.map lL))→Q (.ref d) H':=fun e=>by rw[e]at q;exact q
  have hu:=hr.units;have hu:(A.deeper (Ψ "near_prices" (ar g_) f bS)).units+1<cLine:=by lia
  refine⟨_,(Xc (Zr (Zk rq (Z7 (aL K) T.cX (Z2 Xd)) (ζ iy) (aV _)) (WX (@i9 _ _ _ _ _ _ _ _ _ _ hX Zv (by exact rfl) cb.m cb.e (Z2 (@mw _ _ _ _ _ _ (@fu _ _ _ _ _ dX (@fu _ _ _ _ _ (@qk _ _ _ _ (ζ iy)) (@fu _ _ _ _ _ dX wG))))) (U7) (ZA) (ZA))) aQ) (Xc (Z0 (1) fh.nd j_) (Xc (Α hX.own (Β K Xd) (η K (3) (by exact rfl) (Zz (Z1 (2) fh.nd) (Zz (Z1 (3) fh.nd) (Zz (Z1 (4) fh.nd) fJ)))) (Xc (Zt (Z5 eR hX.pass (Z_ (pv 2) (Z_ (pv 3) (Z2 (pv 4)))))) (Xc (Zr (Χ (@qj _ _ _ _ _ hu (@eF _ _ _ _ _ (ε (pv 2))) (pv 1))) (WX (@i9 _ _ _ _ _ _ _ _ _ _ hX Zv (by exact rfl) cb.m cb.e (Z2 dX) (U7) (ZA) (ZA))) aQ) (WX (@kz _ _ _ _ _ _ _ _ _ hu ZC (@eF _ _ _ _ _ (ε (pv 2))) (pv 4) (by exact rfl)))))) (WX (ZS ZC))))),?_⟩;refine⟨_,rfl,a,_,rfl, .inl (.of ha),_,_,rfl,rfl,_,rfl,?_⟩;refine bf (fun h1=>?_) (fun h1=>?_)
  ·have h1:(60:Int)<(xs.length:Int):=by simpa using h1
   rw[ht.1]at h1;have z1:=oO (i:=60) (by lia);have w1:(Str.ofString "there are at most ").length=18:=by decide+kernel
   have w2:(Str.ofString " near forms").length=11:=by decide+kernel
   have w3:=my;refine⟨_,rfl,aF ?_, .inr ⟨60,rfl,z1.1,_,rfl,aF ?_,_,rfl,aF ?_,aF ?_,ik,?_⟩⟩
   ·rw[len_app];lia
   ·rw[len_app,len_app];lia
   ·rw[len_app,len_app,len_app];lia
   ·rw[len_app,len_app,len_app];lia
   ·exact bad (by have:¬fs.length≤60:=(by lia);simp[bD,this]) H (.refl H)
  have h1:¬(60:Int)<(xs.length:Int):=by simpa using h1
  rw[ht.1]at h1;refine fun d hd=>?_
  have aaM:H a≠none:=by rw[ha];intro z;cases z
  have eX:a≠d:=aE ha hd;refine⟨_,rfl,a,rfl,⟨xs, .of (by rw[ak eX];exact ha)⟩,?_⟩;refine bU (xs:=xs) (fun i σ H'=>(∃u v w,σ=[some (.ref a),some (.ref d),u,v,w])∧H' d=some (.dT ((fs.take i).map lL))∧ax H H'∧((fs.take i).all CC=true)∧((fs.take i).map jn).Nodup) ?_ ?_ ?_ ?_
  ·exact⟨⟨_,_,_,rfl⟩,ae,ZF hd,rfl, .nil⟩
  ·rintro i σ H' hi ⟨_,_,s1,_⟩;exact .of (s1 _ _ ha)
  ·rintro i x σ H' hx ⟨⟨u,v,w,rfl⟩,hD,s1,bX,Gr⟩;have hi:i<fs.length:=by rw[←ht.1];exact(Z' hx).1
   have hf:fs[i]?=some fs[i]:=by simp[hi]
   generalize fs[i]=f0 at hf;obtain⟨t,yf,uE⟩:=ht.2 i f0 hf;rw[hx]at yf;cases yf;obtain⟨x,y,p⟩:=f0;have hm:(x,y,p)∈fs:=ZO hf;obtain⟨lq,Gs⟩:=NW.2 _ hm;refine⟨t,_,rfl, .of (s1 _ _ uE),rfl,_,_,rfl,_,_,rfl,_,_,rfl,rfl,?_⟩;refine⟨_,rfl,_,rfl,_,rfl,x,y,p,rfl,lq,Gs,?_⟩;refine bf (fun h2=>?_) (fun h2=>?_)
   rotate_left
   ·have h2:CC (x,y,p)=false:=by simpa[CC]using h2
    exact fun H2 s2=>bad (EA hf h2) H2 (s1.trans s2)
   have h2:CC (x,y,p)=true:=h2;intro H2 s2;have QP:=s1.trans s2;have l0:=s2 _ _ hD;refine⟨_,rfl,_,rfl,aF V9,fun p1 CS=>?_⟩;have n1:d≠p1:=aE l0 CS;refine⟨_,rfl,d,_,rfl, .t (k:=jn (x,y,p)) (by rw[ak n1];exact l0) ae,_,rfl,?_⟩;refine bf (fun h3=>?_) (fun h3=>?_)
   ·obtain⟨v3,h3⟩:=Option.isSome_iff_exists.mp h3;exact⟨ik,bad (CD hf (KW h3)) _ (QP.eI (QP.free CS))⟩
   have h3:bx ((fs.take i).map lL) (jn (x,y,p))=none:=by simpa using h3
   have s3:ax H (upd H2 p1 (.tup [.str x, .str y])):=QP.eI (QP.free CS);refine⟨_,rfl,_,rfl,_,rfl,_,rfl,aF V9,fun p2 zZ=>?_⟩;have Dn:upd H2 p1 (.tup [.str x, .str y]) d=some (.dT ((fs.take i).map lL)):=by rw[ak n1];exact l0
   have n2:d≠p2:=aE Dn zZ;have hlen:((fs.take i).map lL).length<sizeLine:=a9 (by rw[List.length_map,List.length_take];lia);refine⟨d,_,rfl, .t (k:=jn (x,y,p)) (by rw[ak n2];exact Dn) ae hlen,?_⟩;refine⟨⟨_,_,_,rfl⟩,?_,?_,?_,?_⟩
   ·rw[ae,sP _ h3,CH hf];rfl
   ·exact(s3.eI (s3.free zZ)).eI hd
   ·rw[List.take_succ,hf,List.all_append,bX];simp[h2]
   ·rw[List.take_succ,hf,List.map_append];have:=Oc h3;refine List.nodup_append.mpr ⟨Gr,Wv,?_⟩;intro a1 Aw b1 jg e;have jg:b1=jn (x,y,p):=by simpa using jg
    rw[e,jg]at Aw;exact this Aw
  ·rintro σ H' ⟨⟨u,v,w,rfl⟩,hD,s1,bX,Gr⟩;rw[ht.1,List.take_length]at hD bX Gr;refine⟨_,rfl,good ?_ H' d s1 hd hD⟩;have:fs.length≤60:=by lia
   simp[bD,this,bX,Gr]
variable(jG:D5 mg "PART_MOST" (.int 100))
variable(cA:bK P w K mg base true 2 "check_number" ["name","number","low","high"] (qm d7))
variable(hV:bK P w K mg base true 4 "near_prices" ["near"] (qo cT))
variable(Tc:EB K aU)
theorem o8:aM ["self","same","out","into","least","part","near"] ["self","same","out","into","least","part","near"] (ar bu):=⟨rfl,rfl,rfl,by decide+kernel,rfl,by decide+kernel,by decide+kernel⟩
include T bO jG cA hV Tc in
theorem o_{f:Addr}{fd:FuncData}(F:iB K "__init__" "Terms.__init__" bu f fd):a7 P w K mg base (cW P w) true 5 f fd ["self","same","out","into","least","part","near"] (sD aU d7 cT):=by
 refine F.gM o8 ZQ (fun bS A outer s H vs Q E hr h hX=>?_)
 ·obtain⟨x,dx,n,nv,xs,fs,rfl,_⟩:=h;rfl
 ·obtain⟨x,dx,n,nv,xs,fs,rfl,hx,EN,X1,NW,q⟩:=h;have bad:i_ n=false→E (.ref d7) none H:=fun e=>by rw[e]at q;exact q H .refl
  refine⟨_,(Xc (Zt (Z5 cA hX.pass (Z_ dX (Z_ ZC (Z_ ai (Z2 (ζ bO))))))) (Xc (Zt (Z5 cA hX.pass (Z_ dX (Z_ (pv 2) (Z_ ai (Z2 (ζ bO))))))) (Xc (Zt (Z5 cA hX.pass (Z_ dX (Z_ (pv 3) (Z_ ai (Z2 (ζ bO))))))) (Xc (Zt (Z5 cA hX.pass (Z_ dX (Z_ (pv 4) (Z_ ai (Z2 (ζ bO))))))) (Xc (Zt (Z5 cA hX.pass (Z_ dX (Z_ (pv 5) (Z_ ai (Z2 (ζ jG))))))) (Xc (Μ K Xd (pv 1)) (Xc (Μ K Xd (pv 2)) (Xc (Μ K Xd (pv 3)) (Xc (Μ K Xd (pv 4)) (Xc (Μ K Xd (pv 5)) (YM (Μ K Xd (@oB _ _ _ _ _ _ _ _ (Χ (@lF _ _ _ _ _ (pv 6))) (@bR _ _ _ _ af) (ν (fF K) (by exact rfl) T.jW PyProof.Rows.Boot.«list» (Z2 (pv 6))))) (WX (Μ K Xd (Z5 hV hX.pass (Z2 (ZW K)))))))))))))))),?_⟩;refine⟨_,rfl,"same",n.same,1,999999,rfl,by decide+kernel,by lia,by lia,?_⟩;refine bf (fun h1=>?_) (fun h1=>bad (by simp[i_,h1]));refine⟨_,rfl,"out",n.out,0,999999,rfl,by decide+kernel,by lia,by lia,?_⟩;refine bf (fun h2=>?_) (fun h2=>bad (by simp[i_,h2]));refine⟨_,rfl,"into",n.into,0,999999,rfl,by decide+kernel,by lia,by lia,?_⟩;refine bf (fun h3=>?_) (fun h3=>bad (by simp[i_,h3]));refine⟨_,rfl,"least",n.least,1,999999,rfl,by decide+kernel,by lia,by lia,?_⟩;refine bf (fun h4=>?_) (fun h4=>bad (by simp[i_,h4]));refine⟨_,rfl,"part",n.part,1,100,rfl,by decide+kernel,by lia,by lia,?_⟩;refine bf (fun h5=>?_) (fun h5=>bad (by simp[i_,h5]));have bX:i_ n=true:=by simp[i_,h1,h2,h3,h4,h5]
  rw[bX]at q;have hl:∀k:Nat,k<10→k<1000:=fun k h=>by lia
  refine⟨_,rfl,_,rfl,x,aU,dx,_,rfl,hx,Tc.cl,Tc.same,U7,?_⟩;refine⟨_,rfl,_,rfl,x,aU,dx,_,rfl,ae,Tc.cl,Tc.out,?_,?_⟩
  ·exact hl _ (by have:=aX "same" (.int n.same) [];simp at this;lia)
  refine⟨_,rfl,_,rfl,x,aU,dx,_,rfl,ae,Tc.cl,Tc.into,?_,?_⟩
  ·exact hl _ (Nat.lt_of_le_of_lt (aX _ _ _) (by have:=aX "same" (.int n.same) [];simp at this;lia))
  refine⟨_,rfl,_,rfl,x,aU,dx,_,rfl,ae,Tc.cl,Tc.least,?_,?_⟩
  ·show([("same", .int n.same),("out", .int n.out),("into", .int n.into)]:List (Str×V)).length<1000;simp
  refine⟨_,rfl,_,rfl,x,aU,dx,_,rfl,ae,Tc.cl,Tc.part,?_,?_⟩
  ·show([("same", .int n.same),("out", .int n.out),("into", .int n.into),("least", .int n.least)]:List (Str×V)).length<1000;simp
  rw[gc,gc,gc,gc,Sr];have b5:SameBut x H (upd H x (.ins aU dx (m4 n))):=SameBut.refl.upd;refine⟨fun σ H'=>σ=[some (.ref x),some (.int n.same),some (.int n.out),some (.int n.into),some (.int n.least),some (.int n.part),some nv]∧∃l,H' x=some (.ins aU dx (bq "near" (.ref l) (m4 n)))∧SameBut x H H'∧H' l=some (.lst xs)∧cZ H' xs fs∧H l=none,?_,?_⟩
  ·refine⟨_,rfl,_,rfl,?_⟩;rcases X1 with⟨rfl,rfl,rfl⟩|⟨a,rfl,ha,QR⟩
   ·refine jV ?_;refine⟨aF V9,fun l lb=>?_⟩;have n1:x≠l:=aE ae lb;refine⟨_,rfl,x,aU,dx,_,rfl,by rw[ak n1,ae],Tc.cl,Tc.near,by simp[m4],rfl,l,ae,?_,?_, .nil,?_⟩
    ·exact(b5.laid (b5.free ae lb)).upd
    ·rw[ak (Ne.symm n1),ae]
    ·exact b5.free ae lb
   ·refine bf (fun hh=>absurd hh V9) (fun _=>?_);have n0:a≠x:=i5 ha hx (by intro z;cases z);refine⟨_,rfl,a,xs,rfl, .inl (.of (by rw[ak n0];exact ha)),fun l lb=>?_⟩;have n1:x≠l:=aE ae lb;have b6:SameBut x H (upd (upd H x (.ins aU dx (m4 n))) l (.lst xs)):=b5.laid (b5.free ae lb);refine⟨_,rfl,x,aU,dx,_,rfl,by rw[ak n1,ae],Tc.cl,Tc.near,by simp[m4],rfl,l,ae,b6.upd,?_,?_,?_⟩
    ·rw[ak (Ne.symm n1),ae]
    ·exact QR.but b6.upd hx
    ·exact b5.free ae lb
  ·rintro σ H' ⟨rfl,l,uD,sb,Jy,QR,X2⟩;refine⟨_,rfl,x,aU,dx,_,_,rfl,uD,Tc.cl,Tc.near,Oe n l,l,xs,fs,rfl,Jy,QR,NW,?_⟩;refine bf (fun h6=>?_) (fun h6=>?_)
   ·rw[if_pos rfl,U6 h6]at q;intro H2 d s2 hd hD;have b2:=sb.same s2;have X3:=sb.free uD hd;refine⟨_,rfl,x,aU,dx,_,rfl,s2 _ _ uD,Tc.cl,Tc.EC,?_,?_⟩
    ·have:=aX "near" (.ref l) (m4 n);have e5:(m4 n).length=5:=rfl;exact hl _ (by lia)
    ·have nl:l≠x:=i5 Jy uD (by intro z;cases z);have nd:d≠x:=i5 hD (s2 _ _ uD) (by intro z;cases z);have Vx:dx≠x:=i5 EN hx (by intro z;cases z);refine q _ l d b2.upd ⟨?_,?_,?_,?_,?_⟩ X2 X3
     ·rw[ae,Ss]
     ·rw[ak Vx];exact b2 _ _ Vx EN
     ·rw[ak nl];exact s2 _ _ Jy
     ·exact QR.but (SameBut.upd (fun b u n e=>s2 b u e)) uD
     ·rw[ak nd];exact hD
   ·rw[if_pos rfl,Sn h6]at q;exact fun H2 s2=>q H2 (sb.same s2)
theorem iH:aM ["self","x","y","price"] ["self","x","y"] (ar dZ):=⟨rfl,rfl,rfl,by decide+kernel,rfl,by decide+kernel,by decide+kernel⟩
include T Tc in
theorem mO{f:Addr}{fd:FuncData}(F:iB K "pair_worth" "Terms.pair_worth" dZ f fd):a7 P w K mg base (cW P w) true 1 f fd ["self","x","y"] (wO aU):=by
 refine F.gM iH ZQ (fun bS A outer s H vs Q E hr h hX=>?_)
 ·obtain⟨t,x,y,n,fs,dx,l,d,xs,rfl,_⟩:=h;rfl
 ·obtain⟨t,x,y,n,fs,dx,l,d,xs,rfl,T1,q⟩:=h;have hu:=hr.units;have hu:(A.deeper (Ψ "Terms.pair_worth" (ar dZ) f bS)).units+1<cLine:=by lia
  refine⟨_,(Xc (Zr (Zk jv ZC (pv 2) (aV _)) (WX (ZS (ZW K))) aQ) (Xc (Z0 (3) iH.nd (@Ec _ _ _ _ _ _ _ hu (ZW K) (@eF _ _ _ _ _ (μ ZC)) ⟨rfl,rfl,rfl,rfl⟩)) (Xc (Zr (Χ (@lF _ _ _ _ _ (pv 3))) (WX (ZS jU)) aQ) (WX (ZS (XI cy (ZW K) (pv 3))))))),?_⟩;refine⟨_,rfl,_,rfl,rfl,_,rfl,?_⟩;refine bf (fun h=>?_) (fun h=>?_)
  ·have h:x=y:=by simpa using h
   have q:=q H (.refl H);rw[show cI n.same fs x y=some n.same by simp[cI,h]]at q;exact⟨_,rfl,t,aU,dx,_,_,rfl,T1.ob,Tc.cl,Tc.same,ED n l d,q⟩
  have h:¬x=y:=by simpa using h
  refine⟨_,rfl,t,aU,dx,_,_,rfl,T1.ob,Tc.cl,Tc.EC,EE n l d,d,rfl, .inr ⟨_, .inl T1.di⟩,_,rfl,_,rfl,aF V9,fun p hp=>?_⟩;have nd:d≠p:=aE T1.di hp;have q:=q _ (ax.upd (o:= .tup [.str x, .str y]) hp);refine⟨_, .t (k:=[.inr x, .inr y]) (by rw[ak nd];exact T1.di) ae,?_⟩;rw[vN];have T2:kD (upd H p (.tup [.str x, .str y])) aU t n fs dx l d xs:=⟨ax.upd hp _ _ T1.ob,ax.upd hp _ _ T1.own,ax.upd hp _ _ T1.li,T1.tr.same (ZF hp),ax.upd hp _ _ T1.di⟩
  cases e:cP fs x y with
  |none=>
   rw[show cI n.same fs x y=none by simp[cI,h,e]]at q;refine⟨_,rfl,_,rfl,?_⟩;exact jV q
  |some v=>
   rw[show cI n.same fs x y=some (n.same-v) by simp[cI,h,e]]at q;refine⟨_,rfl,_,rfl,?_⟩;refine bf (fun hh=>absurd hh V9) (fun _=>?_);exact⟨_,rfl,t,aU,dx,_,_,rfl,T2.ob,Tc.cl,Tc.same,ED n l d,_,rfl,_,_,rfl,rfl,q⟩
theorem ze:aM ["numbers"] ["numbers"] (ar kK):=⟨rfl,rfl,rfl,by decide+kernel,rfl,by decide+kernel,by decide+kernel⟩
include T in
theorem zf{f:Addr}{fd:FuncData}(F:jw K "greatest" "greatest" kK f fd):a7 P w K mg base (cW P w) true 1 f fd ["numbers"] lO:=by
 refine F.gM ze ZQ (fun bS A outer s H vs Q E hr h hX=>?_)
 ·obtain⟨a,os,rfl,_⟩:=h;rfl
 ·obtain⟨a,os,rfl,ha,hl,q⟩:=h;refine⟨_,(WX (ZS (@Hs _ K _ _ _ _ _ _ _ (by exact rfl) (by exact rfl) T.Jb (@oK _ _ _ _ _ _ _ _ _ _ _ _ _ _ (by exact rfl) (show bh ["numbers"] (ar kK) _ ["number"] [] []from⟨rfl,by decide+kernel,by decide+kernel,by decide+kernel,rfl,rfl,by decide+kernel,by decide+kernel,by decide+kernel⟩) (Β K Xd) (fun _ _ _ _ _=>(Z1 (0) (show(["number"]:List Str).Nodup by decide+kernel))) (fun _ _ _ _ _=>(@Bs _ _ _ (Χ (@oA _ _ _ _ _ (pv 0))))) (fun _ _ _ _ _=>(pv 0)) (by intro _;rfl)) (ZA) (ZA)))),?_⟩;refine⟨_,rfl,a,rfl,⟨_, .of ha⟩,fun D hD=>?_⟩;refine fv (xs:=os.map bC) (fun i ys bj H'=>(∃u,bj=[u])∧ys=((os.take i).filterMap id).map V.int∧H' D=some (.lst ys)∧ax H H') ⟨⟨_,rfl⟩,rfl,ae,ZF hD⟩ ?_ ?_ ?_
  ·rintro i ys bj H' _ ⟨_,_,_,s1⟩;exact .of (s1 _ _ ha)
  ·rintro i x ys bj H' hx ⟨⟨u,rfl⟩,rfl,rX,s1⟩;have hi:i<os.length:=by have:=(Z' hx).1;simpa using this
   have ho:os[i]?=some os[i]:=by simp[hi]
   generalize os[i]=o at ho;have ex:x=bC o:=by
    rw[List.getElem?_map,ho]at hx;exact(ZV hx).symm
   subst ex;have gR:(((os.take i).filterMap id).map V.int).length<sizeLine:=a9 (by
    have:=List.length_filterMap_le id (os.take i);rw[List.length_take]at this;rw[List.length_map]
    lia)
   have e1:os.take (i+1)=os.take i++[o]:=by rw[List.take_succ,ho];rfl
   refine⟨_,rfl,_,rfl,?_⟩;cases o with
   |none=>
    refine bf (fun hh=>ZE hh (by simp[bC])) (fun _=>?_);exact⟨⟨_,rfl⟩,by rw[e1];simp,rX,s1⟩
   |some v=>
    refine bf (fun _=>?_) (fun hh=>ZE (by simp[bC]) hh);exact⟨_,rfl,rX,gR,⟨_,rfl⟩,by rw[e1];simp[bC],ae,s1.eI hD⟩
  ·rintro ys bj H' ⟨_,rfl,rX,s1⟩;rw[List.length_map,List.take_length]at rX;refine⟨D,os.filterMap id,rfl, .of rX,?_⟩;rw[Hv];exact q H' s1
theorem Ia:aM ["number","price"] ["number","price"] (ar AQ):=⟨rfl,rfl,rfl,by decide+kernel,rfl,by decide+kernel,by decide+kernel⟩
include T in
theorem Ib{f:Addr}{fd:FuncData}(F:jw K "less" "less" AQ f fd):a7 P w K mg base (cW P w) true 1 f fd ["number","price"] wV:=by
 refine F.gM Ia ZQ (fun bS A outer s H vs Q E hr h hX=>?_)
 ·obtain⟨o,p,rfl,_⟩:=h;rfl
 ·obtain⟨o,p,rfl,q⟩:=h;refine⟨_,(WX (ZS (@oB _ _ _ _ _ _ _ _ (Χ (@lF _ _ _ _ _ (pv 0))) jU (XI cy Xd (pv 1))))),?_⟩;refine⟨_,rfl,_,rfl,?_⟩;cases o with
  |none=>
   refine jV ?_;exact q
  |some v=>
   refine bf (fun hh=>ZE hh (by simp[bC])) (fun _=>?_);exact⟨_,rfl,_,rfl,_,_,rfl,rfl,q⟩
theorem mP:aM ["worth","brought"] ["worth","brought"] (ar fU):=⟨rfl,rfl,rfl,by decide+kernel,rfl,by decide+kernel,by decide+kernel⟩
include T in
theorem mQ{f:Addr}{fd:FuncData}(F:jw K "begun_or_gone_on" "begun_or_gone_on" fU f fd):a7 P w K mg base (cW P w) true 1 f fd ["worth","brought"] Am:=by
 refine F.gM mP ZQ (fun bS A outer s H vs Q E hr h hX=>?_)
 ·obtain⟨w,b,rfl,_⟩:=h;rfl
 ·obtain⟨w,b,rfl,q⟩:=h;refine⟨_,(Xc (Zr (Χ (@lF _ _ _ _ _ (pv 0))) (WX (ZS jU)) aQ) (Xc (Zr (@PW.pt _ _ _ (Κ (Χ (@lF _ _ _ _ _ (pv 1))) (@pw_or1 _ _ _ _ (Zk mY ZC ai (aV _))))) (WX (ZS Xd)) aQ) (WX (ZS (XI bA Xd (pv 1)))))),?_⟩;refine⟨_,rfl,_,rfl,?_⟩;cases w with
  |none=>
   refine jV ?_;exact q
  |some w=>
   refine bf (fun hh=>ZE hh (by simp[bC])) (fun _=>?_);refine⟨_,rfl,_,rfl,?_⟩;cases b with
   |none=>
    refine jV ?_;refine jV ?_;exact⟨_,rfl,q⟩
   |some b=>
    refine bf (fun hh=>ZE hh (by simp[bC])) (fun _=>?_);refine⟨_,rfl,_,_,rfl,rfl,_,rfl,?_⟩;refine bf (fun hh=>?_) (fun hh=>?_)
    ·have hh:b<0:=by simpa using hh
     simp only[Hu,hh,if_true]at q;exact⟨_,rfl,q⟩
    ·have hh:¬b<0:=by simpa using hh
     simp only[Hu,hh,if_false]at q;exact⟨_,rfl,_,rfl,_,_,rfl,rfl,q⟩
variable(fj:bK P w K mg base true 1 "greatest" ["numbers"] lO)
variable(kR:bK P w K mg base true 1 "less" ["number","price"] wV)
variable(Rc:BD K aA)
theorem cq:aM ["self","ended","above","row","j","worth"] ["self","ended","above"] (ar dO):=⟨rfl,rfl,rfl,by decide+kernel,rfl,by decide+kernel,by decide+kernel⟩
include T fj kR Rc in
theorem j4{f:Addr}{fd:FuncData}(F:iB K "brought_behind" "Trails.brought_behind" dO f fd):a7 P w K mg base (cW P w) true 2 f fd ["self","ended","above"] (qv aA):=by
 refine F.gM cq ZQ (fun bS A outer s H vs Q E hr h hX=>?_)
 ·obtain⟨x,e,a,dx,te,tb,o,p,m,f,g,rfl,_⟩:=h;rfl
 ·obtain⟨x,e,a,dx,te,tb,o,p,m,f1,g,rfl,hx,he,ha,hm,q⟩:=h;refine⟨_,(Xc (Z0 (3) cq.nd (@bR _ _ _ _ (Z2 jU))) (Xc (Α hX.own (@oQ _ K _ _ _ _ _ _ _ (by exact rfl) T.jx (Z2 ZC) (ZA) (ZA)) (η K (2) (by exact rfl) (Zz (Z1 (4) cq.nd) (Zz (Z1 (5) cq.nd) fJ))) (WX (Zt (Λ K PySem.F.slot_list_append PySem.F.type_list_append bQ (pv 3) (Z2 (Z5 fj aO (Z2 (@bR _ _ _ _ (Z_ (pv 5) (Z_ (Z5 kR aO (Z_ (Z6 (pv 2) (XI bA (pv 4) ai)) (Z2 (ZW K)))) (Z2 (Z5 kR aO (Z_ (Z6 (pv 3) (pv 4)) (Z2 (ZW K))))))))))))))) (WX (ZS (pv 3))))),?_⟩;refine⟨aF V9,fun r Gu=>?_⟩;refine⟨_,rfl,e,rfl,⟨_, .of (ax.upd Gu _ _ he)⟩,?_⟩;have hl:=dh m f1;refine yH (xs:=de m f1) (fun i σ H'=>(∃u v,σ=[some (.ref x),some (.ref e),some (.ref a),some (.ref r),u,v])∧ax H H'∧H' r=some (.lst (de (i+1) (rR f1 g o p)))) ?_ ?_ ?_ ?_
  ·exact⟨⟨_,_,rfl⟩,ZF Gu,by rw[ae];simp[de,rR,bC,List.range_succ]⟩
  ·rintro i σ H' _ ⟨_,s1,_⟩;exact .of (s1 _ _ he)
  ·rintro i v T' σ H' hv ⟨⟨u,u2,rfl⟩,s1,zJ⟩ hT;have hi:i<m:=by have:=(Z' hv).1;lia
   rw[dj hi]at hv;cases hv;have s2:ax H (upd H' T' (.tup [.int i,bC (f1 i)])):=s1.trans (ZF hT);have xr:=ax.upd (o:= .tup [.int i,bC (f1 i)]) hT _ _ zJ;refine⟨T',_,rfl, .of ae,rfl,_,_,rfl,_,_,rfl,rfl,?_⟩;generalize upd H' T' (.tup [.int i,bC (f1 i)])=H2 at s2 xr;have X4:rP (de (m+1) g) ((i:Int)+1)=some (bC (g (i+1))):=by
    have:((i:Int)+1)=((i+1:Nat):Int):=by lia
    rw[this];exact au (dj Mm)
   have at2:rP (de (i+1) (rR f1 g o p)) (i:Int)=some (bC (rR f1 g o p i)):=au (dj Mm);refine⟨_,rfl, .inl ⟨rfl,_, .of xr⟩,_,rfl,_,rfl,_,rfl,_,_,rfl,rfl,a,_,_,_,rfl,rfl, .of (s2 _ _ ha),X4,_,rfl,x,aA,dx,_,_,rfl,s2 _ _ hx,Rc.cl,Rc.out,Jh o p te tb,g (i+1),o,rfl,_,rfl,_,rfl,r,_,_,_,rfl,rfl, .of xr,at2,_,rfl,x,aA,dx,_,_,rfl,s2 _ _ hx,Rc.cl,Rc.into,ES o p te tb,rR f1 g o p i,p,rfl,aF V9,fun L hL=>⟨L,[f1 i,bB (g (i+1)) o,bB (rR f1 g o p i) p],rfl,ae,Wv,fun H3 s3=>?_⟩⟩;have s4:=(ax.upd (o:= .lst [bC (f1 i),bC (bB (g (i+1)) o),bC (bB (rR f1 g o p i) p)]) hL).trans s3;exact⟨r,_,_,rfl,rfl,s4 _ _ xr,a9 (by rw[dh];lia),⟨_,_,rfl⟩,(s2.trans s4).eI Gu,by rw[ae,qu (i+1)];rfl⟩
  ·rintro σ H' ⟨⟨u,v,rfl⟩,s1,zJ⟩;rw[hl]at zJ;exact⟨_,rfl,q H' r s1 Gu zJ⟩
variable(d_:bK P w K mg base true 1 "begun_or_gone_on" ["worth","brought"] Am)
variable(cD:eJ P w K mg base true 2 aA "brought_behind" ["self","ended","above"] (qv aA))
theorem cN:aM ["self","worths","terms","width","row","above","ended"] ["self","worths","terms"] (ar eO):=⟨rfl,rfl,rfl,by decide+kernel,rfl,by decide+kernel,by decide+kernel⟩
include T Tc Rc d_ cD in
theorem nX{f:Addr}{fd:FuncData}(F:iB K "__init__" "Trails.__init__" eO f fd):a7 P w K mg base (cW P w) true 4 f fd ["self","worths","terms"] (qB aA aU):=by
 refine F.gM cN ZQ (fun bS A outer s H vs Q E hr h hX=>?_)
 ·obtain⟨x,dx,w,t,c,as,f,n,m,rfl,_⟩:=h;rfl
 ·obtain⟨x,dx,w,t,c,as,f1,n,m,rfl,hx,EN,hw,TA,TF,hn,hm,q⟩:=h;obtain⟨nu,dt,l,d,vs,T1,e1,e2,e3,e4⟩:=TF;have Ts:w≠x:=i5 hw hx (by intro z;cases z);have QS:t≠x:=fun z=>by
   have h1:=T1.ob;rw[z,hx]at h1;have h2:=congrArg (fun o=>match o with|some (HO.ins _ _ fs)=>fs.length| _=>0) h1;simp[wL]at h2
  refine⟨_,(YM (Μ K Xd (Ν K (pv 2))) (YM (Μ K Xd (Ν K (pv 2))) (YM (Z0 (3) cN.nd (@oB _ _ _ _ _ _ _ _ (Zk rq (Z7 (aL K) T.cX (Z2 ZC)) ai (aV _)) (Z7 (aL K) T.cX (Z2 (Z6 ZC ai))) ai)) (YM (Μ K Xd (@bR _ _ _ _ af)) (YM (Μ K Xd (@bR _ _ _ _ (Z2 (XI KG (@bR _ _ _ _ (Z2 jU)) (XI bA (pv 3) ai))))) (WX (Α hX.own (Β K ZC) (Z1 (4) cN.nd) (YM (@aG _ _ (5) _ _ _ _ cN.nd Zv (Or.inr rfl) (Z6 (ZW K) (@rm _ _ _ _ _ _ lH ai)) (ZA) (by exact .inl rfl)) (YM (@iK _ _ _ _ _ _ _ _ _ _ _ _ _ _ _ (6) _ _ (by exact rfl) cN.nd Zv (by exact rfl) (show bh ["self","worths","terms","width","row","above","ended"] (ar eO) _ ["j","worth"] [5] ["above"]from⟨rfl,by decide+kernel,by decide+kernel,by decide+kernel,rfl,rfl,by decide+kernel,by decide+kernel,by decide+kernel⟩) (@oQ _ K _ _ _ _ _ _ _ (by exact rfl) T.jx (Z2 (pv 4)) (ZA) (ZA)) (fun _ _ _ _ _=>(η K (2) (by exact rfl) (Zz (Z1 (0) (show(["j","worth","above"]:List Str).Nodup by decide+kernel)) (Zz (Z1 (1) (show(["j","worth","above"]:List Str).Nodup by decide+kernel)) fJ)))) (fun _ _ _ _ _=>fL) (fun _ _ _ _ _=>(Z5 d_ aO (Z_ ZC (Z2 (Z6 (pv 2) (pv 0)))))) (ZA) (by intro _;rfl)) (YM (Zt (Λ K PySem.F.slot_list_append PySem.F.type_list_append bQ (ZW K) (Z2 (pv 6)))) (WX (Zt (Λ K PySem.F.slot_list_append PySem.F.type_list_append bQ (ZW K) (Z2 (Ρ Xd cD aO (Z_ (pv 6) (Z2 (pv 5)))))))))))))))))),?_⟩;refine⟨fun σ H1=>σ=[some (.ref x),some (.ref w),some (.ref t),none,none,none,none]∧H1=upd H x (.ins aA dx (bq "out" (.int c.out) [])),?_,?_⟩
  ·refine⟨_,rfl,t,aU,dt,_,_,rfl,T1.ob,Tc.cl,Tc.out,l_out nu l d,_,rfl,x,aA,dx,_,rfl,hx,Rc.cl,Rc.out,U7,rfl,?_⟩;rw[e2]
  rintro σ H1 ⟨rfl,rfl⟩;refine⟨fun σ H1=>σ=[some (.ref x),some (.ref w),some (.ref t),none,none,none,none]∧H1=upd H x (.ins aA dx (bq "into" (.int c.into) (bq "out" (.int c.out) []))),?_,?_⟩
  ·refine⟨_,rfl,t,aU,dt,_,_,rfl,by rw[ak QS];exact T1.ob,Tc.cl,Tc.into,KY nu l d,_,rfl,x,aA,dx,_,rfl,ae,Rc.cl,Rc.into,?_,rfl,?_⟩
   ·have:=aX "out" (.int c.out) [];simp at this
    lia
   ·rw[gc,e3]
  rintro σ H1 ⟨rfl,rfl⟩;refine⟨fun σ H1=>∃wd:Int,σ=[some (.ref x),some (.ref w),some (.ref t),some (.int wd),none,none,none]∧H1=upd H x (.ins aA dx (bq "into" (.int c.into) (bq "out" (.int c.out) [])))∧(0<n→wd=(m:Int))∧0≤wd∧wd≤1000,?_,?_⟩
  ·have rY:upd H x (.ins aA dx (bq "into" (.int c.into) (bq "out" (.int c.out) []))) w=some (.lst (as.map V.ref)):=by rw[ak Ts];exact hw
   have B2:=TA.len;refine⟨_,rfl,w,_,rfl, .inl (.of rY),_,_,rfl,rfl,_,rfl,?_⟩;refine bf (fun hh=>?_) (fun hh=>?_)
   ·have hh:0<n:=by
     have:(0:Int)<((as.map V.ref).length:Int):=by simpa using hh
     rw[List.length_map]at this
     lia
    obtain⟨a,Aw,MD,Vy⟩:=TA.at hh;have O5:a≠x:=i5 Vy hx (by intro z;cases z);have X5:upd H x (.ins aA dx (bq "into" (.int c.into) (bq "out" (.int c.out) []))) a=some (.lst (de m (f1 0))):=by rw[ak O5];exact Vy
    refine⟨_,rfl,w,_,0,_,rfl,rfl, .of rY,au (j:=0) MD,a,_,rfl, .inl (.of X5),_,rfl,rfl,fun _=>by rw[dh],by rw[dh];lia,by rw[dh];lia⟩
   ·have hh:n=0:=by
     have:¬(0:Int)<((as.map V.ref).length:Int):=by simpa using hh
     rw[List.length_map]at this
     lia
    exact⟨_,rfl,rfl,fun z=>by lia,by lia,by lia⟩
  rintro σ H1 ⟨wd,rfl,rfl,X6,aaA,aaF⟩;refine⟨fun σ H1=>∃e,σ=[some (.ref x),some (.ref w),some (.ref t),some (.int wd),none,none,none]∧H1 x=some (.ins aA dx (bq "ending" (.ref e) (bq "into" (.int c.into) (bq "out" (.int c.out) []))))∧SameBut x H H1∧H e=none∧H1 e=some (.lst []),?_,?_⟩
  ·refine⟨aF V9,fun e he=>?_⟩;have yg:SameBut x H (upd H x (.ins aA dx (bq "into" (.int c.into) (bq "out" (.int c.out) [])))):=SameBut.refl.upd;have Vz:x≠e:=aE ae he;have Jz:=yg.free ae he;refine⟨_,rfl,x,aA,dx,_,rfl,by rw[ak Vz,ae],Rc.cl,Rc.kH,?_,e,rfl,ae,(yg.laid Jz).upd,Jz,by rw[ak (Ne.symm Vz),ae]⟩;have a1:=aX "into" (.int c.into) (bq "out" (.int c.out) []);have a2:=aX "out" (.int c.out) [];simp at a2
   lia
  rintro σ H1 ⟨e,rfl,lq,yg,Jz,AU⟩;refine⟨fun σ H2=>∃b ab,σ=[some (.ref x),some (.ref w),some (.ref t),some (.int wd),none,none,none]∧H2 x=some (.ins aA dx (gO c.out c.into e b))∧SameBut x H H2∧H2 e=some (.lst [])∧H b=none∧e≠b∧H2 b=some (.lst [.ref ab])∧(0<n→H2 ab=some (.lst (de (m+1) (Bq f1 c.out c.into 0))))∧ab≠e∧ab≠b∧H ab=none,?_,?_⟩
  ·refine⟨aF V9,fun l1 lb=>⟨_,rfl,_,_,rfl,rfl,l1,_,_,rfl,rfl,ae,by lia,by lia,aF (by simp;lia),fun ab Fv=>⟨aF V9,fun b hb=>?_⟩⟩⟩;have s1:ax H1 (upd (upd (upd H1 l1 (.lst [.cK])) ab (.lst (List.replicate (wd+1).toNat [V.cK]).flatten)) b (.lst [.ref ab])):=((ZF lb).trans (ZF Fv)).trans (ZF hb);have jg:H1 b=none:=((ZF lb).trans (ZF Fv)).free hb;have yh:=s1 _ _ lq;have X7:x≠b:=aE lq jg;have JA:ab≠b:=aE ae hb;refine⟨_,rfl,x,aA,dx,_,rfl,yh,Rc.cl,Rc.jC,?_,b,ab,rfl,by rw[ae,Oo],(yg.same s1).upd,?_,yg.free lq jg,aE AU jg,?_,fun h0=>?_,?_,JA,yg.free lq ((ZF lb).free Fv)⟩
   ·have a0:=aX "ending" (.ref e) (bq "into" (.int c.into) (bq "out" (.int c.out) []));have a1:=aX "into" (.int c.into) (bq "out" (.int c.out) []);have a2:=aX "out" (.int c.out) [];simp at a2
    lia
   ·have:e≠x:=i5 AU lq (by intro z;cases z);rw[ak this];exact s1 _ _ AU
   ·rw[ak (Ne.symm X7),ae]
   ·have VA:ab≠x:=fun z=>by rw[z]at Fv;rw[(ZF lb) _ _ lq]at Fv;cases Fv
    rw[ak VA,ak JA,ae,X6 h0]
    congr 1
    have:((m:Int)+1).toNat=m+1:=by lia
    rw[this]
    congr 1
    apply List.ext_getElem?;intro k;by_cases hk:k<m+1
    ·rw[dj hk,iL];simp[bC,hk]
    ·rw[List.getElem?_eq_none (by simp;lia),List.getElem?_eq_none (by rw[dh];lia)]
   ·exact Ne.symm (aE ((ZF lb) _ _ AU) Fv)
  clear lq yg AU H1;rintro σ H1 ⟨b,ab,rfl,lq,yg,AU,VB,VC,jg,Ic,O6,JA,DL⟩;refine⟨_,rfl,w,rfl,⟨_, .of (yg _ _ Ts hw)⟩,?_⟩;refine bU (xs:=as.map V.ref) (fun i σ H'=>(∃u1 u2 u3,σ=[some (.ref x),some (.ref w),some (.ref t),some (.int wd),u1,u2,u3])∧H' x=some (.ins aA dx (gO c.out c.into e b))∧SameBut x H H'∧∃(es:List Addr)(bs:List V)(ab:Addr),H' e=some (.lst (es.map V.ref))∧ja H' es (dG f1 c.out c.into) i m∧(∀a∈es,H a=none∧a≠e∧a≠b∧a≠x)∧H' b=some (.lst (bs++[.ref ab]))∧bs.length=i∧(0<n→H' ab=some (.lst (de (m+1) (Bq f1 c.out c.into i))))∧ab≠e∧ab≠b∧H ab=none∧∃bz:List Addr,bs=bz.map V.ref∧∀k a,bz[k]?=some a→H' a=some (.lst (de (m+1) (Bq f1 c.out c.into k)))∧a≠e∧a≠b∧H a=none) ?_ ?_ ?_ ?_
  ·exact⟨⟨_,_,_,rfl⟩,lq,yg,[],[],ab,AU,⟨rfl,fun i a h=>by simp at h⟩,(fun a h=>by cases h),jg,rfl,Ic,O6,JA,DL,[],rfl,fun k a h=>by simp at h⟩
  ·rintro i σ H' _ ⟨_,_,sb,_⟩;exact .of (sb _ _ Ts hw)
  ·clear lq yg AU jg Ic O6 JA DL ab H1;rintro i v σ H' hv ⟨⟨u1,u2,u3,rfl⟩,lq,yg,es,bs,ab,AU,TE,O7,jg,Ie,Ic,O6,JA,DL,bz,O8,BZ⟩;have B2:=TA.len;have hi:i<n:=by have:=(Z' hv).1;rw[List.length_map]at this;lia
   obtain⟨ra,Gu,zJ,xr⟩:=TA.at hi;rw[zJ]at hv;cases hv;have X8:ra≠x:=i5 xr hx (by intro z;cases z);have QT:=yg _ _ X8 xr;have Dp:=Ic Mm;refine⟨fun σ H2=>σ=[some (.ref x),some (.ref w),some (.ref t),some (.int wd),some (.ref ra),some (.ref ab),u3]∧H2=H',?_,?_⟩
   ·exact⟨_,rfl,x,aA,dx,_,_,rfl,lq,Rc.cl,Rc.jC,gT c.out c.into e b,_,rfl,b,_,_,_,rfl,rfl, .of jg,yy _ _,rfl,rfl⟩
   rintro σ H' ⟨rfl,rfl⟩;refine⟨fun σ H2=>∃D,σ=[some (.ref x),some (.ref w),some (.ref t),some (.int wd),some (.ref ra),some (.ref ab),some (.ref D)]∧ax H' H2∧H' D=none∧H2 D=some (.lst (de m (dG f1 c.out c.into i))),?_,?_⟩
   ·refine⟨_,rfl,ra,rfl,⟨_, .of QT⟩,fun D hD=>?_⟩;refine vP (xs:=de m (f1 i)) (fun j ys bj H2=>(∃w1 w2,bj=[w1,w2,some (.ref ab)])∧ys=de j (dG f1 c.out c.into i)∧H2 D=some (.lst ys)∧ax H' H2) ⟨⟨_,_,rfl⟩,rfl,ae,ZF hD⟩ ?_ ?_ ?_
    ·rintro j ys bj H2 _ ⟨_,_,_,s2⟩;exact .of (s2 _ _ QT)
    ·rintro j y T2 ys bj H2 hy ⟨⟨w1,w2,rfl⟩,rfl,l0,s2⟩ O9;have hj:j<m:=by have:=(Z' hy).1;rw[dh]at this;exact this
     rw[dj hj]at hy;cases hy;have s3:ax H' (upd H2 T2 (.tup [.int j,bC (f1 i j)])):=s2.trans (ZF O9);have Dn:=ax.upd (o:= .tup [.int j,bC (f1 i j)]) O9 _ _ l0;refine⟨T2,_,rfl, .of ae,rfl,_,_,rfl,_,_,rfl,rfl,?_⟩;refine sr ?_;refine⟨_,rfl,_,rfl,_,rfl,ab,_,_,_,rfl,rfl, .of (s3 _ _ Dp),au (dj Mm),f1 i j,Bq f1 c.out c.into i j,rfl,Dn,a9 (by rw[dh];lia),⟨_,_,rfl⟩,by rw[qu];rfl,ae,s3.eI hD⟩
    ·rintro ys bj H2 ⟨_,rfl,l0,s2⟩;rw[dh]at l0;exact⟨D,rfl,s2,hD,l0⟩
   rintro σ H2 ⟨D,rfl,s2,MJ,l0⟩;have yh:=s2 _ _ lq;have MK:=s2 _ _ AU;have xk:=s2 _ _ jg;have Tt:=s2 _ _ Dp;have X9:D≠x:=Ne.symm (aE lq MJ);have VD:D≠e:=Ne.symm (aE AU MJ);have VE:D≠b:=Ne.symm (aE jg MJ);have X_:e≠x:=i5 AU lq (by intro z;cases z);have X':b≠x:=i5 jg lq (by intro z;cases z);have VA:ab≠x:=i5 Dp lq (by intro z;cases z);have Ig:=TE.len;have Yb:H D=none:=yg.free lq MJ;have Tu:=yg.same s2;refine⟨fun σ H3=>σ=[some (.ref x),some (.ref w),some (.ref t),some (.int wd),some (.ref ra),some (.ref ab),some (.ref D)]∧H3=upd H2 e (.lst (es.map V.ref++[.ref D])),?_,?_⟩
   ·exact⟨_,rfl,x,aA,dx,_,_,rfl,yh,Rc.cl,Rc.kH,il c.out c.into e b, .inl ⟨rfl,_, .of MK⟩,_,rfl,e,_,_,rfl,rfl,MK,a9 (by rw[List.length_map];lia),rfl,rfl⟩
   rintro σ H3 ⟨rfl,rfl⟩;have MN:upd H2 e (.lst (es.map V.ref++[.ref D])) x=some (.ins aA dx (gO c.out c.into e b)):=by rw[ak (Ne.symm X_)];exact yh
   have QU:upd H2 e (.lst (es.map V.ref++[.ref D])) b=some (.lst (bs++[.ref ab])):=by rw[ak (Ne.symm VC)];exact xk
   have L4:upd H2 e (.lst (es.map V.ref++[.ref D])) ab=some (.lst (de (m+1) (Bq f1 c.out c.into i))):=by rw[ak O6];exact Tt
   have Dn:upd H2 e (.lst (es.map V.ref++[.ref D])) D=some (.lst (de m (dG f1 c.out c.into i))):=by rw[ak VD];exact l0
   have Gv:upd H2 e (.lst (es.map V.ref++[.ref D])) e=some (.lst (es.map V.ref++[.ref D])):=ae;have Tv:SameBut x H (upd H2 e (.lst (es.map V.ref++[.ref D]))):=Tu.laid Jz;have VF:∀k a,es[k]?=some a→upd H2 e (.lst (es.map V.ref++[.ref D])) a=some (.lst (de m (dG f1 c.out c.into k))):=fun k a hk=>by
    rw[ak (O7 a (ZO hk)).2.1];exact s2 _ _ (TE.row k a hk)
   have VG:∀k a,bz[k]?=some a→upd H2 e (.lst (es.map V.ref++[.ref D])) a=some (.lst (de (m+1) (Bq f1 c.out c.into k))):=fun k a hk=>by
    rw[ak (BZ k a hk).2.1];exact s2 _ _ (BZ k a hk).1
   generalize upd H2 e (.lst (es.map V.ref++[.ref D]))=H3 at MN QU L4 Dn Gv Tv VF VG;refine⟨_,rfl,x,aA,dx,_,_,rfl,MN,Rc.cl,Rc.jC,gT c.out c.into e b, .inl ⟨rfl,_, .of QU⟩,_,rfl,x,dx,_,rfl,MN,ET c.out c.into e b,_,rfl,_,rfl,x,D,ab,dx,e,b,c.out,c.into,m,_,_,rfl,MN,Dn,L4,hm,fun H4 r s4 rG Yc=>?_⟩;have VH:r≠b:=Ne.symm (aE QU rG);have Yd:r≠e:=Ne.symm (aE Gv rG);refine⟨b,_,_,rfl,rfl,s4 _ _ QU,a9 (by rw[List.length_append];simp;lia),⟨_,_,_,rfl⟩,by rw[ak (Ne.symm X')];exact s4 _ _ MN,(Tv.same s4).laid VB,es++[D],bs++[.ref ab],r,by rw[ak VC];rw[s4 _ _ Gv];simp,⟨by simp[Ig],fun k a hk=>?_⟩,fun a ha=>?_,ae,by simp[Ie],fun _=>?_,Yd,VH,Tv.free MN rG,bz++[ab],by simp[O8],fun k a hk=>?_⟩
   ·by_cases h:k<i
    ·rw[Zy Mm]at hk;rw[ak (O7 a (ZO hk)).2.2.1];exact s4 _ _ (VF k a hk)
    ·rw[Δ Mm]at hk;have w_:k-es.length=0:=by
      have:=(Z' hk).1;simp at this
      lia
     rw[w_]at hk;have:D=a:=by simpa using hk
     subst this;rw[ak VE];have:k=i:=by lia
     rw[this];exact s4 _ _ Dn
   ·rcases List.mem_append.mp ha with ha|ha
    ·exact O7 a ha
    ·have:a=D:=by simpa using ha
     rw[this];exact⟨Yb,VD,VE,X9⟩
   ·rw[ak VH,Yc]
    congr 2
    unfold de;apply List.map_congr_left;intro j _;rw[BE]
   ·have O_:bz.length=i:=by rw[O8,List.length_map]at Ie;exact Ie
    by_cases h:k<i
    ·rw[Zy Mm]at hk;obtain⟨_,z1,z2,z3⟩:=BZ k a hk;exact⟨by rw[ak z2];exact s4 _ _ (VG k a hk),z1,z2,z3⟩
    ·rw[Δ Mm]at hk;have w_:k-bz.length=0:=by
      have:=(Z' hk).1;simp at this
      lia
     rw[w_]at hk;have:ab=a:=by simpa using hk
     subst this;have:k=i:=by lia
     subst this;exact⟨by rw[ak JA];exact s4 _ _ L4,O6,JA,DL⟩
  ·rintro σ H' ⟨⟨u1,u2,u3,rfl⟩,yh,Tu,es,bs,Tw,MK,TE,O7,xk,Ie,Dp,Ye,Yg,MD,bz,O8,BZ⟩;rw[List.length_map,TA.len]at TE Ie Dp;have O_:bz.length=n:=by rw[O8,List.length_map]at Ie;exact Ie
   refine q H' e b Tu yh ⟨es,MK,Jz,TE,fun a ha=>(O7 a ha).1⟩ fun Tx=>⟨bz++[Tw],by rw[xk,O8];simp,VB,⟨by simp[O_],fun k a hk=>?_⟩,fun a ha=>?_⟩
   ·by_cases h:k<n
    ·rw[Zy Mm]at hk;exact(BZ k a hk).1
    ·rw[Δ Mm]at hk;have w_:k-bz.length=0:=by
      have:=(Z' hk).1;simp at this
      lia
     rw[w_]at hk;have:Tw=a:=by simpa using hk
     subst this;have:k=n:=by lia
     subst this;exact Dp Tx
   ·rcases List.mem_append.mp ha with ha|ha
    ·obtain⟨k,hk,rfl⟩:=List.mem_iff_getElem.mp ha;exact(BZ k _ (by simp[hk])).2.2.2
    ·have:a=Tw:=by simpa using ha
     rw[this];exact MD
theorem jH:aM ["self","pair","brought"] ["self","pair"] (ar gW):=⟨rfl,rfl,rfl,by decide+kernel,rfl,by decide+kernel,by decide+kernel⟩
include T Rc in
theorem pd{f:Addr}{fd:FuncData}(F:iB K "goes_on" "Trails.goes_on" gW f fd):a7 P w K mg base (cW P w) true 1 f fd ["self","pair"] (xb aA):=by
 refine F.gM jH ZQ (fun bS A outer s H vs Q E hr h hX=>?_)
 ·obtain⟨x,dx,e,b,es,bs,f,o,p,n,m,pr,i,j,rfl,_⟩:=h;rfl
 ·obtain⟨x,dx,e,b,es,bs,f1,o,p,n,m,pr,i,j,rfl,TR,B8,hi,hj,q⟩:=h;refine⟨_,(Xc (Z0 (2) jH.nd (Z6 (Z6 (ZW K) (Ζ (bT K) (pv 1) ai)) (Ζ (bT K) (pv 1) ai))) (WX (ZS (@wk _ _ _ _ _ _ _ (@zN _ _ _ _ _ _ (@oA _ _ _ _ _ (pv 2)) (by first|exact bo _ (U7) (U7)|rfl)) (@wj _ _ _ _ _ (@iI _ _ _ _ _ _ _ _ Bg (pv 2) ai (aV _))))))),?_⟩;obtain⟨ra,h1,h2,h3⟩:=TR.tb.at (show i<n+1 by lia);refine⟨_,rfl,x,aA,dx,_,_,rfl,TR.ob,Rc.cl,Rc.jC,gT o p e b,_,rfl,pr,_,_,_,rfl,rfl, .of B8,YL (j:=0),b,_,_,_,rfl,rfl, .of TR.hb,au h2,_,rfl,pr,_,_,_,rfl,rfl, .of B8,YL (j:=1),ra,_,_,_,rfl,rfl, .of h3,au (dj (show j<m+1 by lia)),?_⟩;refine⟨_,rfl,?_⟩;cases eB:Bq f1 o p i j with
  |none=>
   rw[eB]at q;exact⟨_,rfl,bf (fun hh=>ZE hh (by simp[bC])) fun _=>q⟩
  |some v=>
   rw[eB]at q;exact⟨_,rfl,bf (fun _=>⟨_,rfl,_,_,rfl,rfl,q⟩) fun hh=>ZE (by simp[bC]) hh⟩
theorem ki:aM ["self","crossing","pair"] ["self","crossing","pair"] (ar d6):=⟨rfl,rfl,rfl,by decide+kernel,rfl,by decide+kernel,by decide+kernel⟩
include T Rc in
theorem kj{f:Addr}{fd:FuncData}(F:iB K "is_brought_by" "Trails.is_brought_by" d6 f fd):a7 P w K mg base (cW P w) true 1 f fd ["self","crossing","pair"] (AD aA):=by
 refine F.gM ki ZQ (fun bS A outer s H vs Q E hr h hX=>?_)
 ·obtain⟨x,dx,e,b,es,bs,f,o,p,n,m,cr,pr,i,j,k,l,rfl,_⟩:=h;rfl
 ·obtain⟨x,dx,e,b,es,bs,f1,o,p,n,m,cr,pr,i,j,k,l,rfl,TR,JB,B8,hi,hj,hk,hl,q⟩:=h;refine⟨_,(WX (ZS (@iI _ _ _ _ _ _ _ _ jv (Z6 (Z6 (ZW K) (Ζ (bT K) (pv 2) ai)) (Ζ (bT K) (pv 2) ai)) (Z6 (Z6 (ZW K) (Ζ (bT K) (pv 1) ai)) (Ζ (bT K) (pv 1) ai)) (aV _)))),?_⟩;obtain⟨ra,h1,h2,h3⟩:=TR.tb.at (show i<n+1 by lia);obtain⟨rb,g1,g2,g3⟩:=TR.te.at hk;refine⟨_,rfl,x,aA,dx,_,_,rfl,TR.ob,Rc.cl,Rc.kH,il o p e b,_,rfl,pr,_,_,_,rfl,rfl, .of B8,YL (j:=0),e,_,_,_,rfl,rfl, .of TR.he,au g2,_,rfl,pr,_,_,_,rfl,rfl, .of B8,YL (j:=1),rb,_,_,_,rfl,rfl, .of g3,au (dj hl),?_⟩;refine⟨_,rfl,x,aA,dx,_,_,rfl,TR.ob,Rc.cl,Rc.jC,gT o p e b,_,rfl,cr,_,_,_,rfl,rfl, .of JB,YL (j:=0),b,_,_,_,rfl,rfl, .of TR.hb,au h2,_,rfl,cr,_,_,_,rfl,rfl, .of JB,YL (j:=1),ra,_,_,_,rfl,rfl, .of h3,au (dj (show j<m+1 by lia)),?_⟩;have JC:∀a c:Option Int,decide (bC a=bC c)=decide (a=c):=fun a c=>by cases a<;>cases c<;>simp[bC]
  refine⟨by cases dG f1 o p k l<;>cases Bq f1 o p i j<;>rfl,?_⟩;rw[JC];exact q
theorem bp:aM ["self","crossing","i","j","brought","found"] ["self","crossing"] (ar cR):=⟨rfl,rfl,rfl,by decide+kernel,rfl,by decide+kernel,by decide+kernel⟩
include T kR Rc in
theorem jh{f:Addr}{fd:FuncData}(F:iB K "crossings_before" "Trails.crossings_before" cR f fd):a7 P w K mg base (cW P w) true 2 f fd ["self","crossing"] (tJ aA):=by
 refine F.gM bp ZQ (fun bS A outer s H vs Q E hr h hX=>?_)
 ·obtain⟨x,dx,e,b,es,bs,f,o,p,n,m,cr,i,j,rfl,_⟩:=h;rfl
 ·obtain⟨x,dx,e,b,es,bs,f1,o,p,n,m,cr,i,j,rfl,TR,JB,hi,hj,q⟩:=h;refine⟨_,(YM (Z0 (2) bp.nd (Ζ (bT K) (pv 1) ai)) (YM (Z0 (3) bp.nd (Ζ (bT K) (pv 1) ai)) (YM (Z0 (4) bp.nd (Z6 (Z6 (ZW K) (pv 2)) (pv 3))) (YM (Z0 (5) bp.nd (@bR _ _ _ _ af)) (YM (Zr (Zk jv (Z5 kR aO (Z_ (Z6 (Z6 (ZW K) (XI cy (pv 2) ai)) (pv 3)) (Z2 (ZW K)))) (pv 4) (aV _)) (WX (Zt (Λ K PySem.F.slot_list_append PySem.F.type_list_append bQ (pv 5) (Z2 (@eF _ _ _ _ _ (ε (XI cy (pv 2) ai))))))) aQ) (YM (Zr (Zk jv (Z5 kR aO (Z_ (Z6 (Z6 (ZW K) (pv 2)) (XI cy (pv 3) ai)) (Z2 (ZW K)))) (pv 4) (aV _)) (WX (Zt (Λ K PySem.F.slot_list_append PySem.F.type_list_append bQ (pv 5) (Z2 (@eF _ _ _ _ _ (Z_ (pv 2) (Z2 (XI cy (pv 3) ai)))))))) aQ) (WX (ZS (pv 5))))))))),?_⟩;have JC:∀a c:Option Int,decide (bC a=bC c)=decide (a=c):=fun a c=>by cases a<;>cases c<;>simp[bC]
  obtain⟨ra,h1,h2,h3⟩:=TR.tb.at (show i<n+1 by lia);obtain⟨rb,g1,g2,g3⟩:=TR.tb.at (show i+1<n+1 by lia);refine⟨fun σ H1=>σ=[some (.ref x),some (.ref cr),some (.int ((i+1:Nat):Int)),none,none,none]∧H1=H,⟨_,rfl,cr,_,_,_,rfl,rfl, .of JB,YL (j:=0),rfl,rfl⟩,?_⟩;rintro σ H ⟨rfl,rfl⟩;refine⟨fun σ H1=>σ=[some (.ref x),some (.ref cr),some (.int ((i+1:Nat):Int)),some (.int ((j+1:Nat):Int)),none,none]∧H1=H,⟨_,rfl,cr,_,_,_,rfl,rfl, .of JB,YL (j:=1),rfl,rfl⟩,?_⟩;rintro σ H ⟨rfl,rfl⟩;refine⟨fun σ H1=>σ=[some (.ref x),some (.ref cr),some (.int ((i+1:Nat):Int)),some (.int ((j+1:Nat):Int)),some (bC (Bq f1 o p (i+1) (j+1))),none]∧H1=H,⟨_,rfl,x,aA,dx,_,_,rfl,TR.ob,Rc.cl,Rc.jC,gT o p e b,_,rfl,b,_,_,_,rfl,rfl, .of TR.hb,au g2,_,rfl,rb,_,_,_,rfl,rfl, .of g3,au (dj (show j+1<m+1 by lia)),rfl,rfl⟩,?_⟩;rintro σ H ⟨rfl,rfl⟩;refine⟨fun σ H1=>∃r,σ=[some (.ref x),some (.ref cr),some (.int ((i+1:Nat):Int)),some (.int ((j+1:Nat):Int)),some (bC (Bq f1 o p (i+1) (j+1))),some (.ref r)]∧ax H H1∧H r=none∧H1 r=some (.lst []),⟨aF V9,fun r hr=>⟨r,rfl,ZF hr,hr,ae⟩⟩,?_⟩;rintro σ H1 ⟨r,rfl,s1,rG,Gu⟩;refine⟨fun σ H2=>∃us,σ=[some (.ref x),some (.ref cr),some (.int ((i+1:Nat):Int)),some (.int ((j+1:Nat):Int)),some (bC (Bq f1 o p (i+1) (j+1))),some (.ref r)]∧ax H H2∧H2 r=some (.lst us)∧gK H2 us (if bB (Bq f1 o p i (j+1)) o=Bq f1 o p (i+1) (j+1)then[((i:Int),((j+1:Nat):Int))]else[]),?_,?_⟩
  ·have T1:=TR.keep s1;have ea:rP (bs.map V.ref) (((i+1:Nat):Int)-1)=some (.ref ra):=by
    rw[show((i+1:Nat):Int)-1=(i:Int) by lia];exact au h2
   refine⟨_,rfl,x,aA,dx,_,_,rfl,T1.ob,Rc.cl,Rc.jC,gT o p e b,_,rfl,_,_,rfl,rfl,b,_,_,_,rfl,rfl, .of T1.hb,ea,_,rfl,ra,_,_,_,rfl,rfl, .of (s1 _ _ h3),au (dj (show j+1<m+1 by lia)),?_⟩;refine⟨_,rfl,x,aA,dx,_,_,rfl,T1.ob,Rc.cl,Rc.out,Jh o p e b,Bq f1 o p i (j+1),o,rfl,?_⟩;refine⟨_,rfl,by cases bB (Bq f1 o p i (j+1)) o<;>cases Bq f1 o p (i+1) (j+1)<;>rfl,_,rfl,?_⟩;rw[JC];refine bf (fun hh=>?_) (fun hh=>?_)
   ·have hh:bB (Bq f1 o p i (j+1)) o=Bq f1 o p (i+1) (j+1):=of_decide_eq_true hh;rw[U6 hh];refine⟨_,rfl, .inl ⟨rfl,_, .of Gu⟩,_,rfl,_,_,rfl,rfl,_,rfl,aF V9,fun t ht=>?_⟩;refine⟨r,_,_,rfl,rfl,ax.upd ht _ _ Gu,a9 V9,_,rfl,(s1.trans (ZF ht)).eI rG,ae,rfl,fun k f hf=>?_⟩;have hk:k=0:=by
     have:=(Z' hf).1;simp at this
     lia
    subst hk;have hf:((i:Int),((j+1:Nat):Int))=f:=by simpa using hf
    subst hf;refine⟨t,rfl,?_⟩;rw[ak (fun z=>by subst z;rw[Gu]at ht;cases ht),ae];rw[show((i+1:Nat):Int)-1=(i:Int) by lia];rfl
   ·have hh:¬bB (Bq f1 o p i (j+1)) o=Bq f1 o p (i+1) (j+1):=by simpa using hh
    rw[Sn hh];exact⟨[],rfl,s1,Gu, .nil⟩
  rintro σ H2 ⟨us,rfl,s2,zJ,P2⟩;have T2:=TR.keep s2;have aaa:us.length≤1:=by
   rw[P2.1];split<;>simp
  have eb:rP (de (m+1) (Bq f1 o p (i+1))) (((j+1:Nat):Int)-1)=some (bC (Bq f1 o p (i+1) j)):=by
   rw[show((j+1:Nat):Int)-1=(j:Int) by lia];exact au (dj (show j<m+1 by lia))
  refine⟨fun σ H3=>∃us,σ=[some (.ref x),some (.ref cr),some (.int ((i+1:Nat):Int)),some (.int ((j+1:Nat):Int)),some (bC (Bq f1 o p (i+1) (j+1))),some (.ref r)]∧ax H H3∧H3 r=some (.lst us)∧gK H3 us (br f1 o p i j),?_,?_⟩
  ·refine⟨_,rfl,x,aA,dx,_,_,rfl,T2.ob,Rc.cl,Rc.jC,gT o p e b,_,rfl,b,_,_,_,rfl,rfl, .of T2.hb,au g2,_,rfl,_,_,rfl,rfl,rb,_,_,_,rfl,rfl, .of (s2 _ _ g3),eb,?_⟩;refine⟨_,rfl,x,aA,dx,_,_,rfl,T2.ob,Rc.cl,Rc.into,ES o p e b,Bq f1 o p (i+1) j,p,rfl,?_⟩;refine⟨_,rfl,by cases bB (Bq f1 o p (i+1) j) p<;>cases Bq f1 o p (i+1) (j+1)<;>rfl,_,rfl,?_⟩;rw[JC];refine bf (fun hh=>?_) (fun hh=>?_)
   ·have hh:bB (Bq f1 o p (i+1) j) p=Bq f1 o p (i+1) (j+1):=of_decide_eq_true hh;refine⟨_,rfl, .inl ⟨rfl,_, .of zJ⟩,_,rfl,_,rfl,_,_,rfl,rfl,aF V9,fun t ht=>?_⟩;have s3:=ax.upd (o:= .tup [.int ((i+1:Nat):Int), .int (((j+1:Nat):Int)-1)]) ht;have VI:t≠r:=fun z=>by subst z;rw[zJ]at ht;cases ht
    refine⟨r,_,_,rfl,rfl,s3 _ _ zJ,a9 Mm,_,rfl,(s2.trans s3).eI rG,ae,?_⟩;unfold br;rw[U6 hh];refine((P2.same s3).append ⟨rfl,fun k f hf=>?_⟩).cC fun a ys ha=>?_
    ·have hk:k=0:=by
      have:=(Z' hf).1;simp at this
      lia
     subst hk;have hf:(((i+1:Nat):Int),(j:Int))=f:=by simpa using hf
     subst hf;refine⟨t,rfl,?_⟩;rw[ae,show((j+1:Nat):Int)-1=(j:Int) by lia];rfl
    ·have eX:a≠r:=fun z=>by subst z;rw[s3 _ _ zJ]at ha;cases ha
     rw[ak eX];exact ha
   ·have hh:¬bB (Bq f1 o p (i+1) j) p=Bq f1 o p (i+1) (j+1):=by simpa using hh
    refine⟨us,rfl,s2,zJ,?_⟩;unfold br;rw[Sn hh,List.append_nil];exact P2
  rintro σ H3 ⟨us,rfl,s3,xr,P3⟩;exact⟨_,rfl,q H3 r us s3 rG xr P3⟩
variable(bg:eJ P w K mg base true 1 aA "is_brought_by" ["self","crossing","pair"] (AD aA))
variable(aY:eJ P w K mg base true 2 aA "crossings_before" ["self","crossing"] (tJ aA))
theorem bW:aM ["self","pair","crossing","ahead"] ["self","pair"] (ar e8):=⟨rfl,rfl,rfl,by decide+kernel,rfl,by decide+kernel,by decide+kernel⟩
include T Rc bg aY in
theorem lA{f:Addr}{fd:FuncData}(F:iB K "pair_before" "Trails.pair_before" e8 f fd):a7 P w K mg base (cW P w) true 3 f fd ["self","pair"] (xc aA):=by
 refine F.gM bW ZQ (fun bS A outer s H vs Q E hr h hX=>?_)
 ·obtain⟨x,dx,e,b,es,bs,f,o,p,n,m,pr,i,j,rfl,_⟩:=h;rfl
 ·obtain⟨x,dx,e,b,es,bs,f1,o,p,n,m,pr,i,j,rfl,TR,B8,hi,hj,hB,q⟩:=h;refine⟨_,(Xc (Z0 (2) bW.nd ZC) (Xc (Z0 (3) bW.nd (@eF _ _ _ _ _ (Z_ (XI cy (Ζ (bT K) (pv 2) ai) ai) (Z2 (XI cy (Ζ (bT K) (pv 2) ai) ai))))) (Xc (@sM _ _ _ _ _ _ hX.own (@cL _ _ _ _ (Γ (Ρ Xd bg aO (ε (pv 2))))) (Xc (Z0 (2) bW.nd (Z6 (Ρ Xd aY aO (Z2 (pv 2))) ai)) (WX (Z0 (3) bW.nd (@eF _ _ _ _ _ (Z_ (XI cy (Ζ (bT K) (pv 2) ai) ai) (Z2 (XI cy (Ζ (bT K) (pv 2) ai) ai)))))))) (WX (ZS (pv 3)))))),?_⟩;obtain⟨i,rfl⟩:∃i',i=i'+1:=by
   cases i with
   |zero=>exact ZE (iL f1 o p j) hB
   |succ i=>exact⟨i,rfl⟩
  obtain⟨j,rfl⟩:∃j',j=j'+1:=by
   cases j with
   |zero=>exact ZE (by unfold Bq;rfl) hB
   |succ j=>exact⟨j,rfl⟩
  refine⟨_,rfl,_,rfl,pr,_,_,_,rfl,rfl, .of B8,YL (j:=0),_,_,rfl,rfl,_,rfl,pr,_,_,_,rfl,rfl, .of B8,YL (j:=1),_,_,rfl,rfl,aF V9,fun t ht=>?_⟩;refine⟨fun mm σ H1=>∃(cr ah:Addr)(i2 j2:Nat),mm=i2+j2∧σ=[some (.ref x),some (.ref pr),some (.ref cr),some (.ref ah)]∧ax H H1∧H1 cr=some (.tup [.int ((i2+1:Nat):Int), .int ((j2+1:Nat):Int)])∧H1 ah=some (.tup [.int i2, .int j2])∧i2<n∧j2<m∧Bq f1 o p (i2+1) (j2+1)≠none∧cJ f1 o p (i2+1) (j2+1)=cJ f1 o p (i+1) (j+1),⟨i+j,pr,t,i,j,rfl,rfl,ZF ht,ax.upd ht _ _ B8,?_,by lia,by lia,hB,rfl⟩,?_⟩
  ·rw[ae,show((i+1:Nat):Int)-1=(i:Int) by lia,show((j+1:Nat):Int)-1=(j:Int) by lia]
  rintro mm σ H1 ⟨cr,ah,i2,j2,rfl,rfl,s1,JB,VJ,Gm,Tz,MO,VL⟩;have T1:=TR.keep s1;refine⟨_,rfl,x,dx,_,rfl,T1.ob,Jr o p e b,_,rfl,_,rfl,x,dx,e,b,es,bs,f1,o,p,n,m,cr,ah,i2+1,j2+1,i2,j2,rfl,T1,JB,VJ,by lia,by lia,Gm,Tz,?_⟩;refine⟨_,rfl,?_⟩;by_cases hE:dG f1 o p i2 j2=Bq f1 o p (i2+1) (j2+1)
  ·rw[decide_eq_true hE];refine f_ ?_;refine⟨_,rfl,q H1 ah s1 ?_⟩;have:cJ f1 o p (i2+1) (j2+1)=(i2,j2):=by unfold cJ;rw[U6 hE]
   rw[←VL,this];exact VJ
  ·rw[decide_eq_false hE];refine jV ?_;refine⟨_,fun bj H' z=>z,?_⟩;obtain⟨i3,j3,c0,c1,c2,c3,c4,c5⟩:=yZ MO hE;refine⟨_,rfl,x,dx,_,rfl,T1.ob,BU o p e b,_,rfl,x,dx,e,b,es,bs,f1,o,p,n,m,cr,i2,j2,rfl,T1,JB,Gm,Tz,fun H2 r us s2 rG zJ P2=>?_⟩;obtain⟨t2,k1,k2⟩:=P2.2 0 _ c0;refine⟨r,_,_,_,rfl,rfl, .of zJ,au (j:=0) k1,?_⟩;refine⟨_,rfl,t2,_,_,_,rfl,rfl, .of k2,YL (j:=0),_,_,rfl,rfl,_,rfl,t2,_,_,_,rfl,rfl, .of k2,YL (j:=1),_,_,rfl,rfl,aF V9,fun t3 VM=>?_⟩;refine⟨i3+j3,by lia,t2,t3,i3,j3,rfl,rfl,s1.trans (s2.trans (ZF VM)),ax.upd VM _ _ k2,?_,by lia,by lia,c4,by rw[c5,VL]⟩;rw[ae];show some (HO.tup [.int (((i3+1:Nat):Int)-1), .int (((j3+1:Nat):Int)-1)])=_;rw[show((i3+1:Nat):Int)-1=(i3:Int) by lia,show((j3+1:Nat):Int)-1=(j3:Int) by lia]
variable(cc:eJ P w K mg base true 1 aA "goes_on" ["self","pair"] (xb aA))
variable(dw:eJ P w K mg base true 3 aA "pair_before" ["self","pair"] (xc aA))
theorem kn:aM ["self","pair","way"] ["self","pair"] (ar iC):=⟨rfl,rfl,rfl,by decide+kernel,rfl,by decide+kernel,by decide+kernel⟩
include T Rc cc dw in
theorem qL{f:Addr}{fd:FuncData}(F:iB K "way_to" "Trails.way_to" iC f fd):a7 P w K mg base (cW P w) true 4 f fd ["self","pair"] (AE aA):=by
 refine F.gM kn ZQ (fun bS A outer s H vs Q E hr h hX=>?_)
 ·obtain⟨x,dx,e,b,es,bs,f,o,p,n,m,pr,i,j,rfl,_⟩:=h;rfl
 ·obtain⟨x,dx,e,b,es,bs,f1,o,p,n,m,pr,i,j,rfl,TR,B8,hi,hj,hn,q⟩:=h;refine⟨_,(Xc (Z0 (2) kn.nd (@bR _ _ _ _ (Z2 ZC))) (Xc (@sM _ _ _ _ _ _ hX.own (Γ (Ρ Xd cc aO (Z2 (Z6 (pv 2) (@rm _ _ _ _ _ _ lH ai))))) (WX (Zt (Λ K PySem.F.slot_list_append PySem.F.type_list_append bQ (pv 2) (Z2 (Ρ Xd dw aO (Z2 (Z6 (pv 2) (@rm _ _ _ _ _ _ lH ai))))))))) (Xc (Zt (@Hq _ K _ _ _ _ _ _ _ _ PySem.F.plainAttrs_list PySem.F.slot_list_reverse PySem.F.type_list_reverse Aa (pv 2) (ZA) (ZA) (ZA))) (WX (ZS (pv 2)))))),?_⟩;refine⟨_,rfl,aF V9,fun w hw=>?_⟩;refine⟨fun mm σ H1=>∃(us:List V)(A:List (Nat×Nat))(i2 j2:Nat),mm=i2∧σ=[some (.ref x),some (.ref pr),some (.ref w)]∧ax H H1∧H1 w=some (.lst us)∧gK H1 us ((A++[(i2,j2)]).map aR)∧i2<n∧j2<m∧A.length+i2≤i∧eK f1 o p i i j=eK f1 o p i2 i2 j2++A.reverse,⟨i,_,[],i,j,rfl,rfl,ZF hw,ae,⟨rfl,fun k g hg=>?_⟩,hi,hj,Wv,Wv⟩,?_⟩
  ·have hk:k=0:=by
    have:=(Z' hg).1;simp at this
    lia
   subst hk;have hg:aR (i,j)=g:=by simpa using hg
   subst hg;exact⟨pr,rfl,ax.upd hw _ _ B8⟩
  rintro i2 σ H1 ⟨us,A,_,j2,rfl,rfl,s1,rY,P1,Gm,Tz,hA,Ih⟩;have T1:=TR.keep s1;obtain⟨t,yf,uE⟩:=P1.last V9;rw[List.map_append,List.map_singleton,nJ]at uE;have hlen:us.length≤1001:=by have:=P1.1;simp at this;lia
  refine⟨_,rfl,x,dx,_,rfl,T1.ob,Fs o p e b,_,rfl,_,rfl,w,_,_,_,rfl,rfl, .of rY,yf,x,dx,e,b,es,bs,f1,o,p,n,m,t,i2,j2,rfl,T1,uE,by lia,by lia,?_⟩;refine⟨_,rfl,?_⟩;refine bf (fun hh=>?_) (fun hh=>?_)
  ·obtain⟨c1,c2,c3⟩:=ke hh;have hl:=(kI f1 o p i2 j2 c1 c2).resolve_right c3;refine⟨_,fun bj H' z=>z,?_⟩;refine⟨_,rfl, .inl ⟨rfl,_, .of rY⟩,_,rfl,x,dx,_,rfl,T1.ob,LJ o p e b,_,rfl,_,rfl,w,_,_,_,rfl,rfl, .of rY,yf,x,dx,e,b,es,bs,f1,o,p,n,m,t,i2,j2,rfl,T1,uE,by lia,by lia,c3,fun H2 r s2 hr=>?_⟩;have ZD:r≠w:=fun z=>by subst z;rw[s2 _ _ rY]at hr;cases hr
   refine⟨w,_,_,rfl,rfl,s2 _ _ rY,a9 Mm,(cJ f1 o p i2 j2).1,hl.1,us++[.ref r],A++[(i2,j2)],_,(cJ f1 o p i2 j2).2,rfl,rfl,(s1.trans s2).eI hw,ae,?_,by lia,by lia,by simp;lia,?_⟩
   ·rw[List.map_append];refine((P1.same s2).append ⟨rfl,fun k g hg=>?_⟩).cC fun a ys ha=>?_
    ·have hk:k=0:=by
      have:=(Z' hg).1;simp at this
      lia
     subst hk;have hg:aR ((cJ f1 o p i2 j2).1,(cJ f1 o p i2 j2).2)=g:=by simpa using hg
     subst hg;exact⟨r,rfl,hr⟩
    ·have eX:a≠w:=fun z=>by subst z;rw[s2 _ _ rY]at ha;cases ha
     rw[ak eX];exact ha
   ·rw[Ih,vV hh];simp
  ·have hh:¬gP (Bq f1 o p i2 j2)=true:=hh;refine⟨_,rfl, .inl ⟨rfl,_, .of rY⟩,w,us,rfl,rfl,rY,?_⟩;refine⟨_,rfl,q _ w us.reverse (s1.eI hw) hw ae ?_⟩;have e:eK f1 o p i i j=(A++[(i2,j2)]).reverse:=by
    rw[Ih,gU hh];simp
   rw[e,List.map_reverse];refine⟨by rw[List.length_reverse,List.length_reverse,P1.1],fun k g hg=>?_⟩;have hk:=(Z' hg).1;rw[List.length_reverse]at hk;have hl:=P1.1;rw[List.getElem?_reverse hk]at hg;obtain⟨t3,k1,k2⟩:=P1.2 _ _ hg;refine⟨t3,by rw[List.getElem?_reverse Mm,hl];exact k1,?_⟩;have eX:t3≠w:=fun z=>by subst z;rw[rY]at k2;cases k2
   rw[ak eX];exact k2
variable(Fc:Js K ay)
theorem mR:aM ["self","worth","way","row","pairs"] ["self","worth","way","row","pairs"] (ar fV):=⟨rfl,rfl,rfl,by decide+kernel,rfl,by decide+kernel,by decide+kernel⟩
include T Fc in
theorem mS{f:Addr}{fd:FuncData}(F:iB K "__init__" "Finding.__init__" fV f fd):a7 P w K mg base (cW P w) true 1 f fd ["self","worth","way","row","pairs"] (tK ay):=by
 refine F.gM mR ZQ (fun bS A outer s H vs Q E hr h hX=>?_)
 ·obtain⟨x,dx,a,r,p,w,rfl,_⟩:=h;rfl
 ·obtain⟨x,dx,a,r,p,w,rfl,hx,q⟩:=h;refine⟨_,(Xc (Μ K Xd (pv 1)) (Xc (Μ K Xd (pv 2)) (Xc (Μ K Xd (pv 3)) (WX (Μ K Xd (pv 4)))))),?_⟩;have a1:=aX "worth" (.int w) [];have a2:=aX "way" (.ref a) (bq "worth" (.int w) []);have a3:=aX "row" (.ref r) (bq "way" (.ref a) (bq "worth" (.int w) []));simp only[List.length_nil]at a1;refine⟨_,rfl,_,rfl,x,ay,dx,_,rfl,hx,Fc.cl,Fc.worth,U7,?_⟩;refine⟨_,rfl,_,rfl,x,ay,dx,_,rfl,ae,Fc.cl,Fc.way,by lia,?_⟩;refine⟨_,rfl,_,rfl,x,ay,dx,_,rfl,ae,Fc.cl,Fc.row,by lia,?_⟩;refine⟨_,rfl,_,rfl,x,ay,dx,_,rfl,ae,Fc.cl,Fc.pairs,by lia,?_⟩;rw[gc,gc,gc,LK];exact q
theorem zg:aM ["finding"] ["finding"] (ar nQ):=⟨rfl,rfl,rfl,by decide+kernel,rfl,by decide+kernel,by decide+kernel⟩
include T Fc in
theorem zh{f:Addr}{fd:FuncData}(F:jw K "order_of" "order_of" nQ f fd):a7 P w K mg base (cW P w) true 1 f fd ["finding"] (tL ay):=by
 refine F.gM zg ZQ (fun bS A outer s H vs Q E hr h hX=>?_)
 ·obtain⟨x,dx,a,r,p,w,us,ps,rfl,_⟩:=h;rfl
 ·obtain⟨x,dx,a,r,p,w,us,ps,rfl,hx,hp,PS,eX,q⟩:=h;refine⟨_,(WX (ZS (@eF _ _ _ _ _ (Z_ (@rm _ _ _ _ _ _ lH (ZW K)) (Z2 (Z6 (ZW K) ai)))))),?_⟩;obtain⟨t,h1,h2⟩:=PS.first eX;refine⟨_,rfl,x,ay,dx,_,_,rfl,hx,Fc.cl,Fc.worth,jc w a r p,_,rfl,_,rfl,x,ay,dx,_,_,rfl,hx,Fc.cl,Fc.pairs,ip w a r p,p,_,_,_,rfl,rfl, .of hp,h1,aF V9,fun k hk=>?_⟩;exact q _ k t (ZF hk) ae (ax.upd hk _ _ h2)
variable(fR:eJ P w K mg base true 4 aA "way_to" ["self","pair"] (AE aA))
variable(kT:m3 P w K mg base true 1 "Finding" ay ["self","worth","way","row","pairs"] [] (tK ay))
theorem fS:aM ["trails","worth","pairs","ends","way","row"] ["trails","worth","pairs"] (ar e_):=⟨rfl,rfl,rfl,by decide+kernel,rfl,by decide+kernel,by decide+kernel⟩
include T Rc fR kT in
theorem rZ{f:Addr}{fd:FuncData}(F:jw K "make_finding" "make_finding" e_ f fd):a7 P w K mg base (cW P w) true 6 f fd ["trails","worth","pairs"] (AG aA ay):=by
 refine F.gM fS ZQ (fun bS A outer s H vs Q E hr h hX=>?_)
 ·obtain⟨x,dx,e,b,es,bs,f,o,p,n,m,w,pr,us,ps,q0,rfl,_⟩:=h;rfl
 ·obtain⟨x,dx,e,b,es,bs,f1,o,p,n,m,w,pr,us,ps,q0,rfl,TR,B8,PS,lI,h0,hn,DE,q⟩:=h;refine⟨_,(YM (@iK _ _ _ _ _ _ _ _ _ _ _ _ _ _ _ (3) _ _ (by exact rfl) fS.nd Zv (by exact rfl) (show bh ["trails","worth","pairs","ends","way","row"] (ar e_) _ ["pair"] [0,1] ["trails","worth"]from⟨rfl,by decide+kernel,by decide+kernel,by decide+kernel,rfl,rfl,by decide+kernel,by decide+kernel,by decide+kernel⟩) (Β K (pv 2)) (fun _ _ _ _ _=>(Z1 (0) (show(["pair","trails","worth"]:List Str).Nodup by decide+kernel))) (fun _ _ _ _ _=>(@Bs _ _ _ (Zk jv (Z6 (Z6 (Ν K ZC) (Ζ (bT K) (pv 0) ai)) (Ζ (bT K) (pv 0) ai)) (pv 2) (aV _)))) (fun _ _ _ _ _=>(pv 0)) (ZA) (by intro _;rfl)) (YM (Z0 (4) fS.nd (Ρ Xd fR aO (Z2 (Z6 (pv 3) ai)))) (YM (@iK _ _ _ _ _ _ _ _ _ _ _ _ _ _ _ (5) _ _ (by exact rfl) fS.nd Zv (by exact rfl) (show bh ["trails","worth","pairs","ends","way","row"] (ar e_) _ ["i","j"] [0] ["trails"]from⟨rfl,by decide+kernel,by decide+kernel,by decide+kernel,rfl,rfl,by decide+kernel,by decide+kernel,by decide+kernel⟩) (Β K (pv 4)) (fun _ _ _ _ _=>(η K (2) (by exact rfl) (Zz (Z1 (0) (show(["i","j","trails"]:List Str).Nodup by decide+kernel)) (Zz (Z1 (1) (show(["i","j","trails"]:List Str).Nodup by decide+kernel)) fJ)))) (fun _ _ _ _ _=>fL) (fun _ _ _ _ _=>(Z6 (Z6 (Ν K (pv 2)) (pv 0)) (pv 1))) (ZA) (by intro _;rfl)) (WX (ZS (@su _ _ _ _ _ _ _ _ _ _ _ _ _ _ kT (hr.mono (U7)) hX.pass (Z_ ZC (Z_ (pv 4) (μ (pv 5)))) (ZA) (U7) (ZA) (ZA))))))),?_⟩;have Ii:us.length=ps.length:=by have:=PS.1;simpa using this
  refine⟨fun σ H1=>∃D vs,σ=[some (.ref x),some (.int w),some (.ref pr),some (.ref D),none,none]∧ax H H1∧H1 D=some (.lst vs)∧gK H1 vs ((ps.filter fun q=>decide (dG f1 o p q.1 q.2=some w)).map aR),?_,?_⟩
  ·refine⟨_,rfl,pr,rfl,⟨_, .of B8⟩,fun D hD=>?_⟩;refine fv (xs:=us) (fun k ys bj H'=>(∃u,bj=[u,some (.ref x),some (.int w)])∧gK H ys (((ps.take k).filter fun q=>decide (dG f1 o p q.1 q.2=some w)).map aR)∧H' D=some (.lst ys)∧ax H H'∧ys.length≤k) ⟨⟨_,rfl⟩, .nil,ae,ZF hD,Wv⟩ ?_ ?_ ?_
   ·rintro k ys bj H' _ ⟨_,_,_,s1,_⟩;exact .of (s1 _ _ B8)
   ·rintro k v ys bj H' hv ⟨⟨u,rfl⟩,P1,rX,s1,lb⟩;have hk:k<ps.length:=by rw[←Ii];exact(Z' hv).1
    have ek:ps[k]?=some ps[k]:=by simp[hk]
    have hm:=lI ps[k] (List.getElem_mem hk);generalize ps[k]=g at ek hm;obtain⟨t,k1,k2⟩:=PS.2 k (aR g) (by rw[List.getElem?_map,ek];rfl);rw[hv]at k1;cases k1;have T1:=TR.keep s1;have kt:=s1 _ _ k2;obtain⟨rb,g1,g2,g3⟩:=T1.te.at hm.1;have et:ps.take (k+1)=ps.take k++[g]:=by rw[List.take_succ,ek];rfl
    refine⟨_,rfl,x,aA,dx,_,_,rfl,T1.ob,Rc.cl,Rc.kH,il o p e b,_,rfl,t,_,_,_,rfl,rfl, .of kt,YL (j:=0),e,_,_,_,rfl,rfl, .of T1.he,au g2,_,rfl,t,_,_,_,rfl,rfl, .of kt,YL (j:=1),rb,_,_,_,rfl,rfl, .of g3,au (dj hm.2),?_⟩;have JC:decide (bC (dG f1 o p g.1 g.2)=V.int w)=decide (dG f1 o p g.1 g.2=some w):=by cases dG f1 o p g.1 g.2<;>simp[bC]
    refine⟨_,rfl,by cases dG f1 o p g.1 g.2<;>rfl,_,rfl,?_⟩;rw[JC];refine bf (fun hh=>?_) (fun hh=>?_)
    ·refine⟨_,rfl,rX,a9 Mm,⟨_,rfl⟩,?_,ae,s1.eI hD,by simp;lia⟩;rw[et,List.filter_append,List.map_append];refine P1.append ?_;rw[show[g].filter (fun q=>decide (dG f1 o p q.1 q.2=some w))=[g] by rw[List.filter_cons,U6 hh];rfl];exact⟨rfl,fun k3 g3 QV=>by
      have Yh:k3=0:=by
       have:=(Z' QV).1;simp at this
       lia
      subst Yh;have QV:aR g=g3:=by simpa using QV
      subst QV;exact⟨t,rfl,k2⟩⟩
    ·have hh:decide (dG f1 o p g.1 g.2=some w)=false:=by simpa using hh
     refine⟨⟨_,rfl⟩,?_,rX,s1,by lia⟩;rw[et,List.filter_append,show[g].filter (fun q=>decide (dG f1 o p q.1 q.2=some w))=[] by rw[List.filter_cons,hh];rfl,List.append_nil];exact P1
   ·rintro ys bj H' ⟨_,P1,rX,s1,_⟩;rw[Ii,List.take_length]at P1;exact⟨D,ys,rfl,s1,rX,P1.same s1⟩
  rintro σ H1 ⟨D,vs,rfl,s1,rX,P1⟩;obtain⟨t0,k1,k2⟩:=P1.2 0 (aR q0) (by rw[List.getElem?_map,h0];rfl);have Ij:q0.1<n∧q0.2<m:=lI q0 (List.mem_filter.mp (ZO h0)).1;refine⟨fun σ H2=>∃wy iz,σ=[some (.ref x),some (.int w),some (.ref pr),some (.ref D),some (.ref wy),none]∧ax H1 H2∧H1 wy=none∧H2 wy=some (.lst iz)∧gK H2 iz ((eK f1 o p q0.1 q0.1 q0.2).map aR),?_,?_⟩
  ·have T1:=TR.keep s1;exact⟨_,rfl,x,dx,_,rfl,T1.ob,OJ o p e b,_,rfl,D,_,_,_,rfl,rfl, .of rX,au (j:=0) k1,x,dx,e,b,es,bs,f1,o,p,n,m,t0,q0.1,q0.2,rfl,T1,k2,Ij.1,Ij.2,hn,fun H2 wy iz s2 h2 h3 P2=>⟨wy,iz,rfl,s2,h2,h3,P2⟩⟩
  rintro σ H2 ⟨wy,iz,rfl,s2,TC,DM,P2⟩;have AV:=P2.1;rw[List.length_map]at AV;have NV:(eK f1 o p q0.1 q0.1 q0.2).length≤1001:=by
   have:=y4 (f:=f1) (o:=o) (p:=p) q0.1 q0.1 q0.2
   lia
  have Pa:=BV (f:=f1) (o:=o) (p:=p) q0.1 q0.1 q0.2 Ij.1 Ij.2;generalize eK f1 o p q0.1 q0.1 q0.2=W at P2 AV NV Pa q;refine⟨fun σ H3=>∃r,σ=[some (.ref x),some (.int w),some (.ref pr),some (.ref D),some (.ref wy),some (.ref r)]∧ax H2 H3∧H2 r=none∧H3 r=some (.lst (W.map fun q=>bC (dG f1 o p q.1 q.2))),?_,?_⟩
  ·refine⟨_,rfl,wy,rfl,⟨_, .of DM⟩,fun D2 l0=>?_⟩;refine fv (xs:=iz) (fun k ys bj H'=>(∃u v,bj=[u,v,some (.ref x)])∧ys=(W.take k).map (fun q=>bC (dG f1 o p q.1 q.2))∧H' D2=some (.lst ys)∧ax H2 H') ⟨⟨_,_,rfl⟩,rfl,ae,ZF l0⟩ ?_ ?_ ?_
   ·rintro k ys bj H' _ ⟨_,_,_,s3⟩;exact .of (s3 _ _ DM)
   ·rintro k v ys bj H' hv ⟨⟨u,v2,rfl⟩,rfl,Dn,s3⟩;have hk:k<W.length:=by rw[←AV];exact(Z' hv).1
    have ek:W[k]?=some W[k]:=by simp[hk]
    have hm:=Pa W[k] (List.getElem_mem hk);generalize W[k]=g at ek hm;obtain⟨t,k1,k2⟩:=P2.2 k (aR g) (by rw[List.getElem?_map,ek];rfl);rw[hv]at k1;cases k1;have T3:=TR.keep (s1.trans (s2.trans s3));have kt:=s3 _ _ k2;obtain⟨rb,g1,g2,g3⟩:=T3.te.at hm.1;refine⟨t,_,rfl, .of kt,rfl,_,_,rfl,_,_,rfl,rfl,?_⟩;refine sr ?_;refine⟨_,rfl,x,aA,dx,_,_,rfl,T3.ob,Rc.cl,Rc.kH,il o p e b,_,rfl,e,_,_,_,rfl,rfl, .of T3.he,au g2,_,rfl,rb,_,_,_,rfl,rfl, .of g3,au (dj hm.2),?_⟩;refine⟨Dn,a9 (by rw[List.length_map,List.length_take];lia),⟨_,_,rfl⟩,?_,ae,s3.eI l0⟩;rw[List.take_succ,ek];simp
   ·rintro ys bj H' ⟨_,rfl,Dn,s3⟩;rw[AV,List.take_length]at Dn;exact⟨D2,rfl,s3,l0,Dn⟩
  rintro σ H3 ⟨r,rfl,s3,rG,xr⟩;refine⟨_,rfl,_,rfl,_,rfl,_,rfl,fun y dy hy L5 eX=>?_⟩;have s4:ax H3 (upd (upd H3 dy (.own y)) y (.ins ay dy [])):=(ZF L5).eI hy;refine⟨y,dy,wy,r,pr,w,rfl,ae,?_⟩;refine⟨rfl,?_⟩;rw[gc];have s5:ax H3 (upd (upd H3 dy (.own y)) y (.ins ay dy (m8 w wy r pr))):=(ZF L5).eI hy;have sH:=s1.trans (s2.trans s3);exact q _ y dy wy r iz (sH.trans s5) (sH.free hy) (sH.free L5) (s1.free TC) ((s1.trans s2).free rG) ae (by rw[ak eX];exact ae) (s5 _ _ (s3 _ _ DM)) (P2.same (s3.trans s5)) (s5 _ _ xr)
variable(Gc:OL K aI)
theorem nY:aM ["self"] ["self"] (ar gm):=⟨rfl,rfl,rfl,by decide+kernel,rfl,by decide+kernel,by decide+kernel⟩
include T Gc in
theorem nZ{f:Addr}{fd:FuncData}(F:iB K "__init__" "Groups.__init__" gm f fd):a7 P w K mg base (cW P w) true 1 f fd ["self"] (tM aI):=by
 refine F.gM nY ZQ (fun bS A outer s H vs Q E hr h hX=>?_)
 ·obtain⟨x,dx,rfl,_⟩:=h;rfl
 ·obtain⟨x,dx,rfl,hx,q⟩:=h;refine⟨_,(Xc (Μ K Xd j_) (WX (Μ K Xd j_))),?_⟩;have a1:=aX "leads" (.ref 0) [];simp only[List.length_nil]at a1;refine fun dl QW=>?_
  have n1:x≠dl:=aE hx QW;refine⟨_,rfl,x,aI,dx,_,rfl,by rw[ak n1];exact hx,Gc.cl,Gc.oY,U7,?_⟩;refine fun dm JD=>?_
  have n2:x≠dm:=fun z=>by rw[z,ae]at JD;cases JD
  have Ik:upd H dl (.dT []) dm=none:=by rw[ak (Ne.symm n2)]at JD;exact JD
  have n3:dm≠dl:=fun z=>by rw[z,ae]at Ik;cases Ik
  have Pb:H dm=none:=by rw[ak n3]at Ik;exact Ik
  refine⟨_,rfl,x,aI,dx,_,rfl,by rw[ak n2,ae],Gc.cl,Gc.members,by have:=aX "leads" (.ref dl) [];simp at this;lia,?_⟩;rw[OM];refine q _ (fun a=>a=dl∨a=dm) ?_ ?_ ?_
  ·exact fun b u hb e=>by
    rw[ak hb,ak (aE e Pb),ak hb,ak (aE e QW)];exact e
  ·rintro a (rfl|rfl)
   ·exact QW
   ·exact Pb
  ·refine⟨dx,dl,dm,[],[],fun _=>none,fun _=>none,ae,fun z=>z.elim n1 n2,⟨?_,?_, .inl rfl, .inr rfl,Ne.symm n3,fun p=>rfl,fun p=>rfl,fun p q a e=>(by cases e),fun kv h=>(by cases h), .nil,fun l ms e=>(by cases e),fun p l e=>(by cases e),fun l ms e=>(by cases e)⟩,fun a b=>⟨False.elim,fun⟨l,e,_⟩=>(by cases e)⟩,Nat.le_refl _,Nat.le_refl _⟩
   ·rw[ak (Ne.symm n1),ak (Ne.symm n3),ak (Ne.symm n1),ae]
   ·rw[ak (Ne.symm n2),ae]
theorem uQ:aM ["self","pair"] ["self","pair"] (ar iO):=⟨rfl,rfl,rfl,by decide+kernel,rfl,by decide+kernel,by decide+kernel⟩
include T Gc in
theorem uR{f:Addr}{fd:FuncData}(F:iB K "has" "Groups.has" iO f fd):a7 P w K mg base (cW P w) true 1 f fd ["self","pair"] (AH aI):=by
 refine F.gM uQ ZQ (fun bS A outer s H vs Q E hr h hX=>?_)
 ·obtain⟨x,t,p,S,E1,B,rfl,_⟩:=h;rfl
 ·obtain⟨x,t,p,S,E1,B,rfl,G,ht,q⟩:=h;have hu:=hr.units;have hu:(A.deeper (Ψ "Groups.has" (ar iO) f bS)).units+1<cLine:=by lia
  refine⟨_,(WX (ZS (@zN _ _ _ _ _ _ (@qj _ _ _ _ _ hu ZC (ZW K)) (by first|exact bo _ (U7) (U7)|rfl)))),?_⟩;obtain⟨dg,dl,dm,kl,km,ld,mm,hg,F_,D,hE,QX,MO⟩:=G;refine⟨_,rfl,_,rfl,x,aI,dg,_,_,rfl,hg,Gc.cl,Gc.oY,jE dl dm,dl,_,rfl, .t (k:=bb p) D.hl ht,q _ ?_⟩;rw[hE];have:=D.lv p;cases e:ld p with
  |none=>
   rw[e]at this;have this:bx kl (bb p)=none:=this;rw[this];simp
  |some l=>
   rw[e]at this;obtain⟨t2,h1,_⟩:=this;rw[h1];simp
theorem pe:aM ["self","pair"] ["self","pair"] (ar fz):=⟨rfl,rfl,rfl,by decide+kernel,rfl,by decide+kernel,by decide+kernel⟩
include T Gc in
theorem ph{f:Addr}{fd:FuncData}(F:iB K "take_in" "Groups.take_in" fz f fd):a7 P w K mg base (cW P w) true 1 f fd ["self","pair"] (xf aI):=by
 refine F.gM pe ZQ (fun bS A outer s H vs Q E hr h hX=>?_)
 ·obtain⟨x,t,p,S,E1,B,rfl,_⟩:=h;rfl
 ·obtain⟨x,t,p,S,E1,B,rfl,G,ht,hB,q⟩:=h;have hu:=hr.units;have hu:(A.deeper (Ψ "Groups.take_in" (ar fz) f bS)).units+1<cLine:=by lia
  refine⟨_,(WX (Zr (Χ (@vG _ _ _ _ _ hu ZC (ZW K))) (Xc (@kz _ _ _ _ _ _ _ _ _ hu (ZW K) (pv 1) (pv 1) (by exact rfl)) (WX (@kz _ _ _ _ _ _ _ _ _ hu (ZW K) (pv 1) (@bR _ _ _ _ (Z2 ZC)) (by exact rfl)))) aQ)),?_⟩;obtain⟨dg,dl,dm,kl,km,ld,mm,hg,F_,D,hE,QX,MO⟩:=id G;refine⟨_,rfl,_,rfl,x,aI,dg,_,_,rfl,hg,Gc.cl,Gc.oY,jE dl dm,dl,_,rfl, .t (k:=bb p) D.hl ht,_,rfl,?_⟩;have lv:=D.lv p;cases e:ld p with
  |some l=>
   rw[e]at lv;obtain⟨t2,h1,_⟩:=lv;rw[h1];refine f_ ?_;refine q H S (.same (.refl H)) (G.iff (fun a b=>?_) (by lia));unfold Jt;refine⟨fun z=>z.elim id ?_, .inl⟩;rintro⟨rfl,rfl⟩;rw[hE];exact⟨l,e,e⟩
  |none=>
   rw[e]at lv;have lv:bx kl (bb p)=none:=lv;rw[lv];refine jV ?_;have nx:x≠dl:=fun z=>F_ (z▸D.sl)
   have QY:x≠dm:=fun z=>F_ (z▸D.sm)
   have TK:t≠dl:=fun z=>by rw[z,D.hl]at ht;cases ht
   have aaD:t≠dm:=fun z=>by rw[z,D.hm]at ht;cases ht
   refine⟨_,rfl,_,rfl,x,aI,dg,_,_,rfl,hg,Gc.cl,Gc.oY,jE dl dm,_,rfl,dl,_,rfl, .t (k:=bb p) D.hl ht (a9 Mm),?_⟩;refine⟨_,rfl,aF V9,fun a ha=>?_⟩;have na:a≠dl:=fun z=>by rw[z,ae]at ha;cases ha
   have DL:H a=none:=by rw[ak na]at ha;exact ha
   have O5:x≠a:=aE hg DL;have VN:dm≠a:=aE D.hm DL;have Yi:t≠a:=aE ht DL;refine⟨_,rfl,x,aI,dg,_,_,rfl,by rw[ak O5,ak nx];exact hg,Gc.cl,Gc.members,iZ dl dm,_,rfl,dm,_,rfl, .t (k:=bb p) (by rw[ak VN,ak (Ne.symm D.ne)];exact D.hm) (by rw[ak Yi,ak TK];exact ht) (a9 Mm),?_⟩;refine q _ (fun y=>S y∨y=a) ⟨fun y hy=>hy.imp id (fun z=>by rw[z];exact DL),fun b o hb eb=>?_⟩ ?_
   ·rw[ak (fun z:b=dm=>hb (by rw[z];exact D.sm)),ak (aE eb DL),ak (fun z:b=dl=>hb (by rw[z];exact D.sl))];exact eb
   refine⟨dg,dl,dm,_,_,_,_,by rw[ak QY,ak O5,ak nx];exact hg,fun z=>z.elim F_ O5,D.take (t:=t) (a:=a) e ht DL ?_ ae ?_ ?_,fun a1 b1=>?_,?_,?_⟩
   ·rw[ak D.ne,ak (Ne.symm na),ae]
   ·rw[ak (Ne.symm VN),ae]
   ·intro b o h1 h2 eb;rw[ak h2,ak (aE eb DL),ak h1];exact eb
   ·unfold Jt;rw[hE];constructor
    ·rintro(⟨l,h1,h2⟩|⟨z1,z2⟩)
     ·exact⟨l,by rw[Sn (fun z=>by rw[z,e]at h1;cases h1)];exact h1,by rw[Sn (fun z=>by rw[z,e]at h2;cases h2)];exact h2⟩
     ·exact⟨p,by rw[U6 z1],by rw[U6 z2]⟩
    ·rintro⟨l,h1,h2⟩;by_cases z1:a1=p
     ·by_cases z2:b1=p
      ·exact .inr ⟨z1,z2⟩
      ·rw[U6 z1]at h1;rw[Sn z2]at h2;cases h1;obtain⟨ms,DG⟩:=D.ml _ _ h2;have:=D.self _ _ DG;rw[e]at this;cases this
     ·rw[Sn z1]at h1;by_cases z2:b1=p
      ·rw[U6 z2]at h2;cases h2;obtain⟨ms,DG⟩:=D.ml _ _ h1;have:=D.self _ _ DG;rw[e]at this;cases this
      ·rw[Sn z2]at h2;exact .inl ⟨l,h1,h2⟩
   ·exact Nat.le_trans (eZ _ _ _) (by lia)
   ·exact Nat.le_trans (eZ _ _ _) (by lia)
theorem cF:aM ["self","pair","other","lead","gone","moved","member"] ["self","pair","other"] (ar fe):=⟨rfl,rfl,rfl,by decide+kernel,rfl,by decide+kernel,by decide+kernel⟩
include T Gc in
theorem r6{f:Addr}{fd:FuncData}(F:iB K "unite" "Groups.unite" fe f fd):a7 P w K mg base (cW P w) true 1 f fd ["self","pair","other"] (tN aI):=by
 refine F.gM cF ZQ (fun bS A outer s H vs Q E hr h hX=>?_)
 ·obtain⟨x,t,u,p,q,S,E1,B,rfl,_⟩:=h;rfl
 ·obtain⟨x,t,u,p,q,S,E1,B,rfl,G,ht,QL,hp,hq,hB,qq⟩:=h;have hu:=hr.units;have JE:(A.deeper (Ψ "Groups.unite" (ar fe) f bS)).units<cLine:=by lia
  have hu:(A.deeper (Ψ "Groups.unite" (ar fe) f bS)).units+1<cLine:=by lia
  refine⟨_,(YM (Z0 (3) cF.nd (ι hu ZC (fun _ _=>rfl))) (YM (Z0 (4) cF.nd (ι hu (pv 2) (fun _ _=>rfl))) (WX (Zr (Zk (Dd K JE) (pv 3) (pv 4) (aV _)) (YM (Zr (Zk mY (Z7 (aL K) T.cX (Z2 (ι hu (pv 3) (fun _ _=>rfl)))) (Z7 (aL K) T.cX (Z2 (ι hu (pv 4) (fun _ _=>rfl)))) (aV _)) (YM (Z0 (3) cF.nd (ι hu (pv 2) (fun _ _=>rfl))) (WX (Z0 (4) cF.nd (ι hu ZC (fun _ _=>rfl))))) aQ) (YM (Z0 (5) cF.nd (@EW _ _ _ _ _ _ _ hu (ZW K) (pv 4) ⟨rfl,rfl,rfl,rfl⟩)) (YM (Α hX.own (Β K (pv 5)) (Z1 (6) cF.nd) (WX (@kz _ _ _ _ _ _ _ _ _ hu (ZW K) (pv 6) (pv 3) (by exact rfl)))) (WX (Zt (Λ K PySem.F.slot_list_extend PySem.F.type_list_extend vH (ι hu (pv 3) (fun _ _=>rfl)) (Z2 (pv 5)))))))) aQ)))),?_⟩;obtain⟨dg,dl,dm,kl,km,ld,mm,hg,F_,D,hE,QX,MO⟩:=id G;obtain⟨l,JF,_⟩:=(hE p p).mp hp;obtain⟨g,JG,_⟩:=(hE q q).mp hq;obtain⟨tl,vl,y8⟩:∃tl,bx kl (bb p)=some (.ref tl)∧H tl=some (.tup (jA l)):=by have:=D.lv p;rw[JF]at this;exact this
  obtain⟨tg,vg,MP⟩:∃tg,bx kl (bb q)=some (.ref tg)∧H tg=some (.tup (jA g)):=by have:=D.lv q;rw[JG]at this;exact this
  refine⟨fun σ H1=>H1=H∧σ=[some (.ref x),some (.ref t),some (.ref u),some (.ref tl),none,none,none],⟨_,rfl,x,aI,dg,_,_,rfl,hg,Gc.cl,Gc.oY,jE dl dm,_,rfl,dl,_,rfl,by have:=j9.t (k:=bb p) D.hl ht;rw[vl]at this;exact this,rfl,rfl⟩,?_⟩;rintro σ H1 ⟨rfl,rfl⟩;refine⟨fun σ H2=>H2=H1∧σ=[some (.ref x),some (.ref t),some (.ref u),some (.ref tl),some (.ref tg),none,none],⟨_,rfl,x,aI,dg,_,_,rfl,hg,Gc.cl,Gc.oY,jE dl dm,_,rfl,dl,_,rfl,by have:=j9.t (k:=bb q) D.hl QL;rw[vg]at this;exact this,rfl,rfl⟩,?_⟩;rintro σ H2 ⟨rfl,rfl⟩;refine⟨_,rfl,_,rfl,tl,tg,_,_,rfl,rfl, .of y8, .of MP,rfl,rfl,_,rfl,?_⟩;rw[wY];by_cases B1:l=g
  ·rw[decide_eq_true B1];refine f_ ?_;refine qq _ (.same (.refl _)) (G.iff (fun a b=>?_) (Nat.le_refl _));subst B1;unfold qD;rw[hE,hE,hE,hE,hE,JF,JG];constructor
   ·rintro(z|⟨z1,z2⟩)
    ·exact z
    ·have y1:ld a=some l:=by rcases z1 with⟨y,h1,h2⟩|⟨y,h1,h2⟩<;>(cases h2;exact h1)
     have y2:ld b=some l:=by rcases z2 with⟨y,h1,h2⟩|⟨y,h1,h2⟩<;>(cases h2;exact h1)
     exact⟨l,y1,y2⟩
   ·exact .inl
  rw[decide_eq_false B1];refine jV ?_;obtain⟨m1,DO⟩:=D.ml p l JF;obtain⟨m2,Il⟩:=D.ml q g JG;obtain⟨al,lr,Pc,B2,P1,_⟩:∃a us,bx km (bb l)=some (.ref a)∧H2 a=some (.lst us)∧gK H2 us m1∧S a:=by have:=D.mv l;rw[DO]at this;exact this
  obtain⟨ag,iz,QZ,Im,P2,_⟩:∃a us,bx km (bb g)=some (.ref a)∧H2 a=some (.lst us)∧gK H2 us m2∧S a:=by have:=D.mv g;rw[Il]at this;exact this
  have gl:∀{tt:Addr}{r:Pr},H2 tt=some (.tup (jA r))→j9 H2 dm (.ref tt) (bx km (bb r)):=fun h=>j9.t (k:=bb _) D.hm h
  have VO:∀{tt:Addr}{r:Pr},H2 tt=some (.tup (jA r))→j9 H2 dl (.ref tt) (bx kl (bb r)):=fun h=>j9.t (k:=bb _) D.hl h
  refine⟨fun σ H3=>H3=H2∧∃l g tl tg p' q',σ=[some (.ref x),some (.ref t),some (.ref u),some (.ref tl),some (.ref tg),none,none]∧l≠g∧H2 tl=some (.tup (jA l))∧H2 tg=some (.tup (jA g))∧ld p'=some l∧ld q'=some g∧∀a b,qD E1 p q a b↔qD E1 p' q' a b,?_,?_⟩
  ·refine⟨_,rfl,x,aI,dg,_,_,rfl,hg,Gc.cl,Gc.members,iZ dl dm,_,rfl,dm,_,rfl,by have:=gl y8;rw[Pc]at this;exact this,al,_,rfl, .inl (.of B2),?_⟩;refine⟨_,rfl,x,aI,dg,_,_,rfl,hg,Gc.cl,Gc.members,iZ dl dm,_,rfl,dm,_,rfl,by have:=gl MP;rw[QZ]at this;exact this,ag,_,rfl, .inl (.of Im),?_⟩;refine⟨_,_,rfl,rfl,_,rfl,?_⟩;refine bf (fun _=>?_) (fun _=>?_)
   ·refine⟨fun σ H3=>H3=H2∧σ=[some (.ref x),some (.ref t),some (.ref u),some (.ref tg),some (.ref tg),none,none],⟨_,rfl,x,aI,dg,_,_,rfl,hg,Gc.cl,Gc.oY,jE dl dm,_,rfl,dl,_,rfl,by have:=VO QL;rw[vg]at this;exact this,rfl,rfl⟩,?_⟩;rintro σ H3 ⟨rfl,rfl⟩;refine⟨_,rfl,x,aI,dg,_,_,rfl,hg,Gc.cl,Gc.oY,jE dl dm,_,rfl,dl,_,rfl,by have:=VO ht;rw[vl]at this;exact this,rfl,g,l,tg,tl,q,p,rfl,Ne.symm B1,MP,y8,JG,JF,fun a b=>De⟩
   ·exact⟨rfl,l,g,tl,tg,p,q,rfl,B1,y8,MP,JF,JG,fun a b=>Iff.rfl⟩
  rintro σ H3 ⟨rfl,l,g,tl,tg,p',q',rfl,B1,y8,MP,JF,JG,Yj⟩;obtain⟨m1,DO⟩:=D.ml p' l JF;obtain⟨m2,Il⟩:=D.ml q' g JG;obtain⟨al,lr,Pc,B2,P1,VP⟩:∃a us,bx km (bb l)=some (.ref a)∧H3 a=some (.lst us)∧gK H3 us m1∧S a:=by have:=D.mv l;rw[DO]at this;exact this
  obtain⟨ag,iz,QZ,Im,P2,aaf⟩:∃a us,bx km (bb g)=some (.ref a)∧H3 a=some (.lst us)∧gK H3 us m2∧S a:=by have:=D.mv g;rw[Il]at this;exact this
  have ZG:al≠ag:=fun z=>B1 (D.inj l g al Pc (by rw[QZ,z]))
  have l1:=D.sT (D.ms l m1 DO).1 (fun r hr=>⟨l,((D.ms l m1 DO).2 r).mp hr⟩);have l2:=D.sT (D.ms g m2 Il).1 (fun r hr=>⟨g,((D.ms g m2 Il).2 r).mp hr⟩);have nx:x≠dl:=fun z=>F_ (by rw[z];exact D.sl)
  have QY:x≠dm:=fun z=>F_ (by rw[z];exact D.sm)
  have Pd:al≠dl:=fun z=>by rw[z,D.hl]at B2;cases B2
  have Pe:al≠dm:=fun z=>by rw[z,D.hm]at B2;cases B2
  have Pf:ag≠dl:=fun z=>by rw[z,D.hl]at Im;cases Im
  have L6:ag≠dm:=fun z=>by rw[z,D.hm]at Im;cases Im
  have AV:=P2.1;refine⟨fun σ H4=>H4=upd H3 dm (.dT (i7 km (bb g)))∧σ=[some (.ref x),some (.ref t),some (.ref u),some (.ref tl),some (.ref tg),some (.ref ag),none],?_,?_⟩
  ·exact⟨_,rfl,x,aI,dg,_,_,rfl,hg,Gc.cl,Gc.members,iZ dl dm,dm,rfl, .inr ⟨km, .of D.hm⟩,_,rfl,dm,tg,km,bb g,_,rfl,rfl,D.hm,MP,QZ,rfl,rfl⟩
  rintro σ H4 ⟨rfl,rfl⟩;refine⟨fun σ H5=>(∃w,σ=[some (.ref x),some (.ref t),some (.ref u),some (.ref tl),some (.ref tg),some (.ref ag),w])∧∃uL,H5 dl=some (.dT uL)∧uL.length≤B∧(∀r,bx uL (bb r)=if r∈m2 then some (.ref tl)else bx kl (bb r))∧SameBut dl (upd H3 dm (.dT (i7 km (bb g)))) H5,?_,?_⟩
  ·refine⟨_,rfl,ag,rfl,⟨_, .of (by rw[ak L6];exact Im)⟩,?_⟩;refine bU (xs:=iz) (fun i σ H5=>(∃w,σ=[some (.ref x),some (.ref t),some (.ref u),some (.ref tl),some (.ref tg),some (.ref ag),w])∧∃uL,H5 dl=some (.dT uL)∧uL.length≤B∧(∀r,bx uL (bb r)=if r∈m2.take i then some (.ref tl)else bx kl (bb r))∧SameBut dl (upd H3 dm (.dT (i7 km (bb g)))) H5) ?_ ?_ ?_ ?_
   ·exact⟨⟨_,rfl⟩,kl,by rw[ak D.ne];exact D.hl,QX,fun r=>Wv, .refl⟩
   ·rintro i σ H5 _ ⟨_,uL,_,_,_,s5⟩;exact .of (s5 _ _ Pf (by rw[ak L6];exact Im))
   ·rintro i v σ H5 hv ⟨⟨w,rfl⟩,uL,h5,MQ,L7,s5⟩;have hi:i<m2.length:=by rw[←AV];exact(Z' hv).1
    have ei:m2[i]?=some m2[i]:=by simp[hi]
    have jb:m2[i]∈m2:=List.getElem_mem hi;generalize m2[i]=r0 at ei jb;obtain⟨tr,k1,k2⟩:=P2.2 i r0 ei;rw[hv]at k1;cases k1;have VI:tr≠dl:=fun z=>by rw[z,D.hl]at k2;cases k2
    have TL:tr≠dm:=fun z=>by rw[z,D.hm]at k2;cases k2
    have k5:=s5 tr _ VI (by rw[ak TL];exact k2);have g5:=s5 x _ nx (by rw[ak QY];exact hg);refine⟨_,rfl,_,rfl,x,aI,dg,_,_,rfl,g5,Gc.cl,Gc.oY,jE dl dm,_,rfl,dl,_,rfl, .t (k:=bb r0) h5 k5 (a9 Mm),⟨_,rfl⟩,_,ae,?_,fun r=>?_,s5.upd⟩
    ·have lI:bx uL (bb r0)≠none:=by
      rw[L7];split
      ·simp
      ·have:=D.lv r0;rw[((D.ms g m2 Il).2 r0).mp jb]at this;obtain⟨t0,z,_⟩:=this;rw[z];simp
     have:(putK uL (bb r0) (.ref tl)).length=uL.length:=by
      unfold putK;rw[ij,U6 (by cases z:bx uL (bb r0)<;>simp_all),List.length_map]
     lia
    ·rw[i8,L7];have et:m2.take (i+1)=m2.take i++[r0]:=by rw[List.take_succ,ei];rfl
     rw[et];by_cases e:r=r0
     ·rw[U6 (by rw[e]),U6 (by simp[e])]
     ·rw[Sn (fun z=>e (du z))];by_cases e2:r∈m2.take i
      ·rw[U6 e2,U6 (by simp[e2])]
      ·rw[Sn e2,Sn (by simp[e,e2])]
   ·rintro σ H5 ⟨⟨w,rfl⟩,uL,h5,MQ,L7,s5⟩;rw[AV,List.take_length]at L7;exact⟨⟨_,rfl⟩,uL,h5,MQ,L7,s5⟩
  rintro σ H5 ⟨⟨w,rfl⟩,uL,h5,MQ,L7,s5⟩;have TK:tl≠dl:=fun z=>by rw[z,D.hl]at y8;cases y8
  have TN:tl≠dm:=fun z=>by rw[z,D.hm]at y8;cases y8
  have g5:=s5 x _ nx (by rw[ak QY];exact hg);have m5:=s5 dm _ (Ne.symm D.ne) ae;have VQ:=s5 al _ Pd (by rw[ak Pe];exact B2);have Yk:=s5 ag _ Pf (by rw[ak L6];exact Im);have Yl:=s5 tl _ TK (by rw[ak TN];exact y8);have vd:bx (i7 km (bb g)) (bb l)=some (.ref al):=by rw[mB,Sn (fun z=>B1 (du z))];exact Pc
  refine⟨_,rfl,x,aI,dg,_,_,rfl,g5,Gc.cl,Gc.members,iZ dl dm,_,rfl,dm, .ref al,rfl,by have:=j9.t (k:=bb l) m5 Yl;rw[vd]at this;exact this, .inl ⟨rfl,_, .of VQ⟩,_,rfl,al,ag,lr,iz,rfl,rfl,VQ,Yk,?_,?_⟩
  ·have:=P1.1;exact aF Mm
  have Ym:x≠al:=fun z=>F_ (by rw[z];exact VP)
  have JH:∀b o,¬S b→H3 b=some o→upd H5 al (.lst (lr++iz)) b=some o:=fun b o hb eb=>by
   rw[ak (fun z=>hb (by rw[z];exact VP))];exact s5 b o (fun z=>hb (by rw[z];exact D.sl)) (by rw[ak (fun z=>hb (by rw[z];exact D.sm))];exact eb)
  refine qq _ ⟨fun _ h=> .inl h,JH⟩ ?_;refine⟨dg,dl,dm,uL,i7 km (bb g),_,_,JH x _ F_ hg,F_,D.OP (tl:=tl) B1 DO Il Pc P1 P2 B2 y8 L7 (by rw[ak (Ne.symm Pd)];exact h5) (by rw[ak (Ne.symm Pe)];exact m5) ae ?_,fun a b=>(Yj a b).trans (LN B1 JF JG (D.ms g m2 Il).2 hE a b),MQ,Nat.le_trans (yv _ _) MO⟩;intro b o h1 h2 h3 eb;rw[ak h3];exact s5 b o h1 (by rw[ak h2];exact eb)
variable(ji:mg "sorted"=none)
theorem t_:aM ["self"] ["self"] (ar hG):=⟨rfl,rfl,rfl,by decide+kernel,rfl,by decide+kernel,by decide+kernel⟩
include T Gc ji in
theorem ua{f:Addr}{fd:FuncData}(F:iB K "told" "Groups.told" hG f fd):a7 P w K mg base (cW P w) true 1 f fd ["self"] (xg aI):=by
 refine F.gM t_ ZQ (fun bS A outer s H vs Q E hr h hX=>?_)
 ·obtain⟨x,S,E1,B,rfl,_⟩:=h;rfl
 ·obtain⟨x,S,E1,B,rfl,G,hB,q⟩:=h;refine⟨_,(WX (ZS (@oK _ _ _ _ _ _ _ _ _ _ _ _ _ _ (by exact rfl) (show bh ["self"] (ar hG) _ ["members"] [] []from⟨rfl,by decide+kernel,by decide+kernel,by decide+kernel,rfl,rfl,by decide+kernel,by decide+kernel,by decide+kernel⟩) (@Hy _ H _ _ _ _ _ (ZW K) (ZA) (ZA) (ZA)) (fun _ _ _ _ _=>(Z1 (0) (show(["members"]:List Str).Nodup by decide+kernel))) (fun _ _ _ _ _=>fL) (fun _ _ _ _ _=>(γ (Az K) ji PyProof.Rows.Boot.«sorted» (Z2 Xd))) (by intro _;rfl)))),?_⟩;obtain⟨dg,dl,dm,kl,km,ld,mm,hg,F_,D,hE,QX,MO⟩:=G;refine⟨_,rfl,x,aI,dg,_,_,rfl,hg,Gc.cl,Gc.members,iZ dl dm,dm,km,rfl,D.hm,fun o nf R hR=>?_⟩;have nR:R≠dm:=fun z=>by rw[z,ae]at hR;cases hR
  have TQ:H R=none:=by rw[ak nR]at hR;exact hR
  refine C9 (fun k ys bj H'=>(∃u,bj=[u])∧(∃gs,gh H' ys gs∧gs.length=k∧∀(i:Nat) ps,gs[i]?=some ps→∃l ms v,km[i]?=some (bb l,v)∧mm l=some ms∧ps.Perm ms∧ps.Pairwise fun p q=>jD p q=true)∧H' R=some (.lst ys)∧(∀b o,b≠dm→H b=some o→H' b=some o)∧H' dm=some (.so o (.dT km))∧∀(i:Nat) a,ys[i]?=some (.ref a)→H a=none∧a≠R) ⟨⟨_,rfl⟩,⟨[], .nil,rfl,fun i ps e=>by simp at e⟩,ae,fun b o hb e=>by rw[ak (aE e TQ),ak hb];exact e,by rw[ak (Ne.symm nR),ae],fun i a e=>by simp at e⟩ ?_ ?_ ?_
  ·rintro k ys bj H' _ ⟨_,_,_,_,h4,_⟩;exact h4
  ·rintro k ⟨key,v⟩ ys bj H' hk ⟨⟨u,rfl⟩,⟨gs,W1,hl,MR⟩,Pg,MS,JD,Ct⟩;obtain⟨l,el⟩:=D.key _ (ZO hk);have el:key=bb l:=el;subst el;have vv:=B0 D.BY hk;have mv:=D.mv l;cases e:mm l with
   |none=>
    rw[e]at mv;have mv:bx km (bb l)=none:=mv;rw[mv]at vv;cases vv
   |some ms=>
    rw[e]at mv;obtain⟨a,us,z1,z2,z3,z4⟩:=mv;rw[vv]at z1;cases z1;obtain⟨nd,DG⟩:=D.ms l ms e;have TU:a≠dm:=fun z=>by rw[z,D.hm]at z2;cases z2
    have T:c7 H H':=fun b v hb=>MS b _ (fun z=>by rw[z,D.hm]at hb;cases hb) hb
    refine lK ?_;refine⟨_,rfl,a,us,ms,rfl, .of (MS _ _ TU z2),z3.cC T,nd,by have:=D.sT nd (fun p hp=>⟨l,(DG p).mp hp⟩);lia,fun D2 VR qs l0 P2 perm pw=>?_⟩;have Q0:D2≠R:=fun z=>by rw[z,Pg]at l0;cases l0
    have VS:D2≠dm:=fun z=>by rw[z,JD]at l0;cases l0
    have Ph:H D2=none:=by
     cases z:H D2 with
     |none=>rfl
     |some o2=>rw[MS D2 o2 VS z]at l0;cases l0
    have VT:=W1.1;have OQ:k<km.length:=(Z' hk).1;refine⟨by rw[ak (Ne.symm Q0)];exact Pg,a9 Mm,⟨_,rfl⟩,⟨gs++[qs],?_,by simp;lia,fun i ps hi=>?_⟩,ae,fun b o hb eb=>?_,?_,fun i a ha=>?_⟩
    ·have W2:gh (upd H' D2 (.lst VR)) ys gs:=W1.same (ZF l0);have W3:gh (upd H' D2 (.lst VR)) (ys++[.ref D2]) (gs++[qs]):=W2.append (.one ae (P2.same (ZF l0)));refine W3.put (fun i e=>?_) (by rw[ak (Ne.symm Q0)];exact Pg);by_cases hi:i<ys.length
     ·rw[Zy hi]at e;exact(Ct i R e).2 rfl
     ·have:=(Z' e).1;have:i=ys.length:=by simp at this;lia
      subst this;simp at e;exact Q0 e
    ·by_cases Gm:i<gs.length
     ·rw[Zy Gm]at hi;exact MR i ps hi
     ·have:=(Z' hi).1;have:i=gs.length:=by simp at this;lia
      subst this;simp at hi;subst hi;exact⟨l,ms,_,by rw[hl];exact hk,e,perm,pw⟩
    ·rw[ak (aE eb TQ),ak (aE eb Ph)];exact MS b o hb eb
    ·rw[ak (Ne.symm nR),ak (Ne.symm VS)];exact JD
    ·by_cases hi:i<ys.length
     ·rw[Zy hi]at ha;exact Ct i a ha
     ·have:=(Z' ha).1;have:i=ys.length:=by simp at this;lia
      subst this;simp at ha;subst ha;exact⟨Ph,Q0⟩
  ·rintro ys bj H' ⟨_,⟨gs,W1,hl,MR⟩,Pg,MS,JD,Ct⟩;refine q _ R ys gs ⟨fun a h=> .inl h,fun b o hb eb=>MS b o (fun z=>hb (by rw[z];exact D.sm)) eb⟩ TQ Pg W1 (fun k a h=>(Ct k a h).1) ?_;have at_:∀ps∈gs,∃l ms,mm l=some ms∧ps.Perm ms∧ps.Pairwise (fun p q=>jD p q=true):=fun ps DE=>by
    obtain⟨i,hi⟩:=List.getElem?_of_mem DE;obtain⟨l,ms,v,_,h2,h3,h4⟩:=MR i ps hi;exact⟨l,ms,h2,h3,h4⟩
   refine⟨fun ps DE=>?_,fun ps DE=>?_,fun ps DE a ha b=>?_,fun a ha=>?_,?_⟩
   ·obtain⟨_,_,_,_,h4⟩:=at_ ps DE
    exact h4
   ·obtain⟨l,ms,h2,h3,_⟩:=at_ ps DE
    intro z;subst z;have:l∈ms:=((D.ms l ms h2).2 l).mpr (D.self l ms h2);have:=h3.mem_iff.mpr this;cases this
   ·obtain⟨l,ms,h2,h3,_⟩:=at_ ps DE
    have ha:=((D.ms l ms h2).2 a).mp (h3.mem_iff.mp ha);rw[h3.mem_iff,(D.ms l ms h2).2,hE,ha];exact⟨fun z=>⟨l,rfl,z⟩,fun⟨y,h,z⟩=>by cases h;exact z⟩
   ·obtain⟨l,h1,_⟩:=(hE a a).mp ha;obtain⟨ms,DG⟩:=D.ml a l h1;have mv:=D.mv l;rw[DG]at mv;obtain⟨aa,us,z1,_⟩:=mv;obtain⟨i,hi⟩:=y6 z1;have gR:i<gs.length:=by rw[hl];exact(Z' hi).1
    obtain⟨l2,Yn,v,h5,h6,h7,_⟩:=MR i gs[i] (by simp[gR]);rw[hi]at h5;have:l=l2:=du (Prod.mk.inj (ZV h5)).1;subst this;refine⟨gs[i],List.getElem_mem gR,h7.mem_iff.mpr ?_⟩;exact((D.ms l Yn h6).2 a).mpr h1
   ·rw[List.pairwise_iff_getElem];intro i j hi hj uC a ha hb;obtain⟨l1,m1,v1,a1,a2,a3,_⟩:=MR i gs[i] (by simp[hi]);obtain⟨l2,m2,v2,b1,b2,b3,_⟩:=MR j gs[j] (by simp[hj]);have ha:=((D.ms l1 m1 a2).2 a).mp (a3.mem_iff.mp ha);have hb:=((D.ms l2 m2 b2).2 a).mp (b3.mem_iff.mp hb);rw[ha]at hb;cases hb;have nd:=D.BY;have h1:(km.map (·.1))[i]?=some (bb l1):=by rw[List.getElem?_map,a1];rfl
    have h2:(km.map (·.1))[j]?=some (bb l1):=by rw[List.getElem?_map,b1];rfl
    have:=(List.getElem?_inj (Z' h1).1 nd).mp (h1.trans h2.symm)
    lia
variable(mI:m3 P w K mg base true 1 "Groups" aI ["self"] [] (tM aI))
variable(Hc:Jw K az)
theorem lB:aM ["self","trails","worth"] ["self","trails","worth"] (ar fg):=⟨rfl,rfl,rfl,by decide+kernel,rfl,by decide+kernel,by decide+kernel⟩
include T mI Hc in
theorem lC{f:Addr}{fd:FuncData}(F:iB K "__init__" "Gathering.__init__" fg f fd):a7 P w K mg base (cW P w) true 3 f fd ["self","trails","worth"] (qE az aI):=by
 refine F.gM lB ZQ (fun bS A outer s H vs Q E hr h hX=>?_)
 ·obtain⟨x,dx,tr,W,rfl,_⟩:=h;rfl
 ·obtain⟨x,dx,tr,W,rfl,hx,q⟩:=h;refine⟨_,(Xc (Μ K Xd (pv 1)) (Xc (Μ K Xd (pv 2)) (Xc (Μ K Xd (@Fq _ _ _ _ _ _ _ _ _ _ _ mI (hr.mono (U7)) hX.pass (ZA) (U7))) (WX (Μ K Xd j_))))),?_⟩;refine⟨_,rfl,_,rfl,x,az,dx,_,rfl,hx,Hc.cl,Hc.tP,U7,?_⟩;refine⟨_,rfl,_,rfl,x,az,dx,_,rfl,ae,Hc.cl,Hc.worth,by have:=aX "trails" (.ref tr) [];simp at this;lia,?_⟩;rw[gc];refine fun g dg hg Q2 eX=>?_
  have Pj:x≠g:=fun z=>by rw[←z,ae]at hg;cases hg
  have TX:x≠dg:=fun z=>by rw[←z,ae]at Q2;cases Q2
  have Pk:H g=none:=by rw[ak (Ne.symm Pj)]at hg;exact hg
  have Pl:H dg=none:=by rw[ak (Ne.symm TX)]at Q2;exact Q2
  refine⟨g,dg,rfl,ae,fun H1 S1 yg TY G1=>⟨rfl,?_⟩⟩;have keep:∀b o,b≠x→H b=some o→H1 b=some o:=fun b o hb e=>yg b o (aE e Pk) (by rw[ak (aE e Pk),ak (aE e Pl),ak hb];exact e)
  have lq:H1 x=some (.ins az dx (bq "worth" (.int W) (bq "trails" (.ref tr) []))):=yg x _ Pj (by rw[ak Pj,ak TX];exact ae);have l2:(bq "worth" (.int W) (bq "trails" (.ref tr) [])).length≤2:=by
   have:=aX "trails" (.ref tr) [];have:=aX "worth" (.int W) (bq "trails" (.ref tr) []);simp at*;lia
  refine⟨_,rfl,x,az,dx,_,rfl,lq,Hc.cl,Hc.groups,by lia,?_⟩;refine fun dk Q3=>?_
  have MT:x≠dk:=fun z=>by rw[←z,ae]at Q3;cases Q3
  have F':H1 dk=none:=by rw[ak (Ne.symm MT)]at Q3;exact Q3
  have T8:H dk=none:=by
   cases e:H dk with
   |none=>rfl
   |some o=>rw[keep dk o (Ne.symm MT) e]at F';cases F'
  refine⟨_,rfl,x,az,dx,_,rfl,by rw[ak MT];exact ae,Hc.cl,Hc.marks,by have:=aX "groups" (.ref g) (bq "worth" (.int W) (bq "trails" (.ref tr) []));lia,?_⟩;rw[LR];have Q4:¬S1 x:=fun z=>by
   have:=TY x z;rw[ak Pj,ak TX,ae]at this;cases this
  have Yo:¬S1 g:=fun z=>by
   have:=TY g z;rw[ae]at this;cases this
  have G2:=G1.nt;have fin:∀b o,b≠x→H1 b=some o→upd (upd (upd H1 x (.ins az dx (bq "groups" (.ref g) (bq "worth" (.int W) (bq "trails" (.ref tr) []))))) dk (.dT [])) x (.ins az dx (jZ tr W g dk)) b=some o:=fun b o hb e=>by
   rw[ak hb,ak (aE e F'),ak hb];exact e
  have T9:¬(S1 dk∧NT H1 dk):=fun z=>by
   obtain⟨o,e,_⟩:=z.2;rw[F']at e;cases e
  refine q _ (fun a=>(S1 a∧NT H1 a)∨a=dk) (fun b o hb e=>fin b o hb (keep b o hb e)) (fun a ha=>?_) ⟨dx,g,dk,[],fun a=>S1 a∧NT H1 a,ae,G2.keep (fun a o hs e=>fin a o (fun z=>Q4 (by rw[←z];exact hs.1)) e) (fun b v hb=>fin b _ (fun z=>by rw[z,lq]at hb;cases hb) hb) (fun o e=>fin g o (Ne.symm Pj) e),by rw[ak (Ne.symm MT),ae],fun c=>rfl,Nat.le_refl _,fun a=>Iff.rfl,T9,fun z=>z.elim (fun y=>Q4 y.1) MT,fun z=>z.elim (fun y=>Yo y.1) (fun y=>?_),fun a ha=>?_⟩
  ·rcases ha with ha|ha
   ·have:=TY a ha.1;cases e:H a with
    |none=>rfl
    |some o=>rw[ak (aE e Pk),ak (aE e Pl),ak (fun z=>Q4 (by rw[←z];exact ha.1)),e]at this;cases this
   ·rw[ha];exact T8
  ·obtain⟨ZH,dl,dm,kl,HQ,ld,mm,og,_⟩:=G1;rw[y,F']at og;cases og
  ·rcases ha with⟨h1,o,h2,h3⟩|ha
   ·exact⟨o,fin a o (fun z=>Q4 (by rw[←z];exact h1)) h2,h3⟩
   ·exact⟨_,by rw[ha,ak (Ne.symm MT),ae],fun v=>(Wv)⟩
variable(cO:eJ P w K mg base true 1 aI "unite" ["self","pair","other"] (tN aI))
theorem pj:aM ["self","crossing","pair"] ["self","crossing","pair"] (ar fA):=⟨rfl,rfl,rfl,by decide+kernel,rfl,by decide+kernel,by decide+kernel⟩
include T Hc cO in
theorem px{f:Addr}{fd:FuncData}(F:iB K "mark" "Gathering.mark" fA f fd):a7 P w K mg base (cW P w) true 2 f fd ["self","crossing","pair"] (tQ az aI):=by
 refine F.gM pj ZQ (fun bS A outer s H vs Q E hr h hX=>?_)
 ·obtain⟨x,tc,tp,tr,W,c,r,S,s1,B,M,rfl,_⟩:=h;rfl
 ·obtain⟨x,tc,tp,tr,W,c,r,S,s1,B,M,rfl,G,hc,hp,LO,h0,hB,hM,q⟩:=h;have hu:=hr.units;have hu:(A.deeper (Ψ "Gathering.mark" (ar fA) f bS)).units+1<cLine:=by lia
  refine⟨_,(WX (Zr (Χ (@qj _ _ _ _ _ hu ZC (ZW K))) (WX (Zt (Ρ (ZW K) cO aO (μ (ι hu ZC (fun _ _=>rfl)))))) (WX (@kz _ _ _ _ _ _ _ _ _ hu (ZW K) (pv 1) (pv 2) (by exact rfl))))),?_⟩;obtain⟨dx,g,dk,km,S1,D⟩:=id G;refine⟨_,rfl,_,rfl,x,az,dx,_,_,rfl,D.ob,Hc.cl,Hc.marks,lQ tr W g dk,dk,_,rfl, .t (k:=bb c) D.hk hc,_,rfl,?_⟩;have mv:=D.mv c;cases e:s1.2 c with
  |none=>
   rw[e]at mv;have mv:bx km (bb c)=none:=mv;rw[mv];refine f_ ?_;have hl:=D.len;refine⟨_,rfl,_,rfl,x,az,dx,_,_,rfl,D.ob,Hc.cl,Hc.marks,lQ tr W g dk,_,rfl,dk,_,rfl, .t (k:=bb c) D.hk hc (a9 Mm),?_⟩;obtain⟨u,D'⟩:=D.put (c:=c) hp;refine q _ S u ⟨dx,g,dk,putK km (bb c) (.ref tp),S1,?_⟩;unfold y9;rw[e];exact D'
  |some r0=>
   rw[e]at mv;obtain⟨t0,v0,Yp⟩:=mv;rw[v0];refine jV ?_;obtain⟨dg,dl,dm,kl,HQ,ld,mm,og,_⟩:=id D.gr;refine⟨_,rfl,x,az,dx,_,_,rfl,D.ob,Hc.cl,Hc.groups,i4 tr W g dk,g,dg,_,rfl,og,BX dl dm,_,rfl,x,az,dx,_,_,rfl,D.ob,Hc.cl,Hc.marks,lQ tr W g dk,_,rfl,dk,_,rfl,by have:=j9.t (k:=bb c) D.hk hc;rw[v0]at this;exact this,_,rfl,g,t0,tp,r0,r,S1,s1.1,B,rfl,D.gr,Yp,hp,h0 r0 e,LO,hB,fun H' u G'=>?_⟩;obtain⟨S',S2,u2,D2⟩:=D.QM u G';refine q _ S' u2 ⟨dx,g,dk,km,S2,?_⟩;unfold y9;rw[e];exact⟨D2.ob,D2.gr,D2.hk,D2.mv,by have:=D2.len;lia,D2.sS,D2.BY,D2.nx,D2.ng,D2.nt⟩
variable(cf:eJ P w K mg base true 1 aI "take_in" ["self","pair"] (xf aI))
variable(cj:eJ P w K mg base true 2 az "mark" ["self","crossing","pair"] (tQ az aI))
theorem fm:aM ["self","crossing","pair","later","before"] ["self","crossing","pair"] (ar dI):=⟨rfl,rfl,rfl,by decide+kernel,rfl,by decide+kernel,by decide+kernel⟩
include T bg aY Hc cO cf cj in
theorem l5{f:Addr}{fd:FuncData}(F:iB K "go_over" "Gathering.go_over" dI f fd):a7 P w K mg base (cW P w) true 3 f fd ["self","crossing","pair"] (tR az aI aA):=by
 refine F.gM fm ZQ (fun bS A outer s H vs Q E hr h hX=>?_)
 ·obtain⟨x,tc,tp,tr,dt,e,b,es,bs,f,o,p,n,m,W,i,j,r,S,s1,B,M,H0,rfl,_⟩:=h;rfl
 ·obtain⟨x,tc,tp,tr,dt,e,b,es,bs,f1,o,p,n,m,W,i,j,r,S,s1,B,M,H0,rfl,G,TR,BA,hc,hp,hi,hj,TP,OK,hs,hB,hM,q⟩:=h;have hu:=hr.units;have hu:(A.deeper (Ψ "Gathering.go_over" (ar dI) f bS)).units+1<cLine:=by lia
  refine⟨_,(YM (Z0 (3) fm.nd (ι hu ZC (fun _ _=>rfl))) (YM (Zr (Γ (Ρ (ZW K) bg aO (μ ZC))) (YM (Zt (Ρ (ZW K) cf aO (Z2 (pv 2)))) (WX (Zt (Ρ (ZW K) cO aO (ε (pv 2)))))) aQ) (WX (Α hX.own (Β K (Ρ (ZW K) aY aO (Z2 ZC))) (Z1 (4) fm.nd) (WX (Zt (Ρ Xd cj aO (ε (pv 4))))))))),?_⟩;obtain⟨dx,g,dk,km,S1,D⟩:=id G;obtain⟨tl,vl,y8⟩:∃tl,bx km (bb (aR (i+1,j+1)))=some (.ref tl)∧H tl=some (.tup (jA r)):=by have:=D.mv (aR (i+1,j+1));rw[hs]at this;exact this
  obtain⟨MI,i2,j2,e2,OV⟩:=OK.mr _ _ hs;obtain⟨rfl,rfl⟩:=iM e2;refine⟨fun σ H1=>H1=H∧σ=[some (.ref x),some (.ref tc),some (.ref tp),some (.ref tl),none],⟨_,rfl,x,az,dx,_,_,rfl,D.ob,Hc.cl,Hc.marks,lQ tr W g dk,_,rfl,dk,_,rfl,by have:=j9.t (k:=bb (aR (i+1,j+1))) D.hk hc;rw[vl]at this;exact this,rfl,rfl⟩,?_⟩;rintro σ H1 ⟨rfl,rfl⟩;have T1:=TR.keep BA.same;refine⟨fun σ H2=>σ=[some (.ref x),some (.ref tc),some (.ref tp),some (.ref tl),none]∧∃S',oX S H1 S' H2∧ir H2 az aI x tr W S' (Ju f1 o p i j s1 r) (B+1) M,?_,?_⟩
  ·refine⟨_,rfl,x,az,dx,_,_,rfl,D.ob,Hc.cl,Hc.tP,mE tr W g dk,tr,dt,_,rfl,T1.ob,Jr o p e b,_,rfl,_,rfl,tr,dt,e,b,es,bs,f1,o,p,n,m,tc,tp,i+1,j+1,i,j,rfl,T1,hc,hp,by lia,by lia,hi,hj,_,rfl,?_⟩;unfold Ju;refine bf (fun hh=>?_) (fun hh=>?_)
   ·have hh:=of_decide_eq_true hh;rw[U6 hh];refine⟨fun σ H2=>σ=[some (.ref x),some (.ref tc),some (.ref tp),some (.ref tl),none]∧∃S',oX S H1 S' H2∧ir H2 az aI x tr W S' (Jt s1.1 (aR (i,j)),s1.2) (B+1) M,?_,?_⟩
    ·obtain⟨dg,dl,dm,kl,HQ,ld,mm,og,_⟩:=id D.gr;refine⟨_,rfl,x,az,dx,_,_,rfl,D.ob,Hc.cl,Hc.groups,i4 tr W g dk,g,dg,_,rfl,og,Fu dl dm,_,rfl,g,tp,aR (i,j),S1,s1.1,B,rfl,D.gr,hp,by lia,fun H' LU u G'=>?_⟩;obtain⟨S',S2,u2,D2⟩:=D.QM u G';exact⟨rfl,S',u2,dx,g,dk,km,S2,D2⟩
    rintro σ H2 ⟨rfl,S',u2,G2⟩;obtain⟨Q5,g2,Q6,HQ,S2,D2⟩:=id G2;have T:=u2.cC G.nt;obtain⟨dg,dl,dm,kl,ZI,ld,mm,og,_⟩:=id D2.gr;refine⟨_,rfl,x,az,Q5,_,_,rfl,D2.ob,Hc.cl,Hc.groups,i4 tr W g2 Q6,g2,dg,_,rfl,og,BX dl dm,_,rfl,_,rfl,g2,tp,tl,aR (i,j),r,S2,_,B+1,rfl,D2.gr,T _ _ hp,T _ _ y8, .inr ⟨rfl,rfl⟩, .inl MI,by lia,fun H' u G'=>?_⟩;obtain⟨QI,S3,u3,D3⟩:=D2.QM u G';exact⟨rfl,QI,u2.trans u3,Q5,g2,Q6,HQ,S3,D3⟩
   ·have hh:¬dG f1 o p i j=Bq f1 o p (i+1) (j+1):=fun z=>hh (decide_eq_true z)
    rw[Sn hh];exact⟨rfl,S, .same (.refl _),G.cast rfl (by lia) (Nat.le_refl _)⟩
  rintro σ H2 ⟨rfl,S2,u2,G2⟩;obtain⟨Yq,VU,_⟩:=FA TP OK MI OV;have B9:=BA.ups u2;have T2:=TR.keep B9.same;have TT:=u2.cC G.nt;obtain⟨Q5,g2,Q6,HQ,S3,D2⟩:=id G2;refine⟨_,rfl,x,az,Q5,_,_,rfl,D2.ob,Hc.cl,Hc.tP,mE tr W g2 Q6,tr,dt,_,rfl,T2.ob,BU o p e b,_,rfl,tr,dt,e,b,es,bs,f1,o,p,n,m,tc,i,j,rfl,T2,TT _ _ hc,hi,hj,fun H3 rr us s3 rG xr P3=>?_⟩;refine⟨rr,rfl,⟨_, .of xr⟩,?_⟩;have hlen:(br f1 o p i j).length≤2:=by
   unfold br;rw[List.length_append];split<;>split<;>simp
  have Yr:=rE TP OV;refine bU (xs:=us) (fun k σ H4=>(∃w,σ=[some (.ref x),some (.ref tc),some (.ref tp),some (.ref tl),w])∧∃S4,oX S H1 S4 H4∧ir H4 az aI x tr W S4 (((br f1 o p i j).take k).foldl (fun s c=>y9 s c r) (Ju f1 o p i j s1 r)) (B+1) (M+k)∧H4 rr=some (.lst us)∧gK H4 us (br f1 o p i j)∧¬S4 rr∧H4 tl=some (.tup (jA r))) ?_ ?_ ?_ ?_
  ·have G3:=G2.same s3;refine⟨⟨_,rfl⟩,S2,u2.trans (.same s3),G3.cast V9 (Nat.le_refl _) (Nat.le_refl _),xr,P3,G2.out rG,s3 _ _ (TT _ _ y8)⟩
  ·rintro k σ H4 _ ⟨_,S4,_,_,h4,_⟩;exact .of h4
  ·rintro k v σ H4 hv ⟨⟨w,rfl⟩,S4,u4,G4,h4,P4,n4,t4⟩;have hk:k<(br f1 o p i j).length:=by rw[←P4.1];exact(Z' hv).1
   have ek:(br f1 o p i j)[k]?=some (br f1 o p i j)[k]:=by simp[hk]
   have jb:(br f1 o p i j)[k]∈br f1 o p i j:=List.getElem_mem hk;generalize (br f1 o p i j)[k]=c at ek jb;obtain⟨t,k1,k2⟩:=P4.2 k c ek;rw[hv]at k1;cases k1;obtain⟨Ys,Yt,_⟩:=tO TP ((br f1 o p i j).take k) _ Yq (VU.e _ _ MI) (fun c hc=>Yr c (List.mem_of_mem_take hc));obtain⟨Yu,g4,Yv,aaS,S5,D4⟩:=id G4;refine⟨_,rfl,x,Yu,_,rfl,D4.ob,B4 tr W g4 Yv,_,rfl,_,rfl,x,t,tl,tr,W,c,r,S4,_,B+1,M+k,rfl,G4,k2,t4,Yt.e _ _ (VU.e _ _ MI),fun r0 h=>(Ys.mr _ _ h).1,by lia,by lia,fun H5 S6 u5 G5=>?_⟩;have T5:=u5.cC G4.nt;refine⟨⟨_,rfl⟩,S6,u4.trans u5,G5.cast ?_ Zn (by lia),u5.keep rr _ n4 h4,P4.cC T5,u5.out n4 h4,T5 _ _ t4⟩;rw[List.take_succ,ek];simp
  ·rintro σ H4 ⟨⟨w,rfl⟩,S4,u4,G4,h4,P4,n4,t4⟩;refine q _ S4 u4 (G4.cast ?_ Zn (by have:=P4.1;lia));rw[P4.1,List.take_length];rfl
variable(iR:eJ P w K mg base true 1 aI "has" ["self","pair"] (AH aI))
variable(dJ:eJ P w K mg base true 3 az "go_over" ["self","crossing","pair"] (tR az aI aA))
theorem fW:aM ["self","i","j","pair","behind"] ["self","i","j"] (ar eP):=⟨rfl,rfl,rfl,by decide+kernel,rfl,by decide+kernel,by decide+kernel⟩
include T Rc cc Hc cf cj iR dJ in
theorem n5{f:Addr}{fd:FuncData}(F:iB K "visit" "Gathering.visit" eP f fd):a7 P w K mg base (cW P w) true 4 f fd ["self","i","j"] (qF az aI aA):=by
 refine F.gM fW ZQ (fun bS A outer s H vs Q E hr h hX=>?_)
 ·obtain⟨x,tr,dt,e,b,es,bs,f,o,p,n,m,W,i,j,S,s1,B,M,H0,rfl,_⟩:=h;rfl
 ·obtain⟨x,tr,dt,e,b,es,bs,f1,o,p,n,m,W,i,j,S,s1,B,M,H0,rfl,G,TR,BA,hi,hj,hn,hm,TP,OK,hB,hM,q⟩:=h;have hu:=hr.units;have hu:(A.deeper (Ψ "Gathering.visit" (ar eP) f bS)).units+1<cLine:=by lia
  refine⟨_,(YM (Z0 (3) fW.nd (@eF _ _ _ _ _ (μ ZC))) (YM (Z0 (4) fW.nd (@eF _ _ _ _ _ (Z_ (XI bA ZC ai) (Z2 (XI bA (pv 2) ai))))) (YM (Zr (Zk jv (Z6 (Z6 (Ν K (ZW K)) (pv 1)) (pv 2)) (ZW K) (aV _)) (WX (Zt (Ρ (ZW K) cf aO (Z2 (pv 3))))) aQ) (YM (Zr (Χ (@qj _ _ _ _ _ hu (pv 4) (ZW K))) (WX (Zt (Ρ Xd dJ aO (ε (pv 4))))) aQ) (WX (Zr (@PW.pt _ _ _ (@pw_and _ _ _ _ _ _ _ (Γ (Ρ (ZW K) iR aO (Z2 (pv 3)))) (@pw_and1 _ _ _ _ (Γ (Ρ (ZW K) cc aO (Z2 (pv 3))))))) (WX (Zt (Ρ Xd cj aO (ε (pv 3))))) aQ)))))),?_⟩;refine⟨fun σ H1=>∃t,σ=[some (.ref x),some (.int i),some (.int j),some (.ref t),none]∧ax H H1∧H1 t=some (.tup (jA (aR (i,j)))),⟨_,rfl,_,rfl,aF V9,fun t ht=>⟨t,rfl,ZF ht,ae⟩⟩,?_⟩;rintro σ H1 ⟨t,rfl,s2,ht⟩;refine⟨fun σ H2=>∃u,σ=[some (.ref x),some (.int i),some (.int j),some (.ref t),some (.ref u)]∧ax H1 H2∧H2 u=some (.tup (jA (aR (i+1,j+1)))),⟨_,rfl,_,_,rfl,rfl,_,rfl,_,_,rfl,rfl,aF V9,fun u hu=>⟨u,rfl,ZF hu,ae⟩⟩,?_⟩;rintro σ H2 ⟨u,rfl,s3,QH⟩;have uE:=s3 _ _ ht;have MU:=s2.trans s3;have G2:=G.same MU;have B9:=BA.more MU;have T2:=TR.keep B9.same;obtain⟨rb,g1,g2,g3⟩:=T2.te.at hi;refine⟨fun σ H3=>σ=[some (.ref x),some (.int i),some (.int j),some (.ref t),some (.ref u)]∧∃S',oX S H2 S' H3∧ir H3 az aI x tr W S' (HN f1 o p W i j s1) (B+1) M,?_,?_⟩
  ·obtain⟨dx,g,dk,km,S1,D⟩:=id G2;refine⟨_,rfl,x,az,dx,_,_,rfl,D.ob,Hc.cl,Hc.tP,mE tr W g dk,tr,aA,dt,_,_,rfl,T2.ob,Rc.cl,Rc.kH,il o p e b,_,rfl,e,_,_,_,rfl,rfl, .of T2.he,au g2,_,rfl,rb,_,_,_,rfl,rfl, .of g3,au (dj hj),_,rfl,x,az,dx,_,_,rfl,D.ob,Hc.cl,Hc.worth,FJ tr W g dk,?_⟩;have JC:decide (bC (dG f1 o p i j)=V.int W)=decide (dG f1 o p i j=some W):=by cases dG f1 o p i j<;>simp[bC]
   refine⟨by cases dG f1 o p i j<;>rfl,_,rfl,?_⟩;rw[JC];unfold HN;refine bf (fun hh=>?_) (fun hh=>?_)
   ·have hh:=of_decide_eq_true hh;rw[U6 hh];obtain⟨dg,dl,dm,kl,HQ,ld,mm,og,_⟩:=id D.gr;refine⟨_,rfl,x,az,dx,_,_,rfl,D.ob,Hc.cl,Hc.groups,i4 tr W g dk,g,dg,_,rfl,og,Fu dl dm,_,rfl,g,t,aR (i,j),S1,s1.1,B,rfl,D.gr,uE,by lia,fun H' LU u G'=>?_⟩;obtain⟨S',S2,u2,D2⟩:=D.QM u G';exact⟨rfl,S',u2,dx,g,dk,km,S2,D2⟩
   ·have hh:¬dG f1 o p i j=some W:=fun z=>hh (decide_eq_true z)
    rw[Sn hh];exact⟨rfl,S, .same (.refl _),G2.cast rfl (by lia) (Nat.le_refl _)⟩
  rintro σ H3 ⟨rfl,S3,u3,G3⟩;have Q7:=u3.cC G2.nt;have Io:=B9.ups u3;obtain⟨Yw,GW1,_⟩:=FC OK i j;refine⟨fun σ H4=>σ=[some (.ref x),some (.int i),some (.int j),some (.ref t),some (.ref u)]∧∃S',oX S3 H3 S' H4∧ir H4 az aI x tr W S' (DH f1 o p W i j s1) (B+2) (M+2),?_,?_⟩
  ·obtain⟨dx,g,dk,km,S1,D⟩:=id G3;refine⟨_,rfl,_,rfl,x,az,dx,_,_,rfl,D.ob,Hc.cl,Hc.marks,lQ tr W g dk,dk,_,rfl, .t (k:=bb (aR (i+1,j+1))) D.hk (Q7 _ _ QH),_,rfl,?_⟩;have mv:=D.mv (aR (i+1,j+1));have ee:(HN f1 o p W i j s1).2=s1.2:=rfl;rw[ee]at mv;unfold DH;cases e9:s1.2 (aR (i+1,j+1))with
   |none=>
    rw[e9]at mv;have mv:bx km (bb (aR (i+1,j+1)))=none:=mv;rw[mv];refine f_ ?_;exact⟨rfl,S3, .same (.refl _),G3.cast rfl (by lia) (by lia)⟩
   |some r=>
    rw[e9]at mv;obtain⟨tl,vl,y8⟩:=mv;rw[vl];refine jV ?_;exact⟨_,rfl,x,dx,_,rfl,D.ob,HP tr W g dk,_,rfl,_,rfl,x,u,t,tr,dt,e,b,es,bs,f1,o,p,n,m,W,i,j,r,S3,_,B+1,M,H0,rfl,G3,TR,Io,Q7 _ _ QH,Q7 _ _ uE,hi,hj,TP,Yw,e9,by lia,by lia,fun H' S' u G'=>⟨rfl,S',u,G'⟩⟩
  rintro σ H4 ⟨rfl,S4,u4,G4⟩;have Yx:=u4.cC G3.nt;have Yy:=Io.ups u4;have T4:=TR.keep Yy.same;have Q8:=Yx _ _ (Q7 _ _ uE);obtain⟨Yz,GW2,_⟩:=FG TP OK i j;have uu:oX S H S4 H4:=(oX.same MU).trans (u3.trans u4);obtain⟨dx,g,dk,km,S1,D⟩:=id G4;obtain⟨dg,dl,dm,kl,HQ,ld,mm,og,_⟩:=id D.gr;refine⟨_,rfl,x,az,dx,_,_,rfl,D.ob,Hc.cl,Hc.groups,i4 tr W g dk,g,dg,_,rfl,og,ON dl dm,_,rfl,g,t,aR (i,j),S1,_,B+2,rfl,D.gr,Q8,fun b1 jg=>?_⟩;refine⟨_,rfl,?_⟩;refine bf (fun hh=>?_) (fun hh=>?_)
  ·refine⟨_,rfl,x,az,dx,_,_,rfl,D.ob,Hc.cl,Hc.tP,mE tr W g dk,tr,dt,_,rfl,T4.ob,Fs o p e b,_,rfl,tr,dt,e,b,es,bs,f1,o,p,n,m,t,i,j,rfl,T4,Q8,by lia,by lia,_,rfl,?_⟩;refine bf (fun h2=>?_) (fun h2=>?_)
   ·have lI:=jg.mp hh;refine⟨_,rfl,x,dx,_,rfl,D.ob,B4 tr W g dk,_,rfl,_,rfl,x,t,t,tr,W,aR (i,j),aR (i,j),S4,_,B+2,M+2,rfl,G4,Q8,Q8,lI,fun r0 h=>(Yz.mr _ _ h).1,by lia,by lia,fun H5 S5 u5 G5=>?_⟩;refine q _ S5 (uu.trans u5) ?_;unfold zI;rw[U6 ⟨lI,h2⟩];exact G5
   ·refine q _ S4 uu (G4.cast ?_ Mm (by lia));unfold zI;rw[Sn (fun z=>h2 z.2)]
  ·refine f_ ?_;refine q _ S4 uu (G4.cast ?_ Mm (by lia));unfold zI;rw[Sn (fun z=>hh (jg.mpr z.1))]
variable(iS:m3 P w K mg base true 3 "Gathering" az ["self","trails","worth"] [] (qE az aI))
variable(eU:eJ P w K mg base true 4 az "visit" ["self","i","j"] (qF az aI aA))
variable(hZ:eJ P w K mg base true 1 aI "told" ["self"] (xg aI))
theorem gw:aM ["trails","worth","gathering","i","j"] ["trails","worth"] (ar j1):=⟨rfl,rfl,rfl,by decide+kernel,rfl,by decide+kernel,by decide+kernel⟩
include T Rc Hc iS eU hZ in
theorem ub{f:Addr}{fd:FuncData}(F:jw K "best_groups" "best_groups" j1 f fd):a7 P w K mg base (cW P w) true 5 f fd ["trails","worth"] (AK aA):=by
 refine F.gM gw ZQ (fun bS A outer s H vs Q E hr h hX=>?_)
 ·obtain⟨tr,dt,e,b,es,bs,f,o,p,n,m,W,rfl,_⟩:=h;rfl
 ·obtain⟨tr,dt,e,b,es,bs,f1,o,p,n,m,W,rfl,TR,IT,VV,hn,hm,TP,q⟩:=h;refine⟨_,(YM (Z0 (2) gw.nd (@su _ _ _ _ _ _ _ _ _ _ _ _ _ _ iS (hr.mono (U7)) hX.pass (Z_ Xd (Z2 ZC)) (ZA) (U7) (ZA) (ZA))) (YM (Α hX.own (@vU _ _ _ _ _ _ _ _ (by exact rfl) T.fO (Z_ (XI cy (Z7 (aL K) T.cX (Z2 (ZW K))) ai) (Z_ (@rm _ _ _ _ _ _ lH ai) (Z2 (@rm _ _ _ _ _ _ lH ai)))) (ZA) (ZA)) (Z1 (3) gw.nd) (WX (Α hX.own (@vU _ _ _ _ _ _ _ _ (by exact rfl) T.fO (Z_ (XI cy (Z7 (aL K) T.cX (Z2 (Z6 (ZW K) (pv 3)))) ai) (Z_ (@rm _ _ _ _ _ _ lH ai) (Z2 (@rm _ _ _ _ _ _ lH ai)))) (ZA) (ZA)) (Z1 (4) gw.nd) (WX (Zt (Ρ (pv 2) eU aO (Z_ (pv 3) (Z2 (pv 4))))))))) (WX (ZS (@CA _ _ _ _ _ _ _ _ _ _ _ _ _ (Ν K (pv 2)) hZ (hr.mono (U7)) aO (ZA)))))),?_⟩;refine⟨fun σ H1=>∃gx S,σ=[some (.ref tr),some (.int W),some (.ref gx),none,none]∧Base H H1 S∧ir H1 az aI gx tr W S (fun _ _=>False,fun _=>none) 0 0,?_,?_⟩
  ·refine⟨_,rfl,_,rfl,fun y dy hy L5 eX=>⟨y,dy,tr,W,rfl,ae,fun H' S sb fr G=>⟨rfl,y,S,rfl,⟨SameBut.Ak hy L5 sb,fun a ha=>?_⟩,G⟩⟩⟩;have:=fr a ha;cases e9:H a with
   |none=>rfl
   |some o9=>rw[ak (aE e9 hy),ak (aE e9 L5),e9]at this;cases this
  rintro σ H1 ⟨gx,S,rfl,BA,G⟩;have Ig:es.length=n:=TR.te.1;have V0:=Vd.start f1 o p W n m;refine⟨fun σ H2=>(∃u v,σ=[some (.ref tr),some (.int W),some (.ref gx),u,v])∧∃S s B M,Base H H2 S∧ir H2 az aI gx tr W S s B M∧Vd f1 o p W (Vb n m 0 0) s∧B≤6000,?_,?_⟩
  ·have T1:=TR.keep BA.same;refine⟨_,rfl,tr,aA,dt,_,_,rfl,T1.ob,Rc.cl,Rc.kH,il o p e b,e,_,rfl, .inl (.of T1.he),_,_,rfl,rfl,_,rfl,_,rfl,_,_,rfl,⟨by rw[List.length_map,Ig];lia,by rw[List.length_map,Ig];lia,U7,U7⟩,?_⟩;have en:((((es.map V.ref).length:Nat):Int)-1- -1).toNat=n:=by rw[List.length_map,Ig];lia
   rw[en];refine yY (fun k σ H2=>(∃u v,σ=[some (.ref tr),some (.int W),some (.ref gx),u,v])∧∃S s B M,Base H H2 S∧ir H2 az aI gx tr W S s B M∧Vd f1 o p W (Vb n m (n-k) 0) s∧B≤2*(k*m)∧M≤3*(k*m)) ⟨⟨_,_,rfl⟩,S,_,0,0,BA,G,V0,by lia,by lia⟩ ?_ ?_
   ·rintro k σ H2 hk ⟨⟨u,v,rfl⟩,S2,s2,B,M,B9,G2,V2,hB,hM⟩;have ei:(((es.map V.ref).length:Nat):Int)-1-(k:Int)=((n-1-k:Nat):Int):=by rw[List.length_map,Ig];lia
    rw[ei];have T2:=TR.keep B9.same;obtain⟨rb,g1,g2,g3⟩:=T2.te.at (show n-1-k<n by lia);have V2:Vd f1 o p W (Vb n m (n-1-k) m) s2:=Vd.turn (by rw[show n-1-k+1=n-k by lia];exact V2);have ZK:(k+1)*m≤n*m:=Nat.mul_le_mul_right m Mm;have aaC:(k+1)*m=k*m+m:=Nat.succ_mul k m;have lm:∀g:Nat→Option Int,(de m g).length=m:=fun g=>by simp[de]
    refine⟨_,rfl,tr,aA,dt,_,_,rfl,T2.ob,Rc.cl,Rc.kH,il o p e b,_,rfl,e,_,_,_,rfl,rfl, .of T2.he,au g2,rb,_,rfl, .inl (.of g3),_,_,rfl,rfl,_,rfl,_,rfl,_,_,rfl,⟨by rw[lm];lia,by rw[lm];lia,U7,U7⟩,?_⟩;have YA:((((de m (dG f1 o p (n-1-k))).length:Nat):Int)-1- -1).toNat=m:=by rw[lm];lia
    rw[YA];refine yY (fun l σ H3=>(∃v,σ=[some (.ref tr),some (.int W),some (.ref gx),some (.int ((n-1-k:Nat):Int)),v])∧∃S s B M,Base H H3 S∧ir H3 az aI gx tr W S s B M∧Vd f1 o p W (Vb n m (n-1-k) (m-l)) s∧B≤2*(k*m+l)∧M≤3*(k*m+l)) ⟨⟨_,rfl⟩,S2,s2,B,M,B9,G2,V2,hB,hM⟩ ?_ ?_
    ·rintro l σ H3 hl ⟨⟨v3,rfl⟩,S3,s3,B3,M3,Io,G3,V3,YB,YC⟩;have ej:(((de m (dG f1 o p (n-1-k))).length:Nat):Int)-1-(l:Int)=((m-1-l:Nat):Int):=by rw[lm];lia
     rw[ej];obtain⟨dx,g,dk,km,S1,D⟩:=id G3;have V3:Vd f1 o p W (Vb n m (n-1-k) (m-1-l+1)) s3:=by rw[show m-1-l+1=m-l by lia];exact V3
     refine⟨_,rfl,gx,dx,_,rfl,D.ob,FK tr W g dk,_,rfl,_,rfl,gx,tr,dt,e,b,es,bs,f1,o,p,n,m,W,n-1-k,m-1-l,S3,s3,B3,M3,H,rfl,G3,TR,Io,by lia,by lia,hn,hm,TP,V3.ok,by lia,by lia,fun H4 S4 u4 G4=>?_⟩;refine⟨⟨_,rfl⟩,S4,_,_,_,Io.ups u4,G4,?_,by lia,by lia⟩;have:=V3.next TP (show n-1-k<n by lia) (show m-1-l<m by lia);rw[show m-(l+1)=m-1-l by lia];exact this
    ·rintro σ H3 ⟨⟨v3,rfl⟩,S3,s3,B3,M3,Io,G3,V3,YB,YC⟩;refine⟨⟨_,_,rfl⟩,S3,s3,B3,M3,Io,G3,?_,by lia,by lia⟩;rw[show n-(k+1)=n-1-k by lia,show(0:Nat)=m-m by lia];exact V3
   ·rintro σ H2 ⟨⟨u,v,rfl⟩,S2,s2,B,M,B9,G2,V2,hB,hM⟩;rw[Nat.sub_self]at V2;exact⟨⟨_,_,rfl⟩,S2,s2,B,M,B9,G2,V2,by lia⟩
  rintro σ H2 ⟨⟨u,v,rfl⟩,S2,s2,B,M,B9,G2,V2,hB⟩;obtain⟨dx,g,dk,km,S1,D⟩:=id G2;obtain⟨dg,dl,dm,kl,HQ,ld,mm,og,_⟩:=id D.gr;have HG:=fun a b=>V2.Ti TP IT a b
  refine⟨_,rfl,gx,az,dx,_,_,rfl,D.ob,Hc.cl,Hc.groups,i4 tr W g dk,g,dg,_,rfl,og,LL dl dm,g,S1,_,B,rfl,D.gr,by lia,fun H3 r us gs u3 rG xr W3 Ms TD=>?_⟩;have Io:Base H H2 S1:=⟨B9.same,fun a h=>B9.free a ((D.sS a).mpr (.inl h))⟩
  exact q _ r us gs (Io.ups u3).same (B9.same.free rG) xr W3 (fun k a h=>B9.same.free (Ms k a h)) (TD.iff HG)
theorem n6:aM ["taken","shut","pair"] ["taken"] (ar mH):=⟨rfl,rfl,rfl,by decide+kernel,rfl,by decide+kernel,by decide+kernel⟩
include T in
theorem AW{f:Addr}{fd:FuncData}(F:jw K "shut_by" "shut_by" mH f fd):a7 P w K mg base (cW P w) true 1 f fd ["taken"] wX:=by
 refine F.gM n6 ZQ (fun bS A outer s H vs Q E hr h hX=>?_)
 ·obtain⟨v,shut,rfl,_⟩:=h;rfl
 ·obtain⟨v,shut,rfl,TV,hlen,q⟩:=h;have hu:=hr.units;have hu:(A.deeper (Ψ "shut_by" (ar mH) f bS)).units+1<cLine:=by lia
  refine⟨_,(Xc (Z0 (1) n6.nd j_) (YM (Zr (Χ (@oA _ _ _ _ _ (pv 0))) (WX (Α hX.own (Β K Xd) (Z1 (2) n6.nd) (WX (@kz _ _ _ _ _ _ _ _ _ hu ZC (pv 2) dU Zv)))) aQ) (WX (ZS ZC)))),?_⟩;refine fun d hd=>?_
  refine⟨fun σ H1=>(∃u,σ=[some v,some (.ref d),u])∧ax H H1∧∃kvs,H1 d=some (.dT kvs)∧m7 kvs shut,?_,?_⟩
  ·refine⟨_,rfl,_,rfl,?_⟩;rcases TV with⟨rfl,rfl⟩|⟨l,us,rfl,hl,P1⟩
   ·refine bf (fun hh=>absurd hh V9) (fun _=>?_);exact⟨⟨_,rfl⟩,ZF hd,[],ae,fun p=>by simp[sO]⟩
   ·refine bf (fun _=>?_) (fun hh=>absurd V9 hh);have Ii:=P1.1;refine⟨_,rfl,l,rfl,⟨_, .of (ax.upd hd _ _ hl)⟩,?_⟩;refine bU (xs:=us) (fun i σ H'=>(∃u,σ=[some (.ref l),some (.ref d),u])∧ax H H'∧∃kvs,H' d=some (.dT kvs)∧kvs.length≤i∧m7 kvs (shut.take i)) ?_ ?_ ?_ ?_
    ·exact⟨⟨_,rfl⟩,ZF hd,[],ae,Nat.le_refl _,fun p=>by simp[sO]⟩
    ·rintro i σ H' _ ⟨_,s1,_⟩;exact .of (s1 _ _ hl)
    ·rintro i x σ H' hx ⟨⟨u,rfl⟩,s1,kvs,hD,hk,hS⟩;have hi:i<shut.length:=by rw[←Ii];exact(Z' hx).1
     obtain⟨t,yf,uE⟩:=P1.K1 hi;rw[hx]at yf;cases yf;refine⟨_,rfl,_,rfl,d,_,rfl, .t (k:=bb (pr shut i)) hD (s1 _ _ uE) (a9 Mm),⟨_,rfl⟩,s1.eI hd,_,ae,Nat.le_trans (eZ _ _ _) (by lia),fun p=>?_⟩;have e1:shut.take (i+1)=shut.take i++[pr shut i]:=by rw[List.take_succ,Jf hi];rfl
     rw[i8,e1];by_cases hp:p=pr shut i
     ·rw[U6 (by rw[hp])];simp[hp]
     ·rw[Sn (fun z=>hp ?_),hS p]
      ·simp[hp]
      ·simp only[bb,List.cons.injEq,Sum.inl.injEq,and_true]at z;exact Prod.ext z.1 z.2
    ·rintro σ H' ⟨⟨u,rfl⟩,s1,kvs,hD,_,hS⟩;rw[Ii,List.take_length]at hS;exact⟨⟨_,rfl⟩,s1,kvs,hD,hS⟩
  rintro σ H1 ⟨⟨u,rfl⟩,s1,kvs,hD,hS⟩;exact⟨_,rfl,q H1 d kvs s1 hD hS⟩
variable(mJ:bK P w K mg base true 1 "shut_by" ["taken"] wX)
variable(ed:eJ P w K mg base true 1 aU "pair_worth" ["self","x","y"] (wO aU))
theorem dP:aM ["first","second","terms","taken","shut","worths","i","x","row"] ["first","second","terms","taken"] (ar fG):=⟨rfl,rfl,rfl,by decide+kernel,rfl,by decide+kernel,by decide+kernel⟩
include T Tc mJ ed in
theorem uc{f:Addr}{fd:FuncData}(F:jw K "open_worths" "open_worths" fG f fd):a7 P w K mg base (cW P w) true 2 f fd ["first","second","terms","taken"] (tT aU):=by
 refine F.gM dP ZQ (fun bS A outer s H vs Q E hr h hX=>?_)
 ·obtain⟨f,g,t,v,c,shut,rfl,_⟩:=h;rfl
 ·obtain⟨f1,g,t,v,c,shut,rfl,hf,hg,TF,TV,R5,S9,VT,q⟩:=h;have hu:=hr.units;have hu:(A.deeper (Ψ "open_worths" (ar fG) f bS)).units+1<cLine:=by lia
  have lx:(c.xs.map V.str).length=c.xs.length:=List.length_map ..;have ly:(c.ys.map V.str).length=c.ys.length:=List.length_map ..;refine⟨_,(YM (@aG _ _ (4) _ _ _ _ dP.nd Zv (Or.inr rfl) (Z5 mJ aO (Z2 (pv 3))) (ZA) (by exact .inl rfl)) (YM (Z0 (5) dP.nd (@bR _ _ _ _ af)) (YM (Α hX.own (@oQ _ K _ _ _ _ _ _ _ (by exact rfl) T.jx (Z2 Xd) (ZA) (ZA)) (η K (2) (by exact rfl) (Zz (@aJ _ _ (6) _ dP.nd Zv (Or.inr rfl) (by first|exact .inl rfl|exact .inr rfl|assumption)) (Zz (@aJ _ _ (7) _ dP.nd Zv (Or.inr rfl) (by first|exact .inl rfl|exact .inr rfl|assumption)) fJ))) (YM (@iK _ _ _ _ _ _ _ _ _ _ _ _ _ _ _ (8) _ _ (by exact rfl) dP.nd Zv (by exact rfl) (show bh ["first","second","terms","taken","shut","worths","i","x","row"] (ar fG) _ ["j","y"] [6,4,2,7] ["i","shut","terms","x"]from⟨rfl,by decide+kernel,by decide+kernel,by decide+kernel,rfl,rfl,by decide+kernel,by decide+kernel,by decide+kernel⟩) (@oQ _ K _ _ _ _ _ _ _ (by exact rfl) T.jx (Z2 ZC) (ZA) (ZA)) (fun _ _ _ _ _=>(η K (2) (by exact rfl) (Zz (Z1 (0) (show(["j","y","i","shut","terms","x"]:List Str).Nodup by decide+kernel)) (Zz (Z1 (1) (show(["j","y","i","shut","terms","x"]:List Str).Nodup by decide+kernel)) fJ)))) (fun _ _ _ _ _=>fL) (fun _ _ _ _ _=>(@oB _ _ _ _ _ _ _ _ (Χ (@qj _ _ _ _ _ hu (@eF _ _ _ _ _ (Z_ (pv 2) (Z2 Xd))) (pv 3))) jU (Ρ (pv 4) ed aO (Z_ (pv 5) (Z2 ZC))))) (ZA) (by intro _;rfl)) (WX (Zt (Λ K PySem.F.slot_list_append PySem.F.type_list_append bQ (pv 5) (Z2 (pv 8))))))) (WX (ZS (pv 5)))))),?_⟩;refine⟨fun σ H1=>∃d kvs,σ=[some (.ref f1),some (.ref g),some (.ref t),some v,some (.ref d),none,none,none,none]∧ax H H1∧H1 d=some (.dT kvs)∧m7 kvs shut,?_,?_⟩
  ·exact⟨_,rfl,v,shut,rfl,TV,R5,fun H1 d kvs s1 hd hS=>⟨d,kvs,rfl,s1,hd,hS⟩⟩
  rintro σ H1 ⟨d,kvs,rfl,s1,YD,hS⟩;refine⟨fun σ H2=>∃e,σ=[some (.ref f1),some (.ref g),some (.ref t),some v,some (.ref d),some (.ref e),none,none,none]∧ax H1 H2∧H1 e=none∧H2 e=some (.lst []),?_,?_⟩
  ·exact⟨aF V9,fun e he=>⟨e,rfl,ZF he,he,ae⟩⟩
  rintro σ H2 ⟨e,rfl,s2,Jz,MK⟩;refine⟨fun σ H3=>(∃u1 u2 u3,σ=[some (.ref f1),some (.ref g),some (.ref t),some v,some (.ref d),some (.ref e),u1,u2,u3])∧ax H1 H3∧∃as:List Addr,H3 e=some (.lst (as.map V.ref))∧ja H3 as (jm c shut) c.xs.length c.ys.length∧(∀a∈as,H1 a=none∧a≠e)∧as.Nodup,?_,?_⟩
  ·refine⟨_,rfl,f1,rfl,⟨_, .of (s2 _ _ (s1 _ _ hf))⟩,?_⟩;refine yH (xs:=c.xs.map V.str) (fun i σ H'=>(∃u1 u2 u3,σ=[some (.ref f1),some (.ref g),some (.ref t),some v,some (.ref d),some (.ref e),u1,u2,u3])∧ax H1 H'∧∃as:List Addr,H' e=some (.lst (as.map V.ref))∧ja H' as (jm c shut) i c.ys.length∧(∀a∈as,H1 a=none∧a≠e)∧as.Nodup) ?_ ?_ ?_ ?_
   ·exact⟨⟨_,_,_,rfl⟩,s2,[],MK,⟨rfl,fun i a h=>by simp at h⟩,(fun a h=>by cases h), .nil⟩
   ·rintro i σ H' _ ⟨_,s3,_⟩;exact .of (s3 _ _ (s1 _ _ hf))
   ·rintro i x T' σ H' hx ⟨⟨u1,u2,u3,rfl⟩,s3,as,Gv,TA,hn,Gr⟩ hT;obtain⟨wx,Q9,rfl⟩:=jz hx;have hi:i<c.xs.length:=(Z' Q9).1;have s4:ax H1 (upd H' T' (.tup [.int i, .str wx])):=s3.trans (ZF hT);have Q_:=ax.upd (o:= .tup [.int i, .str wx]) hT _ _ Gv;have Ra:=TA.same (ax.upd (o:= .tup [.int i, .str wx]) hT);refine⟨T',_,rfl, .of ae,rfl,_,_,rfl,_,_,rfl,rfl,?_⟩;generalize upd H' T' (.tup [.int i, .str wx])=H4 at s4 Q_ Ra;clear TA Gv s3 hT;refine⟨fun σ H5=>∃r,σ=[some (.ref f1),some (.ref g),some (.ref t),some v,some (.ref d),some (.ref e),some (.int i),some (.str wx),some (.ref r)]∧ax H4 H5∧H4 r=none∧H5 r=some (.lst (de c.ys.length (jm c shut i))),?_,?_⟩
    ·have VW:=s4 _ _ (s1 _ _ hg);refine⟨_,rfl,g,rfl,⟨_, .of VW⟩,fun D hD=>?_⟩;refine vP (xs:=c.ys.map V.str) (fun j ys bj H5=>(∃w1 w2,bj=[w1,w2,some (.int i),some (.ref d),some (.ref t),some (.str wx)])∧ys=de j (jm c shut i)∧H5 D=some (.lst ys)∧ax H4 H5) ⟨⟨_,_,rfl⟩,rfl,ae,ZF hD⟩ ?_ ?_ ?_
     ·rintro j ys bj H5 _ ⟨_,_,_,s5⟩;exact .of (s5 _ _ VW)
     ·rintro j y T2 ys bj H5 hy ⟨⟨w1,w2,rfl⟩,rfl,Gx,s5⟩ O9;obtain⟨wy,DM,rfl⟩:=jz hy;have hj:j<c.ys.length:=(Z' DM).1;have s6:ax H4 (upd H5 T2 (.tup [.int j, .str wy])):=s5.trans (ZF O9);have Pn:=ax.upd (o:= .tup [.int j, .str wy]) O9 _ _ Gx;refine⟨T2,_,rfl, .of ae,rfl,_,_,rfl,_,_,rfl,rfl,?_⟩;generalize upd H5 T2 (.tup [.int j, .str wy])=H6 at s6 Pn;refine sr ?_;refine⟨_,rfl,_,rfl,aF V9,fun p hp=>?_⟩;have s7:=s6.trans (ax.upd (o:= .tup [.int (i:Int), .int (j:Int)]) hp);have sA:=s4.trans s7;have MV:=ax.upd (o:= .tup [.int (i:Int), .int (j:Int)]) hp _ _ Pn;have len:(de j (jm c shut i)).length<sizeLine:=a9 (by rw[dh];lia);have sn:∀u,u=jm c shut i j→de j (jm c shut i)++[bC u]=de (j+1) (jm c shut i):=fun u e=>by rw[qu,e]
      have T_:c.pw ((i:Int),(j:Int))=cI c.same c.fs wx wy:=Case.pw_of (by rw[tw];exact Q9) (by rw[tw];exact DM);refine⟨_,rfl,d,_,rfl, .t (k:=bb ((i:Int),(j:Int))) (sA _ _ YD) ae,_,rfl,?_⟩;rw[hS];refine bf (fun h1=>?_) (fun h1=>?_)
      ·have h1:((i:Int),(j:Int))∈shut:=by simpa using h1
       refine⟨MV,len,⟨_,_,rfl⟩,?_,ae,s7.eI hD⟩;exact sn none (by simp[jm,mM,h1])
      ·have h1:((i:Int),(j:Int))∉shut:=by simpa using h1
       obtain⟨n,dx,l,dd,vs,T1,e1,e2,e3,e4⟩:=(TF.keep s1).keep sA;refine⟨_,rfl,t,dx,_,rfl,T1.ob,wM n l dd,_,rfl,_,rfl,t,wx,wy,n,c.fs,dx,l,dd,vs,rfl,T1,fun H8 s8=>?_⟩;refine⟨s8 _ _ MV,len,⟨_,_,rfl⟩,?_,ae,(s7.trans s8).eI hD⟩;exact sn _ (by simp[jm,mM,h1,T_,e1])
     ·rintro ys bj H5 ⟨_,rfl,Gx,s5⟩;rw[ly]at Gx;exact⟨D,rfl,s5,hD,Gx⟩
    rintro σ H5 ⟨r,rfl,s5,rG,Ua⟩;have VX:r≠e:=Ne.symm (aE Q_ rG);have hlen:=Ra.len;refine⟨_,rfl, .inl ⟨rfl,_, .of (s5 _ _ Q_)⟩,_,rfl,e,_,_,rfl,rfl,s5 _ _ Q_,a9 (by rw[List.length_map];lia),⟨_,_,_,rfl⟩,(s4.trans s5).eI Jz,as++[r],by rw[ae];simp,⟨by simp[hlen],fun k a hk=>?_⟩,fun a ha=>?_,List.nodup_append.mpr ⟨Gr,Wv,fun x hx y hy e9=>?_⟩⟩
    ·by_cases h:k<i
     ·rw[Zy Mm]at hk;rw[ak (hn a (ZO hk)).2];exact s5 _ _ (Ra.row k a hk)
     ·rw[Δ Mm]at hk;have w_:k-as.length=0:=by
       have:=(Z' hk).1;simp at this
       lia
      rw[w_]at hk;have:r=a:=by simpa using hk
      subst this;rw[ak VX];have:k=i:=by lia
      rw[this];exact Ua
    ·rcases List.mem_append.mp ha with ha|ha
     ·exact hn a ha
     ·have:a=r:=by simpa using ha
      rw[this];exact⟨s4.free rG,VX⟩
    ·have hy:y=r:=by simpa using hy
     obtain⟨k,hk,ek⟩:=List.mem_iff_getElem.mp hx;have:=Ra.row k x (by rw[Θ hk,ek]);rw[e9,hy,rG]at this;cases this
   ·rintro σ H' ⟨⟨u1,u2,u3,rfl⟩,s3,as,Gv,TA,hn,Gr⟩;rw[lx]at TA;exact⟨⟨_,_,_,rfl⟩,s3,as,Gv,TA,hn,Gr⟩
  rintro σ H3 ⟨⟨u1,u2,u3,rfl⟩,s3,as,Gv,TA,hn,Gr⟩;exact⟨_,rfl,q H3 e as (s1.trans s3) Gv (s1.free Jz) TA Gr (fun z=>(hn e z).2 rfl) fun a ha=>s1.free (hn a ha).1⟩
variable(mK:m3 P w K mg base true 4 "Trails" aA ["self","worths","terms"] [] (qB aA aU))
variable(h_:bK P w K mg base true 5 "best_groups" ["trails","worth"] (AK aA))
variable(gy:bK P w K mg base true 6 "make_finding" ["trails","worth","pairs"] (AG aA ay))
theorem j5:aM ["worths","terms","trails","worth"] ["worths","terms"] (ar gq):=⟨rfl,rfl,rfl,by decide+kernel,rfl,by decide+kernel,by decide+kernel⟩
include T Tc fj Rc mK h_ gy in
theorem uS{f:Addr}{fd:FuncData}(F:jw K "make_round" "make_round" gq f fd):a7 P w K mg base (cW P w) true 7 f fd ["worths","terms"] (o7 aU ay):=by
 refine F.gM j5 ZQ (fun bS A outer s H vs Q E hr h hX=>?_)
 ·obtain⟨w,t,as,c,f,n,m,rfl,_⟩:=h;rfl
 ·obtain⟨w,t,as,c,f1,n,m,rfl,hw,TA,TF,IT,VV,hn,hm,q0,q1⟩:=h;refine⟨_,(YM (@aG _ _ (2) _ _ _ _ j5.nd Zv (Or.inr rfl) (@su _ _ _ _ _ _ _ _ _ _ _ _ _ _ mK (hr.mono (U7)) hX.pass (Z_ Xd (Z2 ZC)) (ZA) (U7) (ZA) (ZA)) (ZA) (by exact .inl rfl)) (YM (@aG _ _ (3) _ _ _ _ j5.nd Zv (Or.inr rfl) (Z5 fj aO (Z2 (@oK _ _ _ _ _ _ _ _ _ _ _ _ _ _ (by exact rfl) (show bh ["worths","terms","trails","worth"] (ar gq) _ ["row"] [] []from⟨rfl,by decide+kernel,by decide+kernel,by decide+kernel,rfl,rfl,by decide+kernel,by decide+kernel,by decide+kernel⟩) (Β K (Ν K (pv 2))) (fun _ _ _ _ _=>(Z1 (0) (show(["row"]:List Str).Nodup by decide+kernel))) (fun _ _ _ _ _=>fL) (fun _ _ _ _ _=>(Z5 fj aO (Z2 Xd))) (by intro _;rfl)))) (ZA) (by exact .inl rfl)) (YM (Zr (@PW.pt _ _ _ (Κ (Χ (@lF _ _ _ _ _ (pv 3))) (@pw_or1 _ _ _ _ (Zk mY (pv 3) (Ν K ZC) (aV _))))) (WX (ZS (@bR _ _ _ _ af))) aQ) (WX (ZS (@oK _ _ _ _ _ _ _ _ _ _ _ _ _ _ (by exact rfl) (show bh ["worths","terms","trails","worth"] (ar gq) _ ["pairs"] [2,3] ["trails","worth"]from⟨rfl,by decide+kernel,by decide+kernel,by decide+kernel,rfl,rfl,by decide+kernel,by decide+kernel,by decide+kernel⟩) (Β K (Z5 h_ aO (ε (pv 2)))) (fun _ _ _ _ _=>(Z1 (0) (show(["pairs","trails","worth"]:List Str).Nodup by decide+kernel))) (fun _ _ _ _ _=>fL) (fun _ _ _ _ _=>(Z5 gy aO (Z_ ZC (Z_ (pv 2) (Z2 Xd))))) (by intro _;rfl))))))),?_⟩;refine⟨fun σ H1=>∃x dx e b es,σ=[some (.ref w),some (.ref t),some (.ref x),none]∧ax H H1∧H1 x=some (.ins aA dx (gO c.out c.into e b))∧H1 e=some (.lst (es.map V.ref))∧ja H1 es (dG f1 c.out c.into) n m∧(0<n→∃bs,qA H1 aA x dx e b es bs f1 c.out c.into n m),?_,?_⟩
  ·refine⟨_,rfl,_,rfl,fun x dx hx EN eX=>?_⟩;have s5:ax H (upd (upd H dx (.own x)) x (.ins aA dx [])):=(ZF EN).eI hx;refine⟨x,dx,w,t,c,as,f1,n,m,rfl,ae,by rw[ak eX];exact ae,s5 _ _ hw,TA.same s5,TF.keep s5,hn,hm,fun H6 e b sb VY Te Tb=>?_⟩;obtain⟨es,he,_,TE,_⟩:=Te;refine⟨rfl,x,dx,e,b,es,rfl,SameBut.Ak hx EN sb,VY,he,TE,fun h=>?_⟩;obtain⟨bs,hb,_,YE,_⟩:=Tb h;exact⟨bs,VY,he,TE,hb,YE⟩
  rintro σ H1 ⟨x,dx,e,b,es,rfl,s1,lq,AU,TE,YF⟩;have Ig:es.length=n:=TE.len;refine⟨fun σ H2=>σ=[some (.ref w),some (.ref t),some (.ref x),some (bC (HS f1 c.out c.into n m))]∧ax H1 H2,?_,?_⟩
  ·refine⟨_,rfl,x,aA,dx,_,_,rfl,lq,Rc.cl,Rc.kH,il c.out c.into e b,e,rfl,⟨_, .of AU⟩,fun D hD=>?_⟩;refine fv (xs:=es.map V.ref) (fun k ys bj H'=>(∃u,bj=[u])∧ys=((Zj k).map fun i=>bC (oR ((Zj m).map (dG f1 c.out c.into i))))∧H' D=some (.lst ys)∧ax H1 H') ⟨⟨_,rfl⟩,rfl,ae,ZF hD⟩ ?_ ?_ ?_
   ·rintro k ys bj H' _ ⟨_,_,_,s2⟩;exact .of (s2 _ _ AU)
   ·rintro k v ys bj H' hv ⟨⟨u,rfl⟩,rfl,rX,s2⟩;have hk:k<n:=by rw[←Ig];have:=(Z' hv).1;simpa using this
    obtain⟨rb,g1,g2,g3⟩:=TE.at hk;rw[hv]at g2;cases g2;refine lK ?_;refine⟨_,rfl,rb,(Zj m).map (dG f1 c.out c.into k),rfl,?_,by simpa using hm,fun QJ s3=>?_⟩
    ·rw[s2 _ _ g3,List.map_map];rfl
    ·refine⟨s3 _ _ rX,a9 (by simp;lia),⟨_,rfl⟩,?_,ae,(s2.trans s3).eI hD⟩;rw[List.range_succ,List.map_append];rfl
   ·rintro ys bj H' ⟨_,rfl,rX,s2⟩;rw[List.length_map,Ig]at rX;refine⟨D,(Zj n).map fun i=>oR ((Zj m).map (dG f1 c.out c.into i)),rfl,by rw[rX,List.map_map];rfl,by simpa using hn,fun QJ s3=>⟨rfl,s2.trans s3⟩⟩
  rintro σ H2 ⟨rfl,s2⟩;have uF:=s1.trans s2;obtain⟨nu,dt,l,d,vs,TM,z1,z2,z3,z4⟩:=TF.keep uF;have MX:=FQ IT c.out c.into;refine⟨fun σ H3=>∃W,HS f1 c.out c.into n m=some W∧c.least≤W∧σ=[some (.ref w),some (.ref t),some (.ref x),some (.int W)]∧H3=H2,?_,?_⟩
  ·refine⟨_,rfl,_,rfl,?_⟩;cases eT:HS f1 c.out c.into n m with
   |none=>
    rw[eT]at MX;refine jV ?_;refine jV ?_;exact⟨aF V9,fun r rG=>q0 (fun ps hp=>ZE ⟨ps,hp,rfl⟩ (MX _)) _ r (uF.trans (ZF rG)) (uF.free rG) ae⟩
   |some W=>
    rw[eT]at MX;refine bf (fun hh=>ZE hh (by simp[bC])) (fun _=>?_);refine⟨_,rfl,_,rfl,t,aU,dt,_,_,rfl,TM.ob,Tc.cl,Tc.least,Hh nu l d,_,_,rfl,rfl,_,rfl,?_⟩;refine bf (fun hh=>?_) (fun hh=>?_)
    ·have hh:W<nu.least:=by simpa using hh
     rw[z4]at hh;exact⟨aF V9,fun r rG=>q0 (fun ps hp=>by have:=MX.2 _ ⟨ps,hp,rfl⟩;lia) _ r (uF.trans (ZF rG)) (uF.free rG) ae⟩
    ·have hh:¬W<nu.least:=by simpa using hh
     rw[z4]at hh;exact⟨W,rfl,by lia,rfl,rfl⟩
  rintro σ H2 ⟨W,eT,hle,rfl,rfl⟩;rw[eT]at MX;obtain⟨VZ,w0,V1⟩:=MX.1;have TP:e7 f1 c.out c.into W:=fun ps hp=>MX.2 _ ⟨ps,hp,rfl⟩
  have Tx:0<n:=by
   obtain⟨i,j,_,hi,_⟩:=jY IT w0 (dq w0.ne)
   lia
  obtain⟨bs,TR⟩:=YF Tx;have V4:=TR.keep s2;refine⟨_,rfl,_,rfl,x,dx,e,b,es,bs,f1,c.out,c.into,n,m,W,rfl,V4,IT,VV,hn,hm,TP,fun H3 r us gs s3 rG xr W3 Ms TD=>?_⟩;have Iq:∀g∈gs,∀a∈g,∃i j:Nat,a=aR (i,j)∧i<n∧j<m:=fun g hg a ha=>by
   obtain⟨ps,wp,hm⟩:=(TD.mem hg ha).on;exact jY IT wp.1 hm
  have rA:∀g∈gs,g.length≤n*m:=fun g hg=>by
   have:=len_sub g (uN n m) ((TD.qz g hg).imp fun{a b} h e=>by
    rw[e]at h;unfold jD at h;simp at h) fun a ha=>by
    obtain⟨i,j,rfl,hi,hj⟩:=Iq g hg a ha;exact o6 hi hj
   rw[oZ]at this;exact this
  have Ej:=TD.sT Iq;have Ub:gs≠[]:=fun z=>by
   obtain⟨i,j,h1,_⟩:=jY IT w0 (dq w0.ne);obtain⟨g,hg,_⟩:=TD.all _ (gN.way VZ ⟨w0,V1.symm⟩ (dq w0.ne) (dq w0.ne));rw[z]at hg;cases hg
  have hW:=W3.1;refine⟨r,rfl,⟨_, .of xr⟩,fun D hD=>?_⟩;refine fv (xs:=us) (fun k ys bj H'=>(∃u,bj=[u,some (.ref x),some (.int W)])∧H' D=some (.lst ys)∧ax H3 H'∧∃ds,b_ (fun b=>H2 b=none∧b≠D) H' ay ys ds∧ds.map Fd.pairs=gs.take k∧∀d∈ds,OU f1 c.out c.into W d) ⟨⟨_,rfl⟩,ae,ZF hD,[], .nil,rfl,fun d h=>(by cases h)⟩ ?_ ?_ ?_
  ·rintro k ys bj H' _ ⟨_,_,s4,_⟩;exact .of (s4 _ _ xr)
  ·rintro k v ys bj H' hv ⟨⟨u,rfl⟩,JI,s4,ds,F4,Po,bX⟩;have hk:k<gs.length:=by rw[←hW];exact(Z' hv).1
   have ek:gs[k]?=some gs[k]:=by simp[hk]
   have jb:gs[k]∈gs:=List.getElem_mem hk;generalize gs[k]=g at ek jb;obtain⟨pa,V5,k1,k2,k3⟩:=W3.2 k g ek;rw[hv]at k1;cases k1;have Uc:=Ms k pa hv;have Pp:pa≠D:=fun z=>by rw[z,hD]at k2;cases k2
   obtain⟨gn,Pq⟩:∃gn:List (Nat×Nat),g=gn.map aR:=by
    refine⟨g.map fun a=>(a.1.toNat,a.2.toNat),?_⟩;rw[List.map_map]
    conv=>lhs;rw[←List.map_id g]
    apply List.map_congr_left;intro a ha;obtain⟨i,j,rfl,_⟩:=Iq g jb a ha;simp[aR]
   obtain⟨i0,j0,z5,z6,z7,z8⟩:∃i j:Nat,dG f1 c.out c.into i j=some W∧i<n∧j<m∧aR (i,j)∈g:=by
    obtain⟨a,ha⟩:=List.exists_mem_of_ne_nil _ (TD.ne g jb);obtain⟨i,j,h1,h2,h3,h4⟩:=Dg TP IT (TD.mem jb ha);exact⟨i,j,h1,h2,h3,(TD.cls g jb a ha _).mpr h4⟩
   have Ud:gn.filter (fun q=>decide (dG f1 c.out c.into q.1 q.2=some W))≠[]:=fun z=>by
    rw[Pq]at z8;obtain⟨q9,YG,e9⟩:=List.mem_map.mp z8;obtain⟨YH,YI⟩:=iM (a:=q9.1) (b:=q9.2) e9;have:q9∈gn.filter (fun q=>decide (dG f1 c.out c.into q.1 q.2=some W)):=List.mem_filter.mpr ⟨YG,by rw[YH,YI];simpa using z5⟩;rw[z]at this;cases this
   obtain⟨ud,Ij⟩:∃q0,(gn.filter fun q=>decide (dG f1 c.out c.into q.1 q.2=some W))[0]?=some q0:=by
    cases e9:gn.filter (fun q=>decide (dG f1 c.out c.into q.1 q.2=some W))with
    |nil=>exact ZE e9 Ud
    |cons a r=>exact⟨a,rfl⟩
   have Pt:=List.mem_filter.mp (ZO Ij);have Ue:dG f1 c.out c.into ud.1 ud.2=some W:=by simpa using Pt.2
   have YJ:=V4.keep (s3.trans s4);refine lK ?_;refine⟨_,rfl,_,rfl,_,rfl,x,dx,e,b,es,bs,f1,c.out,c.into,n,m,W,pa,V5,gn,ud,rfl,YJ,s4 _ _ k2,by rw[←Pq];exact k3.same s4,fun q hq=>?_,Ij,hn,?_,fun H5 y dy wy rw iz s5 hy L5 DM JJ YK aaK Ug P5 Ua=>?_⟩
   ·have:aR q∈g:=by rw[Pq];exact List.mem_map.mpr ⟨q,hq,rfl⟩
    obtain⟨i,j,h1,h2,h3⟩:=Iq g jb _ this;obtain⟨h4,h5⟩:=iM (a:=q.1) (b:=q.2) h1
    lia
   ·have:=rA g jb;rw[Pq,List.length_map]at this
    lia
   ·obtain⟨v1,v2,v3,v4⟩:=HR f1 c.out c.into ud.1 ud.1 ud.2 W Zn Ue;have ZM:=F4.1;have aaH:ds.length=k:=by
     have:=congrArg List.length Po;rw[List.length_map,List.length_take]at this
     lia
    have nD:∀{z},H' z=none→z≠D:=fun h z=>by rw[z,JI]at h;cases h
    have Uh:ax H2 H':=s3.trans s4;refine⟨s5 _ _ JI,a9 Mm,⟨_,rfl⟩,ae,(s4.trans s5).eI hD,ds++[⟨W,(eK f1 c.out c.into ud.1 ud.1 ud.2).map aR,zK (lf f1) c.out c.into ((eK f1 c.out c.into ud.1 ud.1 ud.2).map aR),g⟩],?_,?_,fun d hd=>?_⟩
    ·refine b_.append (F4.keep (fun b o hb e=>by rw[ak hb.2];exact s5 _ _ e) (fun a v e=>by rw[ak (fun z=>by rw[z,JI]at e;cases e)];exact s5 _ _ e) fun _ h=>h) ⟨rfl,fun k9 d9 e9=>?_⟩;have YN:k9=0:=by
      have:=(Z' e9).1;simp at this
      lia
     subst YN;have e9:=(ZV e9).symm;subst e9;have T5:c7 H5 (upd H5 D (.lst (ys++[.ref y]))):=c7.lst (s5 _ _ JI);refine⟨y,dy,wy,rw,pa,iz,V5,rfl,⟨by rw[ak (nD hy)];exact YK,by rw[ak (nD DM)];exact Ug,P5.cC T5,?_,by rw[ak Pp];exact s5 _ _ (s4 _ _ k2),((k3.same s4).same s5).cC T5,⟨Uh.free hy,nD hy⟩,⟨Uh.free DM,nD DM⟩,⟨Uh.free JJ,nD JJ⟩,⟨Uc,Pp⟩⟩⟩;rw[ak (nD JJ),Ua]
     congr 2
     have:=congrArg (List.map bC) v4;rw[List.map_map,List.map_map]at this;exact this
    ·rw[List.map_append,Po,List.take_succ,ek];rfl
    ·rcases List.mem_append.mp hd with hd|hd
     ·exact bX d hd
     ·have:d=⟨W,(eK f1 c.out c.into ud.1 ud.1 ud.2).map aR,zK (lf f1) c.out c.into ((eK f1 c.out c.into ud.1 ud.1 ud.2).map aR),g⟩:=by simpa using hd
      subst this;refine⟨rfl,⟨v1,v3⟩,rfl,fun q hq=>?_⟩;have Pk:aR ud∈g:=by rw[Pq];exact List.mem_map.mpr ⟨_,Pt.1,rfl⟩
      have v2:lstP ((eK f1 c.out c.into ud.1 ud.1 ud.2).map aR)=aR ud:=v2;exact(TD.cls g jb _ Pk q).mpr (.way _ ⟨v1,v3⟩ (by rw[←v2];exact dq v1.ne) hq)
  ·rintro ys bj H' ⟨_,JI,s4,ds,F4,Po,bX⟩;rw[hW,List.take_length]at Po;have sA:=uF.trans (s3.trans s4);exact q1 W gs ds ⟨TP,⟨VZ,w0,V1.symm⟩,hle,TD,Po,bX⟩ Ub _ D ys sA ((uF.trans s3).free hD) JI (F4.keep (fun _ _ _ h=>h) (fun _ _ h=>h) fun b hb=>uF.free hb.1)
theorem ic:aM ["worths","findings","finding","i","j"] ["worths","findings"] (ar kL):=⟨rfl,rfl,rfl,by decide+kernel,rfl,by decide+kernel,by decide+kernel⟩
include T Fc in
theorem uT{f:Addr}{fd:FuncData}(F:jw K "shut_pairs" "shut_pairs" kL f fd):a7 P w K mg base (cW P w) true 1 f fd ["worths","findings"] (tU ay):=by
 refine F.gM ic ZQ (fun bS A outer s H vs Q E hr h hX=>?_)
 ·obtain⟨w,md,as,us,ds,f,n,m,rfl,_⟩:=h;rfl
 ·obtain⟨w,md,as,us,ds,f1,n,m,rfl,hw,OF,nw,TA,V6,YO,FL,lI,q⟩:=h;refine⟨_,(WX (Α hX.own (Β K ZC) (Z1 (2) ic.nd) (WX (Α hX.own (Β K (Ν K (pv 2))) (η K (2) (by exact rfl) (Zz (Z1 (3) ic.nd) (Zz (Z1 (4) ic.nd) fJ))) (WX (@zO _ _ _ _ _ _ jU (@Ka _ _ _ _ _ _ _ (Z6 Xd (pv 3)) (pv 4) set_list (by intro _;rfl)) (ZA) (ZA) (ZA))))))),?_⟩;have rows:∀a∈as,∃xs,H a=some (.lst xs):=fun a ha=>by
   obtain⟨k,hk,ek⟩:=List.mem_iff_getElem.mp ha;exact⟨_,TA.row k a (by rw[Θ hk,ek])⟩
  have cC:∀H',(∀b o,b∉as→H b=some o→H' b=some o)→c7 H H':=fun H' k t v e=>k t _ (fun z=>by
   obtain⟨xs,h⟩:=rows t z;rw[e]at h;cases h) e
  have hlen:=FL.1;refine⟨_,rfl,md,rfl,⟨_, .of V6⟩,?_⟩;refine bU (xs:=us) (fun k σ H1=>(∃u1 u2 u3,σ=[some (.ref w),some (.ref md),u1,u2,u3])∧(∀b o,b∉as→H b=some o→H1 b=some o)∧ja H1 as (iu f1 ((ds.take k).map Fd.pairs).flatten) n m) ⟨⟨_,_,_,rfl⟩,fun _ _ _ h=>h,TA⟩ ?_ ?_ ?_
  ·rintro k σ H1 _ ⟨_,k1,_⟩;exact .of (k1 _ _ YO V6)
  ·rintro k v σ H1 hv ⟨⟨u1,u2,u3,rfl⟩,k1,T1⟩;have hk:k<ds.length:=by rw[←hlen];exact(Z' hv).1
   have ek:ds[k]?=some ds[k]:=by simp[hk]
   have jb:ds[k]∈ds:=List.getElem_mem hk;generalize ds[k]=d at ek jb;obtain⟨a,dy,wy,iF,pr,lr,iz,e1,F⟩:=FL.2 k d ek;rw[hv]at e1;cases e1;have uJ:=F.pp.1;have et:((ds.take (k+1)).map Fd.pairs).flatten=((ds.take k).map Fd.pairs).flatten++d.pairs:=by
    rw[List.take_succ,ek,List.map_append,List.flatten_append];simp
   refine⟨_,rfl,a,ay,dy,_,_,rfl,k1 _ _ F.fa F.ob,Fc.cl,Fc.pairs,ip d.worth wy iF pr,pr,rfl,⟨_, .of (k1 _ _ F.fp F.hp)⟩,?_⟩;refine bU (xs:=iz) (fun l σ H2=>(∃u2 u3,σ=[some (.ref w),some (.ref md),some (.ref a),u2,u3])∧(∀b o,b∉as→H b=some o→H2 b=some o)∧ja H2 as (iu f1 (((ds.take k).map Fd.pairs).flatten++d.pairs.take l)) n m) ⟨⟨_,_,rfl⟩,k1,by simpa using T1⟩ ?_ ?_ ?_
   ·rintro l σ H2 _ ⟨_,k2,_⟩;exact .of (k2 _ _ F.fp F.hp)
   ·rintro l v σ H2 Rb ⟨⟨v2,v3,rfl⟩,k2,T2⟩;have hl:l<d.pairs.length:=by rw[←uJ];exact(Z' Rb).1
    have el:d.pairs[l]?=some d.pairs[l]:=by simp[hl]
    have hq:=lI d jb d.pairs[l] (List.getElem_mem hl);generalize d.pairs[l]=g at el hq;obtain⟨i,j,rfl,hi,hj⟩:=hq;obtain⟨t,g1,g2⟩:=F.pp.2 l _ el;rw[Rb]at g1;cases g1;have kt:=cC H2 k2 _ _ g2;refine⟨t,_,rfl, .of kt,rfl,_,_,rfl,_,_,rfl,rfl,?_⟩;obtain⟨ra,r1,r2,r3⟩:=T2.at hi;have QT:ra∈as:=ZO r1;refine⟨_,rfl,_,rfl,w,_,_,_,rfl,rfl, .of (k2 _ _ nw hw),au r2,_,rfl,ra,_,_,j,rfl,rfl,r3,Hk (by rw[dh];exact hj),⟨_,_,rfl⟩,fun b o hb e=>?_,⟨T2.len,fun x b hb=>?_⟩⟩
    ·rw[ak (fun z=>hb (by rw[z];exact QT))];exact k2 b o hb e
    ·have V7:d.pairs.take (l+1)=d.pairs.take l++[aR (i,j)]:=by rw[List.take_succ,el];rfl
     by_cases e:b=ra
     ·have ex:x=i:=by
       obtain⟨h1,e1⟩:=Z' hb;obtain⟨h2,e2⟩:=Z' r1;exact(List.getElem_inj OF).mp (by rw[e1,e2,e])
      subst ex e;rw[ae];show some (HO.lst ((de m _).set j (bC none)))=_;rw[EV]
      congr 2
      unfold de;apply List.map_congr_left;intro y _;unfold iu;rw[V7,←List.append_assoc]
      congr 1
      dsimp only;by_cases ey:y=j
      ·subst ey;rw[if_pos rfl,if_pos V9]
      ·rw[Sn ey];have:¬aR (x,y)=aR (x,j):=fun z=>ey (iM z).2
       simp[this]
     ·rw[ak e,T2.row x b hb]
      congr 2
      unfold de;apply List.map_congr_left;intro y _;unfold iu;rw[V7,←List.append_assoc];have:¬aR (x,y)=aR (i,j):=fun z=>by
       have hk:=(iM z).1;subst hk;rw[r1]at hb;exact e (ZV hb).symm
      simp[this]
   ·rintro σ H2 ⟨⟨v2,v3,rfl⟩,k2,T2⟩;rw[uJ,List.take_length]at T2;exact⟨⟨_,_,_,rfl⟩,k2,by rw[et];exact T2⟩
  ·rintro σ H1 ⟨_,k1,T1⟩;rw[hlen,List.take_length]at T1;exact q H1 k1 (cC H1 k1) T1
variable(eA:D5 mg "FINDINGS_MOST" (.int 20))
variable(ie:bK P w K mg base true 2 "open_worths" ["first","second","terms","taken"] (tT aU))
variable(gz:bK P w K mg base true 7 "make_round" ["worths","terms"] (o7 aU ay))
variable(iT:bK P w K mg base true 1 "shut_pairs" ["worths","findings"] (tU ay))
variable(kU:bK P w K mg base true 1 "order_of" ["finding"] (tL ay))
variable(ko:Er K mg "TooMany" kg)
theorem jj:aM ["first","second","terms","worths","findings","made"] ["first","second","terms"] (ar qJ):=⟨rfl,rfl,rfl,by decide+kernel,rfl,by decide+kernel,by decide+kernel⟩
include T ji eA ie gz iT kU ko in
theorem AX{f:Addr}{fd:FuncData}(F:jw K "compare" "compare" qJ f fd):a7 P w K mg base (cW P w) true 8 f fd ["first","second","terms"] (xl aU ay kg):=by
 refine F.gM jj ZQ (fun bS A outer s H vs Q E hr h hX=>?_)
 ·obtain⟨a,b,t,c,rfl,_⟩:=h;rfl
 ·obtain⟨a,b,t,c,rfl,ha,hb,TF,hx,hy,q1,q2⟩:=h;refine⟨_,(YM (Z0 (3) jj.nd (Z5 ie aO (Z_ Xd (Z_ ZC (Z_ (pv 2) (Z2 jU)))))) (YM (Z0 (4) jj.nd (@bR _ _ _ _ af)) (YM (Z0 (5) jj.nd (Z5 gz aO (μ (pv 3)))) (YM (@sM _ _ _ _ _ _ hX.own (Zk rq (Z7 (aL K) T.cX (Z2 (pv 5))) ai (aV _)) (YM (Zt (Λ K PySem.F.slot_list_extend PySem.F.type_list_extend vH (pv 4) (Z2 (pv 5)))) (YM (Zr (Zk rq (Z7 (aL K) T.cX (Z2 (pv 4))) (ζ eA) (aV _)) (WX (@i9 _ _ _ _ _ _ _ _ _ _ hX Zv (by exact rfl) ko.m ko.e (Z2 (@mw _ _ _ _ _ _ (@fu _ _ _ _ _ dX (@fu _ _ _ _ _ (@qk _ _ _ _ (ζ eA)) (@fu _ _ _ _ _ dX wG))))) (U7) (ZA) (ZA))) aQ) (YM (Zt (Z5 iT aO (Z_ (pv 3) (Z2 (pv 5))))) (WX (Z0 (5) jj.nd (Z5 gz aO (μ (pv 3))))))))) (WX (ZS (@Fp _ K _ _ _ _ _ _ _ _ _ _ _ kU (hr.mono (U7)) (pv 4) (by exact rfl) ji (ZA) (U7) (ZA) (ZA)))))))),?_⟩;have Au:c.xs.length*c.ys.length≤3000:=Nat.le_trans (Nat.mul_le_mul hx hy) (U7);have Ui:=K6 c [];refine⟨fun σ H1=>∃w as,σ=[some (.ref a),some (.ref b),some (.ref t),some (.ref w),none,none]∧ax H H1∧H1 w=some (.lst (as.map V.ref))∧ja H1 as (jm c []) c.xs.length c.ys.length∧as.Nodup∧w∉as∧∀a∈as,H a=none,?_,?_⟩
  ·exact⟨_,rfl,_,rfl,_,rfl,a,b,t, .cK,c,[],rfl,ha,hb,TF, .inl ⟨rfl,rfl⟩,Wv,by lia,by lia,fun H1 w as s1 h1 _ h3 h4 h5 h6=>⟨w,as,rfl,s1,h1,h3,h4,h5,h6⟩⟩
  rintro σ H1 ⟨w,as,rfl,s1,rY,Uj,OF,nw,has⟩;refine⟨fun σ H2=>∃fl,σ=[some (.ref a),some (.ref b),some (.ref t),some (.ref w),some (.ref fl),none]∧ax H1 H2∧H1 fl=none∧H2 fl=some (.lst []),⟨aF V9,fun fl h=>⟨fl,rfl,ZF h,h,ae⟩⟩,?_⟩;rintro σ H2 ⟨fl,rfl,s2,L8,Pu⟩;have alloc:∀x∈as,∃xs,H1 x=some (.lst xs):=fun x hx=>by
   obtain⟨k,hk,ek⟩:=List.mem_iff_getElem.mp hx;exact⟨_,Uj.row k x (by rw[Θ hk,ek])⟩
  have V8:fl∉as:=fun z=>by
   obtain⟨xs,h⟩:=alloc fl z;rw[L8]at h;cases h
  have Ir:w≠fl:=aE rY L8;have rd:∀f H3,(∀x∈as,∃xs,H3 x=some (.lst xs))→H3 w=some (.lst (as.map V.ref))→ja H3 as f c.xs.length c.ys.length→ax H H3→∀done,Reach (jm c []) c.out c.into c.least done f→∀(Q':VK)(E':XK),(∀H4 r,ax H3 H4→H3 r=none→∀us ds,H4 r=some (.lst us)→b_ (fun b=>H3 b=none) H4 ay us ds→((us=[]∧ds=[]∧Stop f c.out c.into c.least)∨(us≠[]∧∃W gs,g9 f c.out c.into c.least W gs ds))→Q' (.ref r) H4)→o7 aU ay [.ref w, .ref t] H3 Q' E':=fun f H3 al h3 T3 s3 done RC Q' E' k=>by
   refine⟨w,t,as,c,f,_,_,rfl,h3,T3,TF.keep s3,RC.Tj Ui,Au,by lia,by lia,fun st H4 r s4 h4 h5=>k H4 r s4 h4 [] [] h5 .nil (.inl ⟨rfl,rfl,st⟩),fun W gs ds R Ub H4 r us s4 h4 h5 FL=>k H4 r s4 h4 us ds h5 FL (.inr ⟨fun z=>Ub ?_,W,gs,R⟩)⟩;have:=FL.1;rw[z]at this;have:ds=[]:=List.length_eq_zero_iff.mp (by simpa using this.symm);rw[←R.FO,this];rfl
  have aaQ:∀b o,b∉as→b≠fl→H1 b=some o→H2 b=some o:=fun b o _ _ e=>s2 b o e
  have MW:=s1.trans s2;refine⟨fun σ H3=>∃md us ds,σ=[some (.ref a),some (.ref b),some (.ref t),some (.ref w),some (.ref fl),some (.ref md)]∧ax H2 H3∧H2 md=none∧H3 md=some (.lst us)∧b_ (fun b=>H2 b=none) H3 ay us ds∧((us=[]∧ds=[]∧Stop (jm c []) c.out c.into c.least)∨(us≠[]∧∃W gs,g9 (jm c []) c.out c.into c.least W gs ds)),?_,?_⟩
  ·exact⟨_,rfl,_,rfl,rd _ H2 (fun x hx=>let ⟨xs,h⟩:=alloc x hx;⟨xs,s2 _ _ h⟩) (s2 _ _ rY) (Uj.same s2) MW [] .start _ _ fun H4 r s4 h4 us ds h5 FL z=>⟨r,us,ds,rfl,s4,h4,h5,FL,z⟩⟩
  rintro σ H3 ⟨md,us,ds,rfl,s3,Iu,Uk,YQ,Z3⟩;refine⟨fun σ H5=>∃md ul es f,σ=[some (.ref a),some (.ref b),some (.ref t),some (.ref w),some (.ref fl),some (.ref md)]∧ax H H5∧H5 fl=some (.lst ul)∧b_ (fun b=>H2 b=none) H5 ay ul es∧Reach (jm c []) c.out c.into c.least es f∧Stop f c.out c.into c.least∧es.length≤20,?_,?_⟩
  ·refine⟨fun mm σ H4=>∃md us ds ul es f,mm+es.length=20∧σ=[some (.ref a),some (.ref b),some (.ref t),some (.ref w),some (.ref fl),some (.ref md)]∧ax H H4∧(∀b o,b∉as→b≠fl→H2 b=some o→H4 b=some o)∧ja H4 as f c.xs.length c.ys.length∧H4 fl=some (.lst ul)∧b_ (fun b=>H2 b=none) H4 ay ul es∧Reach (jm c []) c.out c.into c.least es f∧H2 md=none∧H4 md=some (.lst us)∧b_ (fun b=>H2 b=none) H4 ay us ds∧((us=[]∧ds=[]∧Stop f c.out c.into c.least)∨(us≠[]∧∃W gs,g9 f c.out c.into c.least W gs ds)),⟨20,md,us,ds,[],[],jm c [],rfl,rfl,MW.trans s3,fun b o _ _ e=>s3 b o e,(Uj.same s2).same s3,s3 _ _ Pu, .nil, .start,Iu,Uk,YQ,Z3⟩,?_⟩;rintro mm σ H4 ⟨md,us,ds,ul,es,f1,ZN,rfl,sH,k4,T4,Iv,FE,RC,Iu,L9,FD,Z4⟩;have YR:∀x∈as,∃xs,H2 x=some (.lst xs):=fun x hx=>let ⟨xs,h⟩:=alloc x hx;⟨xs,s2 _ _ h⟩
   have P2:∀{b},H2 b=none→b∉as:=fun{b} h z=>by
    obtain⟨xs,h'⟩:=YR b z;rw[h]at h';cases h'
   have Ul:∀{b},H2 b=none→b≠fl:=fun{b} h z=>by rw[z,Pu]at h;cases h
   have Rg:=FE.1;have aaO:=FD.1;refine⟨_,rfl,md,_,rfl, .inl (.of L9),_,_,rfl,rfl,_,rfl,?_⟩;refine bf (fun hh=>?_) (fun hh=>?_)
   ·have hh:0<us.length:=by simpa using hh
    rcases Z4 with⟨z1,_,_⟩|⟨V_,W,gs,R⟩
    ·rw[z1]at hh;simp at hh
    have QW:ds.length≤c.xs.length*c.ys.length:=by
     have:=R.told.sT (n:=c.xs.length) (m:=c.ys.length) fun g hg q hq=>by
      obtain⟨ps,wp,hm⟩:=(R.told.mem hg hq).on;exact jY (RC.Tj Ui) wp.1 hm
     rw[←R.FO,List.length_map]at this;exact this
    refine⟨_,fun bj H' z=>z,?_⟩;have YS:md≠fl:=Ul Iu;refine⟨fun σ H5=>σ=[some (.ref a),some (.ref b),some (.ref t),some (.ref w),some (.ref fl),some (.ref md)]∧H5=upd H4 fl (.lst (ul++us)),⟨_,rfl, .inl ⟨rfl,_, .of Iv⟩,_,rfl,fl,md,ul,us,rfl,rfl,Iv,L9,aF Mm,rfl,rfl⟩,?_⟩;rintro σ H5 ⟨rfl,rfl⟩;have V':ax H (upd H4 fl (.lst (ul++us))):=sH.eI (s1.free L8);have Wa:c7 H4 (upd H4 fl (.lst (ul++us))):=c7.lst Iv;have YT:b_ (fun b=>H2 b=none) (upd H4 fl (.lst (ul++us))) ay ul es:=FE.keep (fun b o hb e=>by rw[ak (Ul hb)];exact e) Wa fun _ h=>h
    have Wb:b_ (fun b=>H2 b=none) (upd H4 fl (.lst (ul++us))) ay us ds:=FD.keep (fun b o hb e=>by rw[ak (Ul hb)];exact e) Wa fun _ h=>h
    have Um:=RC.round R;refine⟨fun σ H6=>σ=[some (.ref a),some (.ref b),some (.ref t),some (.ref w),some (.ref fl),some (.ref md)]∧H6=upd H4 fl (.lst (ul++us))∧(es++ds).length≤20,?_,?_⟩
    ·refine⟨_,rfl,fl,_,rfl, .inl (.of ae),_,_,rfl,rfl,_,rfl,?_⟩;refine bf (fun h9=>?_) (fun h9=>?_)
     ·have h9:20<(ul++us).length:=by
       have:(20:Int)<((ul++us).length:Nat):=by simpa using h9
       lia
      have:=q2 _ _ Um (by rw[List.length_append]at h9⊢;lia) _ V';have z:(20:Int).natAbs.log2<1920∧(Str.ofString (toString (20:Int))).length≤6:=⟨U7,by decide+kernel⟩
      have w1:(Str.ofString "there are at most ").length=18:=by decide+kernel
      have w2:(Str.ofString " findings between two books").length=27:=by decide+kernel
      have w3:=my;refine⟨_,rfl,aF ?_, .inr ⟨20,rfl,z.1,_,rfl,aF ?_,_,rfl,aF ?_,aF ?_,ik,this⟩⟩;all_goals (simp only[len_app];lia)
     ·have h9:¬20<(ul++us).length:=by
       have:¬(20:Int)<((ul++us).length:Nat):=by simpa using h9
       lia
      exact⟨rfl,rfl,by rw[List.length_append]at h9⊢;lia⟩
    rintro σ H6 ⟨rfl,rfl,hle⟩;refine⟨fun σ H7=>σ=[some (.ref a),some (.ref b),some (.ref t),some (.ref w),some (.ref fl),some (.ref md)]∧(∀b o,b∉as→upd H4 fl (.lst (ul++us)) b=some o→H7 b=some o)∧c7 (upd H4 fl (.lst (ul++us))) H7∧ja H7 as (iu f1 gs.flatten) c.xs.length c.ys.length,?_,?_⟩
    ·refine⟨_,rfl,_,rfl,w,md,as,us,ds,f1,_,_,rfl,by rw[ak Ir];exact k4 _ _ nw Ir (s2 _ _ rY),OF,nw,⟨T4.len,fun i x hx=>by rw[ak (fun z=>V8 (by rw[←z];exact ZO hx))];exact T4.row i x hx⟩,by rw[ak YS];exact L9,P2 Iu,Wb.keep (fun _ _ _ h=>h) (fun _ _ h=>h) (fun _ h=>P2 h),fun d hd q hq=>?_,fun H7 k7 t7 T7=>⟨rfl,k7,t7,by rw[←R.FO];exact T7⟩⟩;have hg:d.pairs∈gs:=by rw[←R.FO];exact List.mem_map.mpr ⟨d,hd,rfl⟩
     obtain⟨ps,wp,hm⟩:=(R.told.mem hg hq).on;exact jY (RC.Tj Ui) wp.1 hm
    rintro σ H7 ⟨rfl,k7,t7,T7⟩;have Wc:ax H H7:=fun b o e=>k7 b o (fun z=>by rw[has b z]at e;cases e) (V' b o e)
    have Wd:∀x∈as,∃xs,H7 x=some (.lst xs):=fun x hx=>by
     obtain⟨k,hk,ek⟩:=List.mem_iff_getElem.mp hx;exact⟨_,T7.row k x (by rw[Θ hk,ek])⟩
    have w7:H7 w=some (.lst (as.map V.ref)):=k7 w _ nw (by rw[ak Ir];exact k4 _ _ nw Ir (s2 _ _ rY));have F7:b_ (fun b=>H2 b=none) H7 ay (ul++us) (es++ds):=(YT.append Wb).keep (fun b o hb e=>k7 b o (P2 hb) e) t7 fun _ h=>h
    have We:H7 fl=some (.lst (ul++us)):=k7 fl _ V8 ae;refine⟨_,rfl,_,rfl,rd _ H7 Wd w7 T7 Wc _ Um _ _ fun H8 r s8 h8 YU YV YW YX Z8=>?_⟩;have Wf:∀b,H7 b=none→H2 b=none:=fun b h=>by
     cases e:H2 b with
     |none=>rfl
     |some o=>
      by_cases Uo:b∈as
      ·obtain⟨xs,h'⟩:=Wd b Uo;rw[h]at h';cases h'
      ·by_cases Px:b=fl
       ·rw[Px,We]at h;cases h
       ·rw[k7 b o Uo (by rw[ak Px];exact k4 b o Uo Px e)]at h;cases h
    refine⟨20-(es++ds).length,?_,r,YU,YV,ul++us,es++ds,_,by lia,rfl,Wc.trans s8,fun b o h1 h2 e=>s8 b o (k7 b o h1 (by rw[ak h2];exact k4 b o h1 h2 e)),T7.same s8,s8 _ _ We,F7.keep (fun b o _ e=>s8 b o e) (c7.same s8) fun _ h=>h,Um,Wf r h8,YW,YX.keep (fun _ _ _ h=>h) (fun _ _ h=>h) fun b h=>Wf b h,Z8⟩;rw[List.length_append]at hle⊢
    lia
   ·have hh:us.length=0:=by
     have:¬(0:Int)<(us.length:Nat):=by simpa using hh
     lia
    rcases Z4 with⟨_,_,z3⟩|⟨V_,_⟩
    ·exact⟨md,ul,es,f1,rfl,sH,Iv,FE,RC,z3,by lia⟩
    ·exact ZE (List.length_eq_zero_iff.mp hh) V_
  rintro σ H5 ⟨md,ul,es,f1,rfl,sH,Up,FE,RC,ST,hle⟩;have Rg:=FE.1;have AP:=RC.apart;have Py:∀d∈es,lh d.pairs∈d.pairs:=fun d hd=>by
   cases e:d.pairs with
   |nil=>exact ZE e (AP.qz d hd).2
   |cons a r=>simp[lh]
  refine⟨_,rfl,fl,ul,es.map (fun d=>(-d.worth,lh d.pairs)),rfl, .of Up,by rw[List.length_map];lia,?_,by lia,fun i v H6 hv s6=>?_,fun p H6 D hp hs s6 hD Pn=>?_⟩
  ·refine List.pairwise_map.mpr (List.Pairwise.imp_of_mem (fun{x y} hx hy Au e=>?_) AP.ap);have:=(Prod.mk.inj e).2;exact Au _ (Py x hx) (by rw[this];exact Py y hy)
  ·have hi:i<es.length:=by rw[←Rg];exact(Z' hv).1
   have ei:es[i]?=some es[i]:=by simp[hi]
   have jb:es[i]∈es:=List.getElem_mem hi;have eg:(es.map fun d=>(-d.worth,lh d.pairs)).getD i (0,(0,0))=(-es[i].worth,lh es[i].pairs):=by simp[hi]
   rw[eg];generalize es[i]=d at ei jb;obtain⟨x,dy,wy,iF,pr,lr,iz,e1,F⟩:=FE.2 i d ei;rw[hv]at e1;cases e1;exact⟨x,dy,wy,iF,pr,d.worth,iz,d.pairs,rfl,s6 _ _ F.ob,s6 _ _ F.hp,F.pp.same s6,(AP.qz d jb).2,fun H7 k t s7 hk ht=>⟨s7,k,t,rfl,hk,ht⟩⟩
  ·have rA:p.toList.Perm (Zj es.length):=by rw[←Rg];exact hp
   have L_:∀i∈p.toList,i<es.length:=fun i hi=>by simpa using rA.mem_iff.mp hi
   have dflt:Fd:=⟨0,[],[],[]⟩
   refine q1 (p.toList.map fun i=>es.getD i dflt) ⟨⟨es,f1,RC,ST,?_⟩,?_,?_⟩ _ D _ ((sH.trans s6).eI (sH.free hD)) (sH.free hD) ae ?_
   ·have e1:(Zj es.length).map (fun i=>es.getD i dflt)=es:=by
     apply List.ext_getElem
     ·simp
     ·intro i h1 h2;simp[h2]
    have:=rA.map fun i=>es.getD i dflt
    rw[e1]at this;exact this
   ·rw[List.length_map,rA.length_eq,List.length_range];exact hle
   ·rw[List.pairwise_map,List.pairwise_iff_getElem];intro i j hi hj uC;have hsz:p.size=es.length:=by have:=rA.length_eq;simpa using this
    have:=hs i j uC (by rw[Rg,←hsz];simpa using hj);have g1:gd p i=p.toList[i]:=by rw[EY];simp at hi;simp[hi]
    have g2:gd p j=p.toList[j]:=by rw[EY];simp at hj;simp[hj]
    rw[g1,g2]at this;have l1:=L_ _ (List.getElem_mem hi);have l2:=L_ _ (List.getElem_mem hj);generalize p.toList[i]=x at this l1;generalize p.toList[j]=y at this l2;unfold kl zH at this;unfold LV;simp only[List.getD_eq_getElem?_getD,List.getElem?_map,Θ l1,Θ l2,Option.map_some,Option.getD_some]at this⊢;by_cases ew:es[x].worth=es[y].worth
    ·rw[U6 ew];rw[U6 (by rw[ew])]at this;exact this
    ·rw[Sn ew];rw[Sn (fun z=>ew Mm)]at this;simp at this⊢
     lia
   ·refine⟨Wv,fun k d hk=>?_⟩;rw[List.getElem?_map]at hk;cases e:p.toList[k]? with
    |none=>rw[e]at hk;cases hk
    |some i=>
     rw[e]at hk;have hi:=L_ i (ZO e);have hd:es.getD i dflt=d:=by simpa using hk
     have ei:es[i]?=some d:=by rw[←hd];simp[hi]
     obtain⟨x,dy,wy,iF,pr,lr,iz,e1,F⟩:=FE.2 i d ei;have nD:∀{b o},H5 b=some o→b≠D:=fun h z=>by rw[z,hD]at h;cases h
     refine⟨x,dy,wy,iF,pr,lr,iz,?_,F.ob|>fun h=>⟨by rw[ak (nD h)];exact s6 _ _ h,by rw[ak (nD F.hw)];exact s6 _ _ F.hw,(F.pw.same s6).same (ZF Pn),by rw[ak (nD F.hr)];exact s6 _ _ F.hr,by rw[ak (nD F.hp)];exact s6 _ _ F.hp,(F.pp.same s6).same (ZF Pn),MW.free F.fa,MW.free F.fw,MW.free F.fr,MW.free F.fp⟩⟩;rw[List.getElem?_map,e];show some (ul.getD i .cK)=_;simp[e1]
theorem AY:aM ["_law_script","_law_k"] ["_law_script","_law_k"] (ar qK):=⟨rfl,rfl,rfl,by decide+kernel,rfl,by decide+kernel,by decide+kernel⟩
include T in
theorem AZ{f:Addr}{fd:FuncData}(F:jw K "_law_at" "_law_at" qK f fd):a7 P w K mg base (cW P w) true 1 f fd ["_law_script","_law_k"] (Ez K):=by
 refine F.gM AY ZQ (fun bS A outer s H vs Q E hr h hX=>?_)
 ·obtain⟨a,ns,k,rfl,_⟩:=h;rfl
 ·obtain⟨a,ns,k,rfl,hS,h0,q⟩:=h;refine⟨_,(Xc (Zr (Zk mY ZC (Z7 (aL K) T.cX (Z2 Xd)) (aV _)) (WX (ZS (Z6 Xd (pv 1)))) aQ) (WX (ZS ai))),?_⟩;refine⟨_,rfl,_,rfl,a,_,rfl, .inl hS,_,_,rfl,rfl,_,rfl,?_⟩;refine bf (fun h=>?_) (fun h=>?_)
  ·have h:k<((ns.map V.int).length:Int):=by simpa using h
   rw[List.length_map]at h;exact⟨_,rfl,_,rfl,a,_,k,_,rfl,rfl,hS,Hf h0 h,q⟩
  ·have h:¬k<((ns.map V.int).length:Int):=by simpa using h
   rw[List.length_map]at h;rw[cell_out h0 h]at q;exact q
theorem uU:aM ["_law_found"] ["_law_found"] (ar kM):=⟨rfl,rfl,rfl,by decide+kernel,rfl,by decide+kernel,by decide+kernel⟩
include T in
theorem uV{f:Addr}{fd:FuncData}(F:jw K "_law_whole" "_law_whole" kM f fd):a7 P w K mg base (cW P w) true 1 f fd ["_law_found"] s_:=by
 refine F.gM uU ZQ (fun bS A outer s H vs Q E hr h hX=>?_)
 ·obtain⟨i,rfl,_⟩:=h;rfl
 ·obtain⟨i,rfl,q⟩:=h;refine⟨_,(WX (ZS (@wk _ _ _ _ _ _ _ (γ (f6 K) T.cY PyProof.Rows.Boot.«isinstance» (Z_ Xd (Z2 (@ju _ _ (.ty "int") _ _ (by exact rfl) T.Bw PyProof.Rows.Boot.«int» Zv (U7) (U7))))) (@wj _ _ _ _ _ (@J8 _ _ _ _ (γ (f6 K) T.cY PyProof.Rows.Boot.«isinstance» (Z_ Xd (Z2 (@ju _ _ (.ty "bool") _ _ (by exact rfl) T.KU PyProof.Rows.Boot.«bool» Zv (U7) (U7)))))))))),?_⟩;refine⟨_,rfl,_,_,_,true,_,rfl,rfl, .int i,rfl,_,rfl,?_⟩;refine jV ?_;exact⟨_,rfl,_,_,_,false,_,rfl,rfl, .int i,by kernel_rfl,_,rfl,q⟩
theorem bE:aM ["_law_cell","_law_other","_law_many","_law_letters","_law_stem","_law_rest","_law_k","_law_size","_law_found","_law_spot","_law_sign"] ["_law_cell","_law_other","_law_many"] (ar lU):=⟨rfl,rfl,rfl,by decide+kernel,rfl,by decide+kernel,by decide+kernel⟩
include T in
theorem xt{f:Addr}{fd:FuncData}(F:jw K "_law_bank" "_law_bank" lU f fd):a7 P w K mg base (cW P w) true 1 f fd ["_law_cell","_law_other","_law_many"] t5:=by
 refine F.gM bE ZQ (fun bS A outer s H vs Q E hr h hX=>?_)
 ·obtain⟨cell,other,many,rfl,_⟩:=h;rfl
 ·obtain⟨cell,other,many,rfl,Uq,hm,q⟩:=h;have ZP:=Hj;have Wg:(0:Int)<26:=U7;have Wh:(0:Int)<12:=U7;refine⟨_,(Xc (Z0 (3) bE.nd dX) (Xc (Z0 (4) bE.nd dX) (Xc (Z0 (5) bE.nd (XI dY Xd ai)) (Xc (Α hX.own (@eD _ _ _ _ _ _ (by exact rfl) T.fO (Z2 ai) (ZA)) (Z1 (6) bE.nd) (Xc (Z0 (4) bE.nd (XI nB (pv 4) (Ζ Ef (pv 3) (XI bJ (pv 5) ai)))) (WX (Z0 (5) bE.nd (XI dY (pv 5) ai))))) (Xc (Z0 (7) bE.nd (XI bA ai (XI bJ (XI dY Xd ai) ai))) (Xc (Z0 (8) bE.nd (@bR _ _ _ _ af)) (Xc (Α hX.own (@eD _ _ _ _ _ _ (by exact rfl) T.fO (Z2 (pv 2)) (ZA)) (Z1 (6) bE.nd) (WX (Zr (Zk jv (XI bJ Xd ai) ai (aV _)) (WX (Zt (Λ K PySem.F.slot_list_append PySem.F.type_list_append bQ (pv 8) (Z2 (@ka _ _ _ _ _ _ _ _ _ _ Ae (pv 4) oE (@kC _ _ _ (XI bA ai (XI bJ (XI bA (pv 7) (pv 6)) ai)))))))) (Xc (Z0 (9) bE.nd (XI bJ ZC (pv 7))) (Xc (Z0 (10) bE.nd (Ζ Ef (pv 3) (XI bJ (XI bA (XI dY ZC ai) (pv 6)) ai))) (WX (Zt (Λ K PySem.F.slot_list_append PySem.F.type_list_append bQ (pv 8) (Z2 (XI nB (XI nB (@ka _ _ _ _ _ _ _ _ _ _ Ae (pv 4) oE (@kC _ _ _ (pv 9))) (pv 10)) (@ka _ _ _ _ _ _ _ _ _ _ Ae (pv 4) (@kC _ _ _ (XI bA (pv 9) ai)) (@kC _ _ _ (pv 7))))))))))))) (WX (ZS (pv 8)))))))))),?_⟩;refine⟨_,rfl,_,_,rfl,rfl,⟨U7,U7⟩,?_⟩;refine⟨12,rfl,U7,U7,?_⟩;refine ft (fun i σ H'=>H'=H∧∃(bM:Str)(rest:Int)(kv:Option V),tZ i (cell/24)=(bM,rest)∧bM.length=i∧lows bM∧σ=[some (.int cell),some (.int other),some (.int many),some (.str Og),some (.str bM),some (.int rest),kv,none,none,none,none]) ⟨rfl,_,_,_,rfl,(by decide+kernel),(show(Str.ofString "").cps.toList.all low=true by decide+kernel),rfl⟩ ?_ ?_
  ·rintro i σ H' hi ⟨rfl,bM,rest,kv,he,hl,L',rfl⟩;have hi:i<12:=hi;refine⟨_,rfl,_,rfl,_,rfl,_,_,rfl,rfl,Wg,_,_,_,rfl,rfl,aF Mm,EG,_,_,rfl,rfl,aF (show bM.length+1≤100000 by lia),?_⟩;refine⟨_,rfl,_,_,rfl,rfl,⟨U7,U7⟩,rfl,_,_,_,by simp[tZ,he],?_,?_,rfl⟩
   ·rw[len_app,hl];rfl
   ·have h1:bM.cps.toList.all low=true:=L';have h2:=Bz rest;unfold lows;rw[oP,List.all_append,h1];simp[h2]
  ·rintro σ H' ⟨rfl,bM,rest,kv,he,hl,L',rfl⟩;have he:tZ 12 (cell/24)=(bM,rest):=he;have hl:bM.length=12:=hl;refine⟨_,rfl,_,_,rfl,rfl,⟨U7,U7⟩,_,_,rfl,rfl,Wh,_,_,rfl,rfl,?_⟩;have z0:1≤1+cell/2%12∧1+cell/2%12≤12:=by lia
   refine⟨aF V9,fun D hD=>?_⟩;refine⟨_,rfl,many,rfl,by lia,by lia,?_⟩;refine ft (fun i σ H2=>(∃u v w,σ=[some (.int cell),some (.int other),some (.int many),some (.str Og),some (.str bM),some (.int rest),u,some (.int (1+cell/2%12)),some (.ref D),v,w])∧H2 D=some (.lst (((Zj i).map (jy bM cell other)).map V.str))∧ax H' H2) ⟨⟨_,_,_,rfl⟩,ae,ZF hD⟩ ?_ ?_
   ·rintro i σ H2 hi ⟨⟨u,v,w,rfl⟩,l0,s2⟩;have hi:i<12:=by lia
    have nx:∀z,z=jy bM cell other i→(Zj i).map (fun k=>V.str (jy bM cell other k))++[V.str z]=((Zj (i+1)).map (jy bM cell other)).map V.str:=fun z e=>by
     rw[List.range_succ,e];simp
    have gR:(((Zj i).map (jy bM cell other)).map V.str).length<sizeLine:=a9 (by simp;lia);refine⟨_,rfl,_,_,rfl,rfl,(show(0:Int)<2 by decide),rfl,_,rfl,?_⟩;refine bf (fun h=>?_) (fun h=>?_)
    ·have h:cell%2=1:=by simpa using h
     refine⟨_,rfl, .inl ⟨rfl,_, .of l0⟩,_,rfl,_,rfl,_,rfl,_,_,rfl,rfl,_,_,rfl,rfl,Wh,_,_,rfl,rfl,_,rfl,bM,rfl,aF Mm,D,_,_,rfl,rfl,l0,gR,⟨_,_,_,rfl⟩,?_,s2.eI hD⟩;rw[ae];have:=nx (Txt.slice bM none (some (1+(1+cell/2%12+(0+(i:Int)))%12))) (by simp[jy,h]);rw[←this];simp
    ·have h:¬cell%2=1:=by simpa using h
     have z1:0≤other%(1+cell/2%12)∧other%(1+cell/2%12)<1+cell/2%12:=⟨Int.emod_nonneg _ (by lia),Int.emod_lt_of_pos _ (by lia)⟩
     have b1:=vL bM none (some (other%(1+cell/2%12)));have b2:=vL bM (some (other%(1+cell/2%12)+1)) (some (1+cell/2%12));refine⟨_,rfl,_,rfl,_,_,rfl,rfl,(show(0:Int)<1+cell/2%12 by lia),?_⟩;refine⟨_,rfl,_,rfl,_,_,rfl,rfl,⟨U7,U7⟩,_,rfl,_,_,rfl,rfl,_,_,rfl,rfl,Wg,_,_,_,rfl,rfl,aF Mm,EG,?_⟩;refine⟨_,rfl, .inl ⟨rfl,_, .of l0⟩,_,rfl,_,rfl,_,rfl,bM,rfl,aF Mm,_,rfl,_,_,rfl,rfl,aF (show(Txt.slice bM none (some (other%(1+cell/2%12)))).length+1≤100000 by lia),_,rfl,_,rfl,_,_,rfl,rfl,_,rfl,_,rfl,_,rfl,bM,rfl,aF Mm,_,_,rfl,rfl,?_,D,_,_,rfl,rfl,l0,gR,⟨_,_,_,rfl⟩,?_,s2.eI hD⟩
     ·rw[len_app];exact aF (show(Txt.slice bM none (some (other%(1+cell/2%12)))).length+1+_≤100000 by lia)
     rw[ae];have:=nx (Txt.slice bM none (some (other%(1+cell/2%12)))++⟨#[97+((other/12+(0+(i:Int)))%26).toNat]⟩++Txt.slice bM (some (other%(1+cell/2%12)+1)) (some (1+cell/2%12))) (by simp[jy,h]);rw[←this];simp
   ·rintro σ H2 ⟨⟨u,v,w,rfl⟩,l0,s2⟩;refine⟨_,rfl,q H2 D _ s2 hD l0 V9 ?_ (Aj hl cell other (by lia)) (by unfold zb;rw[he])⟩;intro z hz;obtain⟨k,_,rfl⟩:=List.mem_map.mp hz;exact EJ hl L' cell other k
variable(aW:bK P w K mg base true 1 "_law_at" ["_law_script","_law_k"] (Ez K))
theorem gA:aM ["_law_script","_law_cell","_law_spot","_law_many","_law_bank_here","_law_book_here","_law_rest","_law_k"] ["_law_script","_law_cell","_law_spot","_law_many","_law_bank_here"] (ar lV):=⟨rfl,rfl,rfl,by decide+kernel,rfl,by decide+kernel,by decide+kernel⟩
include T aW in
theorem xu{f:Addr}{fd:FuncData}(F:jw K "_law_book" "_law_book" lV f fd):a7 P w K mg base (cW P w) true 2 f fd ["_law_script","_law_cell","_law_spot","_law_many","_law_bank_here"] (wR K):=by
 refine F.gM gA ZQ (fun bS A outer s H vs Q E hr h hX=>?_)
 ·obtain⟨a,b,ns,zs,c,p,m,rfl,_⟩:=h;rfl
 ·obtain⟨a,b,ns,zs,c,p,m,rfl,hS,hb,⟨YY,Mw⟩,YZ,Uq,DO,q⟩:=h;refine⟨_,(Xc (Z0 (5) gA.nd (@bR _ _ _ _ af)) (Xc (Z0 (6) gA.nd ZC) (Xc (Α hX.own (@eD _ _ _ _ _ _ (by exact rfl) T.fO (Z2 (pv 3)) (ZA)) (Z1 (7) gA.nd) (Xc (Zt (Λ K PySem.F.slot_list_append PySem.F.type_list_append bQ (pv 5) (Z2 (Z6 (pv 4) (XI bJ (XI bA (XI bA (pv 6) (pv 7)) (Z5 aW aO (Z_ Xd (Z2 (XI bA (pv 2) (pv 7)))))) (Z7 (aL K) T.cX (Z2 (pv 4)))))))) (WX (Z0 (6) gA.nd (XI dY (pv 6) (Z7 (aL K) T.cX (Z2 (pv 4)))))))) (WX (ZS (pv 5)))))),?_⟩;refine⟨aF V9,fun l hl=>?_⟩;refine⟨_,rfl,?_⟩;refine⟨_,rfl,m,rfl,by lia,by lia,?_⟩;refine ft (fun i σ H'=>(∃r u,σ=[some (.ref a),some (.int c),some (.int p),some (.int m),some (.ref b),some (.ref l),some (.int r),u])∧ax H H'∧∃ws:List Str,H' l=some (.lst (ws.map V.str))∧ws.length=i∧∀w∈ws,w∈zs) ⟨⟨_,_,rfl⟩,ZF hl,[],ae,rfl,fun w hw=>by cases hw⟩ ?_ ?_
  ·rintro i σ H' hi ⟨⟨r,u,rfl⟩,s1,ws,lb,rY,Ma⟩;have hi:i<m.toNat:=hi;have jg:=s1 _ _ hb;have z0:0≤(r+(0+(i:Int))+cell ns (p+(0+(i:Int))))%(zs.length:Int):=Int.emod_nonneg _ (by lia);have z1:(r+(0+(i:Int))+cell ns (p+(0+(i:Int))))%(zs.length:Int)<(zs.length:Int):=Int.emod_lt_of_pos _ (by lia);obtain⟨w,hw,v5⟩:=Ai zs z0 z1;have el:(zs.map V.str).length=zs.length:=List.length_map ..;refine⟨_,rfl, .inl ⟨rfl,_, .of lb⟩,_,rfl,_,rfl,_,rfl,_,_,rfl,rfl,_,rfl,_,rfl,_,rfl,_,_,rfl,rfl,a,ns,_,rfl,s1.seq hS,by lia,_,_,rfl,rfl,_,rfl,b,_,rfl, .inl (.of jg),_,_,rfl,rfl,(by rw[el];show(0:Int)<_;lia),b,_,_,_,rfl,rfl, .of jg,(by rw[el];exact v5),l,_,_,rfl,rfl,lb,a9 (by rw[List.length_map];lia),?_⟩;have Ie:b≠l:=aE hb hl;have xk:upd H' l (.lst (ws.map V.str++[.str w])) b=some (.lst (zs.map V.str)):=by rw[ak Ie];exact jg
   refine⟨_,rfl,_,rfl,b,_,rfl, .inl (.of xk),_,_,rfl,rfl,⟨by rw[el];lia,by rw[el];lia⟩,⟨_,_,rfl⟩,s1.eI hl,ws++[w],?_,by simp[rY],?_⟩
   ·rw[ae];simp
   ·intro x hx;rcases List.mem_append.mp hx with hx|hx
    ·exact Ma x hx
    ·have:x=w:=by simpa using hx
     rw[this];exact hw
  ·rintro σ H' ⟨⟨r,u,rfl⟩,s1,ws,lb,rY,Ma⟩;exact⟨_,rfl,q H' l ws s1 hl lb rY Ma⟩
theorem cw:aM ["_law_script","_law_cell","_law_spot","_law_many","_law_first","_law_bank_here","_law_book_here","_law_rest","_law_place","_law_k","_law_pick"] ["_law_script","_law_cell","_law_spot","_law_many","_law_first","_law_bank_here"] (ar iP):=⟨rfl,rfl,rfl,by decide+kernel,rfl,by decide+kernel,by decide+kernel⟩
include T aW in
theorem uW{f:Addr}{fd:FuncData}(F:jw K "_law_quote" "_law_quote" iP f fd):a7 P w K mg base (cW P w) true 2 f fd ["_law_script","_law_cell","_law_spot","_law_many","_law_first","_law_bank_here"] (tD K):=by
 refine F.gM cw ZQ (fun bS A outer s H vs Q E hr h hX=>?_)
 ·obtain⟨a,b,x,ns,zs,Mb,c,p,m,rfl,_⟩:=h;rfl
 ·obtain⟨a,b,x,ns,zs,Mb,c,p,m,rfl,hS,hb,hx,⟨YY,Mw⟩,yh,Rh,YZ,Uq,DO,q⟩:=h;have hu:=hr.units;have JE:(A.deeper (Ψ "_law_quote" (ar iP) f bS)).units<cLine:=by lia
  have c8:(0:Int)<8:=U7;refine⟨_,(Xc (Z0 (6) cw.nd (@bR _ _ _ _ af)) (Xc (Z0 (7) cw.nd ZC) (Xc (Z0 (8) cw.nd ai) (Xc (Α hX.own (@eD _ _ _ _ _ _ (by exact rfl) T.fO (Z2 (pv 3)) (ZA)) (Z1 (9) cw.nd) (Xc (Z0 (10) cw.nd (XI bA (pv 7) (Z5 aW aO (Z_ Xd (Z2 (XI bA (pv 2) (pv 9))))))) (Xc (Z0 (7) cw.nd (XI dY (pv 7) (XI nr ai (Z7 (aL K) T.cX (Z2 (pv 5)))))) (WX (Zr (@PW.pt _ _ _ (@pw_and _ _ _ _ _ _ _ (Zk mY (XI bJ (pv 10) ai) ai (aV _)) (@pw_and1 _ _ _ _ (Zk (tf K JE) (pv 4) (@bR _ _ _ _ af) (aV _))))) (Xc (Z0 (8) cw.nd (XI bA (pv 8) (ν qg Zv T.Bw PyProof.Rows.Boot.«int» (Z2 (@iI _ _ _ _ _ _ _ _ jv (XI bJ (pv 10) ai) ai (aV _)))))) (Xc (Zt (Λ K PySem.F.slot_list_append PySem.F.type_list_append bQ (pv 6) (Z2 (Z6 (pv 4) (XI bJ (pv 8) (Z7 (aL K) T.cX (Z2 (pv 4)))))))) (WX (Z0 (8) cw.nd (XI bA (pv 8) ai))))) (WX (Zt (Λ K PySem.F.slot_list_append PySem.F.type_list_append bQ (pv 6) (Z2 (Z6 (pv 5) (XI bJ (XI dY (pv 10) ai) (Z7 (aL K) T.cX (Z2 (pv 5)))))))))))))) (WX (ZS (pv 6))))))),?_⟩;refine⟨aF V9,fun l hl=>?_⟩;refine⟨_,rfl,?_⟩;refine⟨_,rfl,m,rfl,by lia,by lia,?_⟩;refine ft (fun i σ H'=>(∃(r pl:Int)(u1 u2:Option V),σ=[some (.ref a),some (.int c),some (.int p),some (.int m),some (.ref x),some (.ref b),some (.ref l),some (.int r),some (.int pl),u1,u2])∧ax H H'∧∃ws:List Str,H' l=some (.lst (ws.map V.str))∧ws.length=i∧∀w∈ws,w∈zs) ⟨⟨_,_,_,_,rfl⟩,ZF hl,[],ae,rfl,fun w hw=>by cases hw⟩ ?_ ?_
  ·rintro i σ H' hi ⟨⟨r,pl,u1,u2,rfl⟩,s1,ws,lb,rY,Ma⟩;have hi:i<m.toNat:=hi;have jg:=s1 _ _ hb;have lq:=s1 _ _ hx;have el:(zs.map V.str).length=zs.length:=List.length_map ..;have Wi:(Mb.map V.str).length=Mb.length:=List.length_map ..;have gR:(ws.map V.str).length<sizeLine:=a9 (by rw[List.length_map];lia);refine⟨_,rfl,_,rfl,_,rfl,_,rfl,_,_,rfl,rfl,a,ns,_,rfl,s1.seq hS,by lia,_,_,rfl,rfl,?_⟩;refine⟨_,rfl,_,rfl,b,_,rfl, .inl (.of jg),_,_,rfl,rfl, .inl (U7),_,_,rfl,rfl,⟨by rw[el];lia,by rw[el];lia⟩,?_⟩;have fin:∀H3 (w:Str),ax H H3→H3 l=some (.lst (ws.map V.str))→w∈zs→ax H (upd H3 l (.lst (ws.map V.str++[.str w])))∧∃Ur:List Str,upd H3 l (.lst (ws.map V.str++[.str w])) l=some (.lst (Ur.map V.str))∧Ur.length=i+1∧∀w∈Ur,w∈zs:=fun H3 w s3 h3 hw=>by
    refine⟨s3.eI hl,ws++[w],by rw[ae];simp,by simp[rY],fun x hx=>?_⟩;rcases List.mem_append.mp hx with hx|hx
    ·exact Ma x hx
    ·have:x=w:=by simpa using hx
     rw[this];exact hw
   have other:∀H3,ax H H3→H3 l=some (.lst (ws.map V.str))→H3 b=some (.lst (zs.map V.str))→∃w,w∈zs∧rP (zs.map V.str) ((r+cell ns (p+(0+(i:Int))))/8%((zs.map V.str).length:Int))=some (.str w):=fun H3 _ _ _=>by
    rw[el];exact Ai zs (Int.emod_nonneg _ (by lia)) (Int.emod_lt_of_pos _ (by lia))
   refine⟨_,rfl,_,_,rfl,rfl,c8,_,_,rfl,rfl,_,rfl,?_⟩;refine bf (fun h1=>?_) (fun h1=>?_)
   ·refine⟨_,rfl,aF V9,fun pn MY=>⟨x,pn,_,rfl,rfl, .of (ax.upd MY _ _ lq), .of ae,_,rfl,?_⟩⟩;have s2:ax H (upd H' pn (.lst [])):=s1.trans (ZF MY);have uJ:=ax.upd (o:= .lst []) MY _ _ lb;refine bf (fun h2=>?_) (fun h2=>?_)
    ·have eX:Mb≠[]:=by simpa using h2
     have Us:0<Mb.length:=List.length_pos_iff.mpr eX;obtain⟨w,hw,v5⟩:=Ai Mb (i:=(pl+(if decide ((r+cell ns (p+(0+(i:Int))))%8=4)=true then 1 else 0))%((Mb.length:Nat):Int)) (Int.emod_nonneg _ (by lia)) (Int.emod_lt_of_pos _ (by lia));obtain⟨a1,a2⟩:=fin _ w s2 uJ (Rh w hw);refine⟨_,rfl,_,rfl,_,_,rfl,rfl,c8,rfl, .inr ⟨_,rfl,_,_,rfl,rfl,?_⟩⟩;refine⟨_,rfl, .inl ⟨rfl,_, .of uJ⟩,_,rfl,_,rfl,_,rfl,x,_,rfl, .inl (.of (s2 _ _ hx)),_,_,rfl,rfl,(by rw[Wi];show(0:Int)<_;lia),x,_,_,_,rfl,rfl, .of (s2 _ _ hx),by rw[Wi];simpa[beq_iff_eq,nF]using v5,l,_,_,rfl,rfl,uJ,gR,?_⟩;exact⟨_,rfl,_,_,rfl,rfl,⟨_,_,_,_,rfl⟩,a1,a2⟩
    ·obtain⟨w,hw,v5⟩:=other _ s2 uJ (s2 _ _ hb);obtain⟨a1,a2⟩:=fin _ w s2 uJ hw;refine⟨_,rfl, .inl ⟨rfl,_, .of uJ⟩,_,rfl,_,rfl,_,_,rfl,rfl,⟨U7,U7⟩,_,rfl,b,_,rfl, .inl (.of (s2 _ _ hb)),_,_,rfl,rfl,(by rw[el];show(0:Int)<_;lia),b,_,_,_,rfl,rfl, .of (s2 _ _ hb),v5,l,_,_,rfl,rfl,uJ,gR,⟨_,_,_,_,rfl⟩,a1,a2⟩
   ·refine f_ ?_;obtain⟨w,hw,v5⟩:=other _ s1 lb jg;obtain⟨a1,a2⟩:=fin _ w s1 lb hw;refine⟨_,rfl, .inl ⟨rfl,_, .of lb⟩,_,rfl,_,rfl,_,_,rfl,rfl,⟨U7,U7⟩,_,rfl,b,_,rfl, .inl (.of jg),_,_,rfl,rfl,(by rw[el];show(0:Int)<_;lia),b,_,_,_,rfl,rfl, .of jg,v5,l,_,_,rfl,rfl,lb,gR,⟨_,_,_,_,rfl⟩,a1,a2⟩
  ·rintro σ H' ⟨⟨r,pl,u1,u2,rfl⟩,s1,ws,lb,rY,Ma⟩;exact⟨_,rfl,q H' l ws s1 hl lb rY Ma⟩
theorem eC:aM ["_law_script","_law_spot","_law_pick","_law_same","_law_most"] ["_law_script","_law_spot"] (ar gu):=⟨rfl,rfl,rfl,by decide+kernel,rfl,by decide+kernel,by decide+kernel⟩
include T aW in
theorem r9{f:Addr}{fd:FuncData}(F:jw K "_law_numbers" "_law_numbers" gu f fd):a7 P w K mg base (cW P w) true 2 f fd ["_law_script","_law_spot"] (nH K):=by
 refine F.gM eC ZQ (fun bS A outer s H vs Q E hr h hX=>?_)
 ·obtain⟨a,ns,k,rfl,_⟩:=h;rfl
 ·obtain⟨a,ns,k,rfl,hS,h0,q⟩:=h;have c2:(0:Int)<2:=U7;have c4:(0:Int)<4:=U7;have c6:(0:Int)<6:=U7;have cM:(0:Int)<1000000:=U7;have Wj:∀i:Int,Kf i 4:=fun i=>⟨U7,U7⟩
  have Y0:∀i:Int,Kf i 8:=fun i=>⟨U7,U7⟩
  refine⟨_,(Xc (@iK _ _ _ _ _ _ _ _ _ _ _ _ _ _ _ (2) _ _ (by exact rfl) eC.nd Zv (by exact rfl) (show bh ["_law_script","_law_spot","_law_pick","_law_same","_law_most"] (ar gu) _ ["_law_k"] [0,1] ["_law_script","_law_spot"]from⟨rfl,by decide+kernel,by decide+kernel,by decide+kernel,rfl,rfl,by decide+kernel,by decide+kernel,by decide+kernel⟩) (@eD _ _ _ _ _ _ (by exact rfl) T.fO (Z2 ai) (ZA)) (fun _ _ _ _ _=>(Z1 (0) (show(["_law_k","_law_script","_law_spot"]:List Str).Nodup by decide+kernel))) (fun _ _ _ _ _=>fL) (fun _ _ _ _ _=>(Z5 aW aO (Z_ ZC (Z2 (XI bA (pv 2) (pv 0)))))) (ZA) (by intro _;rfl)) (Xc (Zr (Zk mY (θ bJ ai) ai (aV _)) (Xc (Z0 (3) eC.nd (XI bA ai (XI bJ (θ dY ai) ai))) (WX (ZS (@bR _ _ _ _ (Z_ (pv 3) (Z_ (θ bJ ai) (Z_ (θ bJ ai) (Z2 (XI bA ai (θ bJ (XI nr ai (pv 3)))))))))))) aQ) (Xc (Z0 (3) eC.nd (XI bA ai (XI bJ (θ dY ai) ai))) (Xc (Z0 (4) eC.nd (Z6 (@bR _ _ _ _ (ς (γ (qf rfl) T.Ey PyProof.Rows.Boot.«min» (Z_ ai (Z2 (XI nr ai (pv 3))))))) (XI bJ (θ dY ai) ai))) (WX (ZS (@bR _ _ _ _ (Z_ (pv 3) (Z_ (θ bJ ai) (Z_ (θ bJ ai) (Z2 (XI bA ai (θ bJ (pv 4)))))))))))))),?_⟩;refine⟨4,rfl,U7,U7,fun D hD=>?_⟩;refine Ad (fun i ys bj H'=>(∃u,bj=[u,some (.ref a),some (.int k)])∧∃is:List Int,ys=is.map V.int∧is.length=i∧H' D=some (.lst ys)∧ax H H') ⟨⟨_,rfl⟩,[],rfl,rfl,ae,ZF hD⟩ ?_ ?_
  ·rintro i ys bj H' hi ⟨⟨u,rfl⟩,is,rfl,hl,Y1,s1⟩;have hi:i<4:=hi;refine lK ?_;exact⟨_,rfl,_,rfl,_,rfl,_,_,rfl,rfl,a,ns,_,rfl,s1.seq hS,by lia,Y1,a9 (by rw[List.length_map];lia),⟨_,rfl⟩,is++[cell ns (k+(0+(i:Int)))],Wv,by simp[hl],ae,s1.eI hD⟩
  ·rintro ys bj H1 ⟨_,is,rfl,hl,rX,s1⟩;obtain⟨p0,p1,p2,p3,rfl⟩:=Hm hl;refine⟨_,rfl,D,_,0,_,rfl,rfl, .of rX,YL (j:=0),_,_,rfl,rfl,c4,_,_,rfl,rfl,_,rfl,?_⟩;refine bf (fun _=>?_) (fun _=>?_)
   ·refine⟨_,rfl,D,_,0,_,rfl,rfl, .of rX,YL (j:=0),_,_,rfl,rfl,Wj _,_,_,rfl,rfl,c6,_,_,rfl,rfl,?_⟩;have z0:1≤1+p0/4%6∧1+p0/4%6≤6:=by lia
    have z3:0≤p3%(3*(1+p0/4%6)):=Int.emod_nonneg _ (by lia);have z4:p3%(3*(1+p0/4%6))<3*(1+p0/4%6):=Int.emod_lt_of_pos _ (by lia);exact⟨_,rfl,_,rfl,D,_,1,_,rfl,rfl, .of rX,YL (j:=1),_,_,rfl,rfl,c4,_,rfl,D,_,2,_,rfl,rfl, .of rX,YL (j:=2),_,_,rfl,rfl,c4,_,rfl,D,_,3,_,rfl,rfl, .of rX,YL (j:=3),_,rfl,_,_,rfl,rfl, .inl (U7),_,_,rfl,rfl,(show(0:Int)<3*(1+p0/4%6) by lia),_,_,rfl,rfl,aF V9,fun p hp=>q _ p _ _ _ _ (s1.trans (ZF hp)) (s1.free hp) ae Mm (by lia) (by lia) (by lia)⟩
   ·refine⟨_,rfl,D,_,0,_,rfl,rfl, .of rX,YL (j:=0),_,_,rfl,rfl,Y0 _,_,_,rfl,rfl,(show(0:Int)<999999 by decide),_,_,rfl,rfl,?_⟩;have z0:1≤1+p0/8%999999∧1+p0/8%999999≤999999:=by lia
    obtain⟨m,DO,hm⟩:=int_at [if 3*(1+p0/8%999999)<999999 then 3*(1+p0/8%999999)else 999999,999999] (i:=p0/4%2) (by lia) (show p0/4%2<2 by lia);have Il:1≤m∧m≤999999:=by
     simp only[List.mem_cons,List.not_mem_nil,or_false]at DO;rcases DO with rfl|rfl
     ·split<;>lia
     ·lia
    refine⟨_,rfl,_,_,rfl,rfl, .inl (U7),_,_,rfl,aF V9,fun p hp=>?_⟩;have l0:=ax.upd (o:= .lst [.int (if 3*(1+p0/8%999999)<999999 then 3*(1+p0/8%999999)else 999999), .int 999999]) hp _ _ rX;refine⟨_,rfl,D,_,0,_,rfl,rfl, .of l0,YL (j:=0),_,_,rfl,rfl,Wj _,_,_,rfl,rfl,c2,p,_,_,_,rfl,rfl, .of ae,hm,?_⟩;have z3:0≤p3%m:=Int.emod_nonneg _ (by lia);have z4:p3%m<m:=Int.emod_lt_of_pos _ (by lia);exact⟨_,rfl,_,rfl,D,_,1,_,rfl,rfl, .of l0,YL (j:=1),_,_,rfl,rfl,cM,_,rfl,D,_,2,_,rfl,rfl, .of l0,YL (j:=2),_,_,rfl,rfl,cM,_,rfl,D,_,3,_,rfl,rfl, .of l0,YL (j:=3),_,rfl,_,_,rfl,rfl,(show(0:Int)<m by lia),_,_,rfl,rfl,aF V9,fun p2 zZ=>q _ p2 _ _ _ _ ((s1.trans (ZF hp)).trans (ZF zZ)) ((s1.trans (ZF hp)).free zZ) ae Mm (by lia) (by lia) (by lia)⟩
theorem dz:aM ["_law_cell","_law_bank_here","_law_same","_law_found","_law_rest","_law_x","_law_y","_law_price"] ["_law_cell","_law_bank_here","_law_same"] (ar lW):=⟨rfl,rfl,rfl,by decide+kernel,rfl,by decide+kernel,by decide+kernel⟩
include T in
theorem xv{f:Addr}{fd:FuncData}(F:jw K "_law_near" "_law_near" lW f fd):a7 P w K mg base (cW P w) true 1 f fd ["_law_cell","_law_bank_here","_law_same"] t6:=by
 refine F.gM dz ZQ (fun bS A outer s H vs Q E hr h hX=>?_)
 ·obtain⟨cell,same,b,zs,rfl,_⟩:=h;rfl
 ·obtain⟨cell,same,b,zs,rfl,hb,Y2,hw,hn,aab,Kh,q⟩:=h;have N8:(0:Int)<same+3:=by lia
  refine⟨_,(Xc (Z0 (3) dz.nd (@bR _ _ _ _ af)) (Xc (Z0 (4) dz.nd Xd) (Xc (Α hX.own (Β K ZC) (Z1 (5) dz.nd) (WX (Α hX.own (Β K ZC) (Z1 (6) dz.nd) (WX (Zr (Zk vy (pv 5) (pv 6) (aV _)) (Xc (Z0 (7) dz.nd (XI bJ (XI dY (pv 4) ai) (XI bA (pv 2) ai))) (YM (Zr (Zk jv (XI bJ (pv 4) ai) ai (aV _)) (Xc (Zt (Λ K PySem.F.slot_list_append PySem.F.type_list_append bQ (pv 3) (Z2 (@eF _ _ _ _ _ (Z_ (pv 5) (Z_ (pv 6) (Z2 (γ (qf rfl) T.Ey PyProof.Rows.Boot.«min» (ς (pv 7)))))))))) (WX (Z0 (4) dz.nd (XI dY (pv 4) (XI bA (pv 2) ai))))) (WX (Zr (Zk jv (XI bJ (pv 4) ai) ai (aV _)) (WX (Zt (Λ K PySem.F.slot_list_append PySem.F.type_list_append bQ (pv 3) (Z2 (@eF _ _ _ _ _ (Z_ (pv 5) (ς (pv 6)))))))) aQ))) (WX (Z0 (4) dz.nd (XI dY (pv 4) ai))))) aQ))))) (WX (ZS (pv 3)))))),?_⟩;refine⟨aF V9,fun l hl=>?_⟩;refine⟨_,rfl,?_⟩;have ZR:b≠l:=aE hb hl;refine⟨_,rfl,b,rfl,⟨_, .of (ax.upd hl _ _ hb)⟩,?_⟩;refine bU (xs:=zs.map V.str) (fun i σ H'=>(∃(rest:Int)(u1 u2 u3:Option V),σ=[some (.int cell),some (.ref b),some (.int same),some (.ref l),some (.int rest),u1,u2,u3])∧ax H H'∧∃xs fs,H' l=some (.lst xs)∧cZ H' xs fs∧c_ zs i 0 fs) ⟨⟨_,_,_,_,rfl⟩,ZF hl,[],[],ae, .nil, .nil⟩ ?_ ?_ ?_
  ·rintro i σ H' _ ⟨_,s1,_⟩;exact .of (s1 _ _ hb)
  ·rintro i v σ H' hv ⟨⟨rest,u1,u2,u3,rfl⟩,s1,xs,fs,lb,T1,P1⟩;obtain⟨x,hx,rfl⟩:∃x,zs[i]?=some x∧v= .str x:=jz hv;have hi:i<zs.length:=(Z' hx).1;refine⟨_,rfl,b,rfl,⟨_, .of (s1 _ _ hb)⟩,?_⟩;refine bU (xs:=zs.map V.str) (fun j σ H'=>(∃(rest:Int)(u2 u3:Option V),σ=[some (.int cell),some (.ref b),some (.int same),some (.ref l),some (.int rest),some (.str x),u2,u3])∧ax H H'∧∃xs fs,H' l=some (.lst xs)∧cZ H' xs fs∧c_ zs i j fs) ⟨⟨_,_,_,rfl⟩,s1,xs,fs,lb,T1,P1⟩ ?_ ?_ ?_
   ·rintro j σ H' _ ⟨_,s1,_⟩;exact .of (s1 _ _ hb)
   ·clear s1 lb T1 P1 xs fs u1 u2 u3 rest H';rintro j v σ H' hv ⟨⟨rest,u2,u3,rfl⟩,s1,xs,fs,lb,T1,P1⟩;obtain⟨y,hy,rfl⟩:∃y,zs[j]?=some y∧v= .str y:=jz hv;have Ej:xs.length<1000:=by
     have h1:=P1.sT;have h2:i*(zs.length-1)≤8*7:=Nat.mul_le_mul Mm (by lia);have h3:j<zs.length:=(Z' hy).1;have h4:=T1.1
     lia
    refine⟨_,rfl,_,rfl,rfl,_,rfl,?_⟩;refine bf (fun h=>?_) (fun h=>?_)
    rotate_left
    ·exact⟨⟨_,_,_,rfl⟩,s1,xs,fs,lb,T1,P1.skip⟩
    have eX:¬x=y:=by simpa using h
    refine⟨_,rfl,_,_,rfl,rfl,⟨U7,U7⟩,_,rfl,_,_,rfl,rfl,_,_,rfl,rfl,N8,?_⟩;have p0:0≤rest/3%(same+3):=Int.emod_nonneg _ (by lia);have add:∀(t:Addr)(ht:H' t=none)(pr:Int),0≤pr→pr≤999999→ax H (upd (upd H' t (.tup [.str x, .str y, .int pr])) l (.lst (xs++[.ref t])))∧∃Ga JK,upd (upd H' t (.tup [.str x, .str y, .int pr])) l (.lst (xs++[.ref t])) l=some (.lst Ga)∧cZ (upd (upd H' t (.tup [.str x, .str y, .int pr])) l (.lst (xs++[.ref t]))) Ga JK∧c_ zs i (j+1) JK:=fun t ht pr h0 h1=>by
     refine⟨(s1.trans (ZF ht)).eI hl,_,fs++[(x,y,pr)],ae,?_,P1.add hn hw hx hy eX h0 h1⟩;have T2:cZ (upd H' t (.tup (Hg (x,y,pr)))) (xs++[.ref t]) (fs++[(x,y,pr)]):=(T1.same (ZF ht)).snoc ae;exact T2.cC (c7.lst (ax.upd ht _ _ lb))
    refine⟨fun σ H2=>(∃(rest:Int)(u3:Option V),σ=[some (.int cell),some (.ref b),some (.int same),some (.ref l),some (.int rest),some (.str x),some (.str y),u3])∧ax H H2∧∃xs fs,H2 l=some (.lst xs)∧cZ H2 xs fs∧c_ zs i (j+1) fs,?_,?_⟩
    ·refine⟨_,rfl,_,_,rfl,rfl,(show(0:Int)<3 by decide),rfl,_,rfl,?_⟩;refine bf (fun _=>?_) (fun _=>?_)
     ·refine⟨_,rfl, .inl ⟨rfl,_, .of lb⟩,_,rfl,_,rfl,_,rfl,_,_,rfl,aF V9,fun t ht=>⟨l,xs,_,rfl,rfl,ax.upd ht _ _ lb,a9 Mm,?_⟩⟩;obtain⟨a1,a2⟩:=add t ht (if 999999<rest/3%(same+3)then 999999 else rest/3%(same+3)) (by split<;>lia) (by split<;>lia);exact⟨_,rfl,_,rfl,_,_,rfl,rfl,_,_,rfl,rfl,⟨N8,by lia⟩,⟨_,_,rfl⟩,a1,a2⟩
     ·refine⟨_,rfl,_,_,rfl,rfl,(show(0:Int)<9 by decide),rfl,_,rfl,?_⟩;refine bf (fun _=>?_) (fun _=>?_)
      ·refine⟨_,rfl, .inl ⟨rfl,_, .of lb⟩,_,rfl,_,rfl,aF V9,fun t ht=>⟨l,xs,_,rfl,rfl,ax.upd ht _ _ lb,a9 Mm,?_⟩⟩;obtain⟨a1,a2⟩:=add t ht 999999 (U7) (U7);exact⟨⟨_,_,rfl⟩,a1,a2⟩
      ·exact⟨⟨_,_,rfl⟩,s1,xs,fs,lb,T1,P1.skip⟩
    rintro σ H2 ⟨⟨JL,u4,rfl⟩,s2,Ga,JK,uJ,T2,P2⟩;exact⟨_,rfl,_,_,rfl,rfl,⟨U7,U7⟩,⟨_,_,_,rfl⟩,s2,Ga,JK,uJ,T2,P2⟩
   ·rintro σ H2 ⟨⟨JL,u4,u5,rfl⟩,s2,Ga,JK,uJ,T2,P2⟩;rw[List.length_map]at P2;exact⟨⟨_,_,_,_,rfl⟩,s2,Ga,JK,uJ,T2,P2.row hi⟩
  ·rintro σ H2 ⟨⟨JL,u4,u5,u6,rfl⟩,s2,Ga,JK,uJ,T2,P2⟩;rw[List.length_map]at P2;exact⟨_,rfl,q H2 l Ga JK s2 hl uJ T2 (P2.good Y2) fun f hf=>let ⟨i,j,_,h1,h2⟩:=P2.old f hf;⟨ZO h1,ZO h2⟩⟩
variable(dW:bK P w K mg base true 1 "_law_bank" ["_law_cell","_law_other","_law_many"] t5)
variable(jI:bK P w K mg base true 2 "_law_book" ["_law_script","_law_cell","_law_spot","_law_many","_law_bank_here"] (wR K))
variable(iU:bK P w K mg base true 2 "_law_quote" ["_law_script","_law_cell","_law_spot","_law_many","_law_first","_law_bank_here"] (tD K))
variable(gB:bK P w K mg base true 2 "_law_numbers" ["_law_script","_law_spot"] (nH K))
variable(jJ:bK P w K mg base true 1 "_law_near" ["_law_cell","_law_bank_here","_law_same"] t6)
theorem dA:aM ["_law_script","_law_most","_law_many","_law_bank_here","_law_one","_law_other","_law_first","_law_second","_law_numbers_here"] ["_law_script","_law_most"] (ar lX):=⟨rfl,rfl,rfl,by decide+kernel,rfl,by decide+kernel,by decide+kernel⟩
include T aW dW jI iU gB jJ in
theorem xw{f:Addr}{fd:FuncData}(F:jw K "_law_case" "_law_case" lX f fd):a7 P w K mg base (cW P w) true 3 f fd ["_law_script","_law_most"] (t8 K):=by
 refine F.gM dA ZQ (fun bS A outer s H vs Q E hr h hX=>?_)
 ·obtain⟨a,ns,most,rfl,_⟩:=h;rfl
 ·obtain⟨a,ns,most,rfl,hS,Uq,DO,Ut,q⟩:=h;refine⟨_,(YM (Z0 (2) dA.nd (XI bA (XI bA ai (XI bJ (Z9 aW aO) ai)) (XI nr (ν qg Zv T.Bw PyProof.Rows.Boot.«int» (Z2 (@iI _ _ _ _ _ _ _ _ rq ZC ai (aV _)))) ai))) (YM (Z0 (3) dA.nd (Z5 dW aO (Z_ (Z9 aW aO) (μ (Z9 aW aO))))) (YM (Z0 (4) dA.nd (XI cy ZC (XI bJ (Z9 aW aO) (XI bA ZC ai)))) (YM (Z0 (5) dA.nd (XI cy ZC (XI bJ (Z9 aW aO) (XI bA ZC ai)))) (YM (Z0 (6) dA.nd (Z5 jI aO (Z_ Xd (Z_ (Z9 aW aO) (Z_ ai (ε (pv 4))))))) (YM (Z0 (7) dA.nd (Z5 iU aO (Z_ Xd (Z_ (Z9 aW aO) (Z_ ai (Z_ (pv 5) (ε (pv 6)))))))) (YM (Z0 (8) dA.nd (Z9 gB aO)) (WX (ZS (@bR _ _ _ _ (Z_ (pv 6) (Z_ (pv 7) (Z_ (pv 8) (Z2 (Z5 jJ aO (Z_ (Z9 aW aO) (Z_ (@ka _ _ _ _ _ _ _ _ _ _ (sZ K) (pv 3) oE (@kC _ _ _ ai)) (Z2 (Z6 (pv 8) ai))))))))))))))))))),?_⟩;refine⟨fun σ H1=>∃many:Int,σ=[some (.ref a),some (.int most),some (.int many),none,none,none,none,none,none]∧H1=H∧many=1+cell ns 2%5,?_,?_⟩
  ·refine⟨_,rfl,a,ns,2,rfl,hS,U7,_,_,rfl,rfl,(show(0:Int)<5 by decide),_,_,rfl,rfl,_,rfl,_,_,rfl,rfl, .inr ⟨_,rfl,_,_,rfl,rfl, .inr ⟨U7,U7⟩,_,_,rfl,rfl,_,rfl,rfl,?_⟩⟩;rw[Sn (by simpa using Ut)];lia
  rintro σ H ⟨many,rfl,rfl,JM⟩;have aaW:1≤many:=by lia
  have Gs:many≤5:=by lia
  refine⟨fun σ H1=>∃(b:Addr)(zs:List Str),σ=[some (.ref a),some (.int most),some (.int many),some (.ref b),none,none,none,none,none]∧ax H H1∧H1 b=some (.lst (zs.map V.str))∧(1≤zs.length∧zs.length≤5)∧(∀z∈zs,ql z=true)∧zs.Nodup∧zs=zb (cell ns 0) (cell ns 1) many.toNat,?_,?_⟩
  ·exact⟨_,rfl,a,ns,0,rfl,hS,U7,_,rfl,a,ns,1,rfl,hS,U7,_,rfl,_,_,many,rfl,by lia,by lia,fun H' b zs s1 hb jg hz hw hn he=>⟨b,zs,rfl,s1,jg,by lia,hw,hn,he⟩⟩
  rintro σ H1 ⟨b,zs,rfl,s1,jg,hz,hw,hn,Px⟩;have Gy:=s1.seq hS;refine⟨fun σ H2=>∃one:Int,σ=[some (.ref a),some (.int most),some (.int many),some (.ref b),some (.int one),none,none,none,none]∧H2=H1∧0≤one∧one≤most,?_,?_⟩
  ·have z0:0≤cell ns 3%(most+1):=Int.emod_nonneg _ (by lia);have z1:cell ns 3%(most+1)<most+1:=Int.emod_lt_of_pos _ (by lia);exact⟨_,rfl,_,rfl,a,ns,3,rfl,Gy,U7,_,rfl,_,_,rfl,rfl,_,_,rfl,rfl,(show(0:Int)<most+1 by lia),_,_,rfl,rfl,_,rfl,rfl,by lia,by lia⟩
  rintro σ H1 ⟨one,rfl,rfl,Y3,HI⟩;refine⟨fun σ H2=>∃Iw:Int,σ=[some (.ref a),some (.int most),some (.int many),some (.ref b),some (.int one),some (.int Iw),none,none,none]∧H2=H1∧0≤Iw∧Iw≤most,?_,?_⟩
  ·have z0:0≤cell ns 4%(most+1):=Int.emod_nonneg _ (by lia);have z1:cell ns 4%(most+1)<most+1:=Int.emod_lt_of_pos _ (by lia);exact⟨_,rfl,_,rfl,a,ns,4,rfl,Gy,U7,_,rfl,_,_,rfl,rfl,_,_,rfl,rfl,(show(0:Int)<most+1 by lia),_,_,rfl,rfl,_,rfl,rfl,by lia,by lia⟩
  rintro σ H1 ⟨Iw,rfl,rfl,Ij,OW⟩;refine⟨fun σ H2=>∃(x:Addr)(xs:List Str),σ=[some (.ref a),some (.int most),some (.int many),some (.ref b),some (.int one),some (.int Iw),some (.ref x),none,none]∧ax H1 H2∧H2 x=some (.lst (xs.map V.str))∧xs.length=one.toNat∧∀w∈xs,w∈zs,?_,?_⟩
  ·exact⟨_,rfl,_,rfl,a,ns,10,rfl,Gy,U7,_,rfl,_,rfl,a,b,ns,zs,_,16,one,rfl,Gy,jg,⟨hz.1,by lia⟩,U7,Y3,by lia,fun H2 x xs s2 hx yh hl lI=>⟨x,xs,rfl,s2,yh,hl,lI⟩⟩
  rintro σ H2 ⟨x,xs,rfl,s2,yh,S9,Rh⟩;have s3:=s1.trans s2;have Mc:=s2.seq Gy;refine⟨fun σ H3=>∃(y:Addr)(ys:List Str),σ=[some (.ref a),some (.int most),some (.int many),some (.ref b),some (.int one),some (.int Iw),some (.ref x),some (.ref y),none]∧ax H2 H3∧H3 y=some (.lst (ys.map V.str))∧ys.length=Iw.toNat∧∀w∈ys,w∈zs,?_,?_⟩
  ·exact⟨_,rfl,_,rfl,a,ns,11,rfl,Mc,U7,_,rfl,_,rfl,_,rfl,a,b,x,ns,zs,xs,_,17,Iw,rfl,Mc,s2 _ _ jg,yh,⟨hz.1,by lia⟩,by lia,Rh,U7,Ij,by lia,fun H3 y ys s4 hy DK hl lI=>⟨y,ys,rfl,s4,DK,hl,lI⟩⟩
  rintro σ H3 ⟨y,ys,rfl,s4,Y4,VT,SW⟩;have s5:=s3.trans s4;have Pz:=s4.seq Mc;refine⟨fun σ H4=>∃(n:Addr)(sa ou iN le:Int),σ=[some (.ref a),some (.int most),some (.int many),some (.ref b),some (.int one),some (.int Iw),some (.ref x),some (.ref y),some (.ref n)]∧ax H3 H4∧H4 n=some (.lst [.int sa, .int ou, .int iN, .int le])∧(1≤sa∧sa≤999999)∧(0≤ou∧ou≤999999)∧(0≤iN∧iN≤999999)∧(1≤le∧le≤999999),?_,?_⟩
  ·exact⟨_,rfl,a,ns,5,rfl,Pz,U7,fun H4 D sa ou iN le s6 hD JI h1 h2 h3 h4=>⟨D,sa,ou,iN,le,rfl,s6,JI,h1,h2,h3,h4⟩⟩
  rintro σ H4 ⟨n,sa,ou,iN,le,rfl,s6,Wl,h1,h2,h3,h4⟩;have s7:=s5.trans s6;have Y5:=s6.seq Pz;have Y6:H4 b=some (.lst (zs.map V.str)):=s6 _ _ (s4 _ _ (s2 _ _ jg));refine⟨_,rfl,_,rfl,_,rfl,_,rfl,a,ns,9,rfl,Y5,U7,_,rfl,_,rfl,b,_,rfl, .of Y6,fun b5 MQ=>?_⟩;have e5:wA (zs.map V.str) none (some 5)=(zs.take 5).map V.str:=by
   have:HT.j7 (zs.map V.str).length (zs.map V.str).length (some 5)=min 5 zs.length:=by
    rw[List.length_map];simp only[HT.j7];split<;>lia
   have e0:HT.j7 (zs.map V.str).length 0 none=0:=by simp[HT.j7]
   unfold wA;rw[this,e0,List.drop_zero,Nat.sub_zero,←List.map_take]
   congr 1
   apply List.ext_getElem?;intro i;rw[List.getElem?_take,List.getElem?_take];by_cases hi:i<zs.length
   ·by_cases h5:i<5
    ·rw[U6 Mm,U6 h5]
    ·rw[Sn Mm,Sn h5]
   ·simp[List.getElem?_eq_none (by lia:zs.length≤i)]
  rw[e5];have s8:ax H4 (upd H4 b5 (.lst ((zs.take 5).map V.str))):=ZF MQ;have Y7:=s8 _ _ Wl;refine⟨_,rfl,n,_,0,_,rfl,rfl, .of Y7,YL (j:=0),_,sa,b5,zs.take 5,rfl,ae,by simp;lia,fun z hz=>hw z (List.mem_of_mem_take hz),hn.sublist (List.take_sublist ..),h1.1,h1.2,fun H6 l us fs s9 hl Wm T6 g6 PB=>?_⟩;have sA:=(s7.trans s8).trans s9;refine⟨aF V9,fun r hr=>?_⟩;have sB:=ax.upd (o:= .lst [.ref x, .ref y, .ref n, .ref l]) hr;have sC:=s9.trans sB;refine q _ r ⟨xs,ys,sa,ou,iN,le,fs⟩ x y n l us (sA.trans sB) (sA.free hr) ⟨ae,?_,?_,?_,sB _ _ Wm,T6.same sB⟩ ⟨by show xs.length≤_;lia,by show ys.length≤_;lia,g6,h1,h2,h3,h4⟩ zs (by rw[Px,JM]) (by lia) hw hn ⟨Rh,SW,fun f hf=>⟨List.mem_of_mem_take (PB f hf).1,List.mem_of_mem_take (PB f hf).2⟩⟩
  ·exact sC _ _ (s8 _ _ (s6 _ _ (s4 _ _ yh)))
  ·exact sC _ _ (s8 _ _ (s6 _ _ Y4))
  ·exact sC _ _ (s8 _ _ Wl)
theorem iV:aM ["_law_x","_law_y","_law_same","_law_near_here","_law_old","_law_new","_law_price"] ["_law_x","_law_y","_law_same","_law_near_here"] (ar lY):=⟨rfl,rfl,rfl,by decide+kernel,rfl,by decide+kernel,by decide+kernel⟩
include T in
theorem xx{f:Addr}{fd:FuncData}(F:jw K "_law_pair" "_law_pair" lY f fd):a7 P w K mg base (cW P w) true 1 f fd ["_law_x","_law_y","_law_same","_law_near_here"] tq:=by
 refine F.gM iV ZQ (fun bS A outer s H vs Q E hr h hX=>?_)
 ·obtain⟨x,y,same,l,xs,fs,rfl,_⟩:=h;rfl
 ·obtain⟨x,y,same,l,xs,fs,rfl,hl,T1,q⟩:=h;refine⟨_,(Xc (Zr (Zk jv Xd (pv 1) (aV _)) (WX (ZS (pv 2))) aQ) (Xc (Α hX.own (Β K (pv 3)) (η K (3) (by exact rfl) (Zz (Z1 (4) iV.nd) (Zz (Z1 (5) iV.nd) (Zz (Z1 (6) iV.nd) fJ)))) (WX (Zr (@PW.pt _ _ _ (@pw_and _ _ _ _ _ _ _ (Zk jv (pv 4) (pv 0) (aV _)) (@pw_and1 _ _ _ _ (Zk jv (pv 5) (pv 1) (aV _))))) (WX (ZS (XI cy (pv 2) (pv 6)))) aQ))) (WX (ZS jU)))),?_⟩;refine⟨_,rfl,_,rfl,rfl,_,rfl,?_⟩;refine bf (fun h=>?_) (fun h=>?_)
  ·have h:x=y:=by simpa using h
   rw[show cI same fs x y=some same by simp[cI,h]]at q;exact⟨_,rfl,q⟩
  have h:¬x=y:=by simpa using h
  refine⟨_,rfl,l,rfl,⟨_, .of hl⟩,?_⟩;refine bU (xs:=xs) (fun i σ H'=>(∃u1 u2 u3,σ=[some (.str x),some (.str y),some (.int same),some (.ref l),u1,u2,u3])∧H'=H∧∀f∈fs.take i,¬(f.1=x∧f.2.1=y)) ⟨⟨_,_,_,rfl⟩,rfl,Wv⟩ ?_ ?_ ?_
  ·rintro i σ H' _ ⟨_,rfl,_⟩;exact .of hl
  ·rintro i v σ H' hv ⟨⟨u1,u2,u3,rfl⟩,rfl,Af⟩;have hi:i<fs.length:=by rw[←T1.1];exact(Z' hv).1
   have hf:fs[i]?=some fs[i]:=by simp[hi]
   generalize fs[i]=f0 at hf;obtain⟨t,yf,uE⟩:=T1.2 i f0 hf;rw[hv]at yf;cases yf;obtain⟨x0,y0,p0⟩:=f0;refine⟨t,_,rfl, .of uE,rfl,_,_,rfl,_,_,rfl,_,_,rfl,rfl,?_⟩;have QS:¬(x0=x∧y0=y)→∀f∈fs.take (i+1),¬(f.1=x∧f.2.1=y):=fun eX f Wn=>by
    rw[List.take_succ,hf]at Wn;rcases List.mem_append.mp Wn with h|h
    ·exact Af f h
    ·have h:f=(x0,y0,p0):=by simpa using h
     rw[h];exact eX
   refine⟨_,rfl,_,rfl,rfl,_,rfl,?_⟩;refine bf (fun hh=>?_) (fun hh=>?_)
   ·have Aw:x0=x:=by simpa using hh
    refine⟨_,rfl,_,rfl,rfl,_,rfl,?_⟩;refine bf (fun hh=>?_) (fun hh=>?_)
    ·have jg:y0=y:=by simpa using hh
     have e:cP fs x y=some p0:=rB hf Af ⟨Aw,jg⟩;rw[show cI same fs x y=some (same-p0) by simp[cI,h,e]]at q;exact⟨_,rfl,_,rfl,_,_,rfl,rfl,q⟩
    ·have jg:¬y0=y:=by simpa using hh
     exact⟨⟨_,_,_,rfl⟩,rfl,QS fun z=>jg z.2⟩
   ·have Aw:¬x0=x:=by simpa using hh
    refine f_ ?_;exact⟨⟨_,_,_,rfl⟩,rfl,QS fun z=>Aw z.1⟩
  ·rintro σ H' ⟨⟨u1,u2,u3,rfl⟩,rfl,Af⟩;rw[T1.1,List.take_length]at Af;have e:cP fs x y=none:=EM Af;rw[show cI same fs x y=none by simp[cI,h,e]]at q;exact q
variable(bI:bK P w K mg base true 1 "_law_pair" ["_law_x","_law_y","_law_same","_law_near_here"] tq)
theorem cx:aM ["_law_case_here","_law_way","_law_total","_law_k","_law_i","_law_j","_law_gain"] ["_law_case_here","_law_way"] (ar kN):=⟨rfl,rfl,rfl,by decide+kernel,rfl,by decide+kernel,by decide+kernel⟩
include T bI in
theorem uX{f:Addr}{fd:FuncData}(F:jw K "_law_worth" "_law_worth" kN f fd):a7 P w K mg base (cW P w) true 2 f fd ["_law_case_here","_law_way"] qt:=by
 refine F.gM cx ZQ (fun bS A outer s H vs Q E hr h hX=>?_)
 ·obtain⟨a,w,c,f,g,m,l,us,ws,ps,rfl,_⟩:=h;rfl
 ·obtain⟨a,w,c,x1,x2,m,l,us,ws,ps,rfl,C1,no,hw,P1,hlen,Ih,q⟩:=h;obtain⟨eX,Ha⟩:=kE Ih;have Us:0<ps.length:=List.length_pos_iff.mpr eX;have Ii:=P1.1;have l6:=C1.ca;have zM:=C1.nu;have nO:=no.out;have nI:=no.into;refine⟨_,(Xc (Z0 (2) cx.nd ai) (Xc (τ hX.own (Z1 (3) cx.nd) (Xc (@zO _ _ _ _ _ _ (Z6 ZC (pv 3)) (η K (2) (by exact rfl) (Zz (Z1 (4) cx.nd) (Zz (Z1 (5) cx.nd) fJ))) (ZA) (ZA) (ZA)) (Xc (Z0 (6) cx.nd (Z5 bI aO (Z_ (Υ (pv 4)) (Z_ (Υ (pv 5)) (ρ (Υ ai)))))) (Xc (Zr (Χ (@lF _ _ _ _ _ (pv 6))) (WX (ZS jU)) aQ) (Xc (Z0 (2) cx.nd (XI bA (pv 2) (pv 6))) (WX (Zr (Zk rq (pv 3) ai (aV _)) (Xc (Z0 (2) cx.nd (XI cy (pv 2) (XI nr (Υ ai) (XI cy (XI cy (pv 4) (Ζ (bT K) (Z6 ZC (XI cy (pv 3) ai)) ai)) ai)))) (WX (Z0 (2) cx.nd (XI cy (pv 2) (XI nr (Υ ai) (XI cy (XI cy (pv 5) (Ζ (bT K) (Z6 ZC (XI cy (pv 3) ai)) ai)) ai)))))) aQ))))))) (WX (ZS (pv 2))))),?_⟩;refine⟨_,rfl,w,_,rfl, .inl (.of hw),(ws.length:Int),rfl,by lia,by lia,?_⟩;refine ft (fun i σ H'=>(∃(u1 u2 u3 u4:Option V),σ=[some (.ref a),some (.ref w),some (.int (if i=0 then 0 else dH c ps (i-1))),u1,u2,u3,u4])∧H'=H) ⟨⟨_,_,_,_,rfl⟩,rfl⟩ ?_ ?_
  ·rintro i σ H' hi ⟨⟨u1,u2,u3,u4,rfl⟩,e0⟩;subst e0;have hi:i<ps.length:=by lia
   obtain⟨tt,yf,uE⟩:=P1.K1 hi;obtain⟨wo,Ri⟩:=Hr (Ha i hi);obtain⟨b1,b2⟩:=c.pw_in Ri;obtain⟨x,lq,yh⟩:=vO b1.1 b1.2;obtain⟨y,Gs,DK⟩:=vO b2.1 b2.2;have ep:c.pw (pr ps i)=cI c.same c.fs x y:=Case.pw_of lq Gs;refine⟨_,rfl,_,rfl,w,_,_,_,rfl,rfl, .of hw,U9 yf,tt,_,rfl, .of uE,rfl,_,_,rfl,_,_,rfl,rfl,?_⟩;refine⟨_,rfl,a,_,0,_,rfl,rfl, .of l6,YL (j:=0),_,rfl,x1,_,_,_,rfl,rfl, .of C1.fi,yh,_,rfl,a,_,1,_,rfl,rfl, .of l6,YL (j:=1),_,rfl,x2,_,_,_,rfl,rfl, .of C1.se,DK,_,rfl,a,_,2,_,rfl,rfl, .of l6,YL (j:=2),m,_,0,_,rfl,rfl, .of zM,YL (j:=0),_,rfl,a,_,3,_,rfl,rfl, .of l6,YL (j:=3),x,y,c.same,l,us,c.fs,rfl,C1.ne,C1.tr,?_⟩;rw[←ep,Ri];refine⟨_,rfl,_,rfl,?_⟩;refine bf (fun hh=>ZE hh (by simp[bC])) (fun _=>?_);refine⟨_,rfl,_,rfl,_,_,rfl,rfl,?_⟩;refine⟨_,rfl,_,_,rfl,rfl,_,rfl,?_⟩;refine bf (fun h2=>?_) (fun h2=>?_)
   ·have h2:0<i:=by
     have:(0:Int)<0+(i:Int):=by simpa using h2
     lia
    obtain⟨j,rfl⟩:∃j,i=j+1:=⟨i-1,by lia⟩
    have e1:((0+((j+1:Nat):Int))-1)=((j:Nat):Int):=by lia
    obtain⟨t2,OW,FI⟩:=P1.K1 (show j<ps.length by lia);have v5:rP ws ((0+((j+1:Nat):Int))-1)=some (.ref t2):=by rw[e1];exact au OW
    refine⟨_,rfl,_,rfl,a,_,2,_,rfl,rfl, .of l6,YL (j:=2),m,_,1,_,rfl,rfl, .of zM,YL (j:=1),_,rfl,_,rfl,_,rfl,_,_,rfl,rfl,w,_,_,_,rfl,rfl, .of hw,v5,t2,_,0,_,rfl,rfl, .of FI,YL (j:=0),_,_,rfl,rfl,_,_,rfl,rfl,_,_,rfl,rfl, .inl ⟨by lia,by lia⟩,_,_,rfl,rfl,?_⟩;refine⟨_,rfl,_,rfl,a,_,2,_,rfl,rfl, .of l6,YL (j:=2),m,_,2,_,rfl,rfl, .of zM,YL (j:=2),_,rfl,_,rfl,_,rfl,_,_,rfl,rfl,w,_,_,_,rfl,rfl, .of hw,v5,t2,_,1,_,rfl,rfl, .of FI,YL (j:=1),_,_,rfl,rfl,_,_,rfl,rfl,_,_,rfl,rfl, .inl ⟨by lia,by lia⟩,_,_,rfl,rfl,⟨some (.int (0+((j+1:Nat):Int))),some (.int (pr ps (j+1)).1),some (.int (pr ps (j+1)).2),some (.int wo),?_⟩,rfl⟩;have:dH c ps (j+1)=dH c ps j+wo-c.out*((pr ps (j+1)).1-(pr ps j).1-1)-c.into*((pr ps (j+1)).2-(pr ps j).2-1):=by
     simp only[dH,Ri,Case.gap,Option.getD_some]
     lia
    simp only[Nat.add_sub_cancel,Nat.succ_ne_zero,if_false,this];rfl
   ·have h2:i=0:=by
     have:¬(0:Int)<0+(i:Int):=by simpa using h2
     lia
    subst h2;refine⟨⟨some (.int (0+((0:Nat):Int))),some (.int (pr ps 0).1),some (.int (pr ps 0).2),some (.int wo),?_⟩,rfl⟩;have:dH c ps 0=0+wo:=by simp[dH,Ri]
    simp only[Nat.zero_add,Nat.sub_self,Nat.one_ne_zero,if_false,this];rfl
  ·rintro σ H' ⟨⟨u1,u2,u3,u4,rfl⟩,rfl⟩;have e:((ws.length:Nat):Int).toNat=ps.length:=by lia
   rw[e,Sn Mm];exact⟨_,rfl,q⟩
variable(bF:bK P w K mg base true 1 "_law_whole" ["_law_found"] s_)
theorem m_:aM ["_law_found","_law_pair_here"] ["_law_found"] (ar kO):=⟨rfl,rfl,rfl,by decide+kernel,rfl,by decide+kernel,by decide+kernel⟩
include T bF in
theorem uY{f:Addr}{fd:FuncData}(F:jw K "_law_pairs" "_law_pairs" kO f fd):a7 P w K mg base (cW P w) true 2 f fd ["_law_found"] qr:=by
 refine F.gM m_ ZQ (fun bS A outer s H vs Q E hr h hX=>?_)
 ·obtain⟨a,us,ps,rfl,_⟩:=h;rfl
 ·obtain⟨a,us,ps,rfl,ha,P1,q⟩:=h;refine⟨_,(Xc (Ξ (@cL _ _ _ _ (Γ (γ (f6 K) T.cY PyProof.Rows.Boot.«isinstance» (ο Xd)))) aQ) (Xc (Α hX.own (Β K Xd) (Z1 (1) m_.nd) (Xc (Ξ (@PW.pt _ _ _ (Κ (@cL _ _ _ _ (Γ (γ (f6 K) T.cY PyProof.Rows.Boot.«isinstance» (Z_ ZC (Z2 (@ju _ _ (.ty "tuple") _ _ (by exact rfl) T.Hd PyProof.Rows.Boot.«tuple» Zv (U7) (U7))))))) (@pw_or1 _ _ _ _ (Zk vy (Z7 (aL K) T.cX (Z2 ZC)) ai (aV _))))) aQ) (WX (Ξ (@PW.pt _ _ _ (Κ (@cL _ _ _ _ (Γ (Z5 bF aO (Z2 (Ζ (bT K) (pv 1) ai))))) (@pw_or1 _ _ _ _ (@cL _ _ _ _ (Γ (Z5 bF aO (Z2 (Ζ (bT K) (pv 1) ai)))))))) aQ)))) (WX (ZS dU)))),?_⟩;refine⟨_,rfl,_,_,_,true,_,rfl,rfl, .lst ha,rfl,_,rfl,?_⟩;refine f_ ?_;refine⟨_,rfl,a,rfl,⟨_, .of ha⟩,?_⟩;refine bU (xs:=us) (fun i σ H'=>(∃u,σ=[some (.ref a),u])∧H'=H) ⟨⟨_,rfl⟩,rfl⟩ ?_ ?_ ?_
  ·rintro i σ H' _ ⟨_,rfl⟩;exact .of ha
  ·rintro i v σ H' hv ⟨⟨u,rfl⟩,rfl⟩;have hi:i<ps.length:=by rw[←P1.1];exact(Z' hv).1
   obtain⟨t,yf,uE⟩:=P1.K1 hi;rw[hv]at yf;cases yf;refine⟨_,rfl,_,_,_,true,_,rfl,rfl, .tup uE,rfl,_,rfl,?_⟩;refine f_ ?_;refine⟨_,rfl,t,_,rfl, .inr (.of uE),rfl,_,rfl,?_⟩;refine bf (fun hh=>absurd hh V9) (fun _=>?_);refine⟨_,rfl,t,_,0,_,rfl,rfl, .of uE,YL (j:=0),_,rfl,_,rfl,?_⟩;refine f_ ?_;refine⟨_,rfl,t,_,1,_,rfl,rfl, .of uE,YL (j:=1),_,rfl,_,rfl,?_⟩;refine f_ ?_;exact⟨⟨_,rfl⟩,rfl⟩
  ·rintro σ H' ⟨⟨u,rfl⟩,rfl⟩;exact q
variable(pz:m3 P w K mg base true 5 "Terms" aU ["self","same","out","into","least","part","near"] [] (sD aU d7 cT))
theorem nc:aM ["_law_case_here","_law_n"] ["_law_case_here"] (ar kP):=⟨rfl,rfl,rfl,by decide+kernel,rfl,by decide+kernel,by decide+kernel⟩
include T pz in
theorem uZ{f:Addr}{fd:FuncData}(F:jw K "_law_terms" "_law_terms" kP f fd):a7 P w K mg base (cW P w) true 7 f fd ["_law_case_here"] (qp aU):=by
 refine F.gM nc ZQ (fun bS A outer s H vs Q E hr h hX=>?_)
 ·obtain⟨a,c,f,g,m,l,us,most,rfl,_⟩:=h;rfl
 ·obtain⟨a,c,x1,x2,m,l,us,most,rfl,C1,ok,q⟩:=h;refine⟨_,(Xc (Z0 (1) nc.nd (Z6 Xd ai)) (WX (ZS (@su _ _ _ _ _ _ _ _ _ _ _ _ _ _ pz (hr.mono (U7)) hX.pass (Z_ (Z6 ZC ai) (Z_ (Z6 ZC ai) (Z_ (Z6 ZC ai) (Z_ (Z6 ZC ai) (Z_ ai (Z2 (ν (fF K) (by exact rfl) T.jW PyProof.Rows.Boot.«list» (Z2 (Z6 Xd ai))))))))) (ZA) (U7) (ZA) (ZA))))),?_⟩;have zM:=C1.nu;have l6:=C1.ca;refine⟨_,rfl,a,_,2,_,rfl,rfl, .of l6,YL (j:=2),?_⟩;refine⟨_,rfl,m,_,0,_,rfl,rfl, .of zM,YL (j:=0),_,rfl,m,_,1,_,rfl,rfl, .of zM,YL (j:=1),_,rfl,m,_,2,_,rfl,rfl, .of zM,YL (j:=2),_,rfl,m,_,3,_,rfl,rfl, .of zM,YL (j:=3),_,rfl,a,_,3,_,rfl,rfl, .of l6,YL (j:=3),l,us,rfl, .inl (.of C1.ne),fun h hh=>fun x dx hx EN eX=>?_⟩;have s5:ax (upd H h (.lst us)) (upd (upd (upd H h (.lst us)) dx (.own x)) x (.ins aU dx [])):=(ZF EN).eI hx;have s4:ax H (upd H h (.lst us)):=ZF hh;refine⟨x,dx,⟨c.same,c.out,c.into,c.least,50⟩, .ref h,us,c.fs,rfl,ae,by rw[ak eX];exact ae, .inr ⟨h,rfl,s5 _ _ ae,C1.tr.same (s4.trans s5)⟩,tm ok.good,?_⟩;have Y8:i_ ⟨c.same,c.out,c.into,c.least,50⟩=true:=by
   have:=ok.same;have:=ok.out;have:=ok.into;have:=ok.least;simp[i_,inR]
   lia
  rw[U6 Y8,U6 ok.good];intro H6 l2 d sb T6 Wm ZT;exact⟨rfl,q H6 x (s4.trans (SameBut.Ak hx EN sb)) ⟨_,dx,l2,d,us,T6,rfl,rfl,rfl,rfl⟩⟩
theorem dB:aM ["_law_case_here","_law_many","_law_x","_law_y","_law_each","_law_same","_law_least"] ["_law_case_here"] (ar lZ):=⟨rfl,rfl,rfl,by decide+kernel,rfl,by decide+kernel,by decide+kernel⟩
include T bI in
theorem xy{f:Addr}{fd:FuncData}(F:jw K "_law_calm" "_law_calm" lZ f fd):a7 P w K mg base (cW P w) true 2 f fd ["_law_case_here"] xm:=by
 refine F.gM dB ZQ (fun bS A outer s H vs Q E hr h hX=>?_)
 ·obtain⟨a,c,f,g,m,l,us,rfl,_⟩:=h;rfl
 ·obtain⟨a,c,x1,x2,m,l,us,rfl,C1,ok,q⟩:=h;refine⟨_,(YM (Z0 (1) dB.nd ai) (YM (Α hX.own (Β K (Z6 Xd ai)) (Z1 (2) dB.nd) (WX (Α hX.own (Β K (Z6 Xd ai)) (Z1 (3) dB.nd) (WX (Z0 (1) dB.nd (XI bA ZC (ν qg Zv T.Bw PyProof.Rows.Boot.«int» (Z2 (@zN _ _ _ _ _ _ (@oA _ _ _ _ _ (Z5 bI aO (Z_ (pv 2) (Z_ (pv 3) (ρ (Υ ai)))))) (by first|exact bo _ (U7) (U7)|rfl)))))))))) (YM (Z0 (4) dB.nd (XI bA (XI dY ZC ai) ai)) (YM (Z0 (5) dB.nd (γ (qf rfl) T.Ey PyProof.Rows.Boot.«min» (Z_ (Υ ai) (Z2 (XI dY ai (pv 4)))))) (YM (Z0 (6) dB.nd (γ (Cj rfl) T.Jb PyProof.Rows.Boot.«max» (Z_ (Υ ai) (Z2 (XI bA (XI nr (XI cy (pv 4) ai) (pv 5)) ai))))) (WX (ZS (@bR _ _ _ _ (Z_ (Z6 Xd ai) (Z_ (Z6 Xd ai) (ρ (@bR _ _ _ _ (Z_ (pv 5) (Z_ (Υ ai) (Z_ (Υ ai) (Z2 (pv 6))))))))))))))))),?_⟩;have l6:=C1.ca;have zM:=C1.nu;have lx:(c.xs.map V.str).length=c.xs.length:=List.length_map ..;have ly:(c.ys.map V.str).length=c.ys.length:=List.length_map ..;refine⟨fun σ H1=>H1=H∧σ=[some (.ref a),some (.int 0),none,none,none,none,none],⟨rfl,rfl⟩,?_⟩;rintro σ H1 ⟨rfl,rfl⟩;refine⟨fun σ H2=>H2=H1∧∃u v,σ=[some (.ref a),some (.int (manyN c c.xs.length:Nat)),u,v,none,none,none],?_,?_⟩
  ·refine⟨_,rfl,a,_,0,_,rfl,rfl, .of l6,YL (j:=0),x1,rfl,⟨_, .of C1.fi⟩,?_⟩;refine bU (xs:=c.xs.map V.str) (fun i σ H2=>H2=H1∧∃u v,σ=[some (.ref a),some (.int (manyN c i:Nat)),u,v,none,none,none]) ⟨rfl,_,_,rfl⟩ ?_ ?_ ?_
   ·rintro i σ H2 _ ⟨rfl,_⟩;exact .of C1.fi
   ·rintro i v σ H2 hv ⟨rfl,u1,u2,rfl⟩;obtain⟨wx,Q9,rfl⟩:=jz hv;refine⟨_,rfl,a,_,1,_,rfl,rfl, .of l6,YL (j:=1),x2,rfl,⟨_, .of C1.se⟩,?_⟩;refine bU (xs:=c.ys.map V.str) (fun j σ H3=>H3=H2∧∃v,σ=[some (.ref a),some (.int (manyN c i+FT c i j:Nat)),some (.str wx),v,none,none,none]) ⟨rfl,_,rfl⟩ ?_ ?_ ?_
    ·rintro j σ H3 _ ⟨rfl,_⟩;exact .of C1.se
    ·rintro j v σ H3 Rb ⟨rfl,u3,rfl⟩;obtain⟨wy,DM,rfl⟩:=jz Rb;have T_:c.pw (aR (i,j))=cI c.same c.fs wx wy:=Case.pw_of (by rw[show(aR (i,j)).1=(i:Int)from rfl,tw];exact Q9) (by rw[show(aR (i,j)).2=(j:Int)from rfl,tw];exact DM);refine⟨_,rfl,_,rfl,_,rfl,_,rfl,a,_,2,_,rfl,rfl, .of l6,YL (j:=2),m,_,0,_,rfl,rfl, .of zM,YL (j:=0),_,rfl,a,_,3,_,rfl,rfl, .of l6,YL (j:=3),wx,wy,c.same,l,us,c.fs,rfl,C1.ne,C1.tr, .inr ⟨_,rfl,_,_,rfl,rfl,rfl,some (.str wy),?_⟩⟩;rw[Dh,T_];cases cI c.same c.fs wx wy<;>simp[bC,List.set]<;>lia
    ·rintro σ H3 ⟨rfl,u3,rfl⟩;rw[ly];exact⟨rfl,_,_,rfl⟩
   ·rintro σ H2 ⟨rfl,u1,u2,rfl⟩;rw[lx];exact⟨rfl,_,_,rfl⟩
  rintro σ H1 ⟨rfl,u,v,rfl⟩;have JM:manyN c c.xs.length≤3600:=by
   have:=B5 c c.xs.length;have h2:=Nat.mul_le_mul ok.x ok.y
   lia
  have ee:((manyN c c.xs.length:Nat):Int)/21+1=(bV c:Int):=by unfold bV;lia
  have he:(1:Int)≤bV c∧(bV c:Int)≤172:=by unfold bV;lia
  refine⟨fun σ H2=>H2=H1∧σ=[some (.ref a),some (.int (manyN c c.xs.length:Nat)),u,v,some (.int (bV c)),none,none],⟨_,rfl,_,_,rfl,rfl,⟨U7,U7⟩,_,_,rfl,rfl,rfl,by rw[ee];rfl⟩,?_⟩;rintro σ H1 ⟨rfl,rfl⟩;have es:(if 999999/(bV c:Int)<c.same then 999999/(bV c:Int)else c.same)=eM c:=by unfold eM;split<;>lia
  refine⟨fun σ H2=>H2=H1∧σ=[some (.ref a),some (.int (manyN c c.xs.length:Nat)),u,v,some (.int (bV c)),some (.int (eM c)),none],⟨_,rfl,a,_,2,_,rfl,rfl, .of l6,YL (j:=2),m,_,0,_,rfl,rfl, .of zM,YL (j:=0),_,rfl,_,_,rfl,rfl,⟨by lia,by lia⟩,_,_,rfl,rfl,by rw[es];rfl⟩,?_⟩;rintro σ H1 ⟨rfl,rfl⟩;have s1:1≤eM c∧eM c≤999999:=by
   have:=(B6 ok Mm).same;exact this
  have el:(if ((bV c:Int)-1)*eM c+1>c.least then((bV c:Int)-1)*eM c+1 else c.least)=(gi c).least:=by show _=max c.least _;split<;>lia
  refine⟨fun σ H2=>H2=H1∧σ=[some (.ref a),some (.int (manyN c c.xs.length:Nat)),u,v,some (.int (bV c)),some (.int (eM c)),some (.int (gi c).least)],⟨_,rfl,a,_,2,_,rfl,rfl, .of l6,YL (j:=2),m,_,3,_,rfl,rfl, .of zM,YL (j:=3),_,rfl,_,_,rfl,rfl,_,rfl,_,_,rfl,rfl, .inl ⟨by lia,by lia⟩,_,_,rfl,rfl,_,_,rfl,rfl,by rw[el];rfl⟩,?_⟩;rintro σ H1 ⟨rfl,rfl⟩;refine⟨_,rfl,a,_,0,_,rfl,rfl, .of l6,YL (j:=0),_,rfl,a,_,1,_,rfl,rfl, .of l6,YL (j:=1),_,rfl,_,rfl,a,_,2,_,rfl,rfl, .of l6,YL (j:=2),m,_,1,_,rfl,rfl, .of zM,YL (j:=1),_,rfl,a,_,2,_,rfl,rfl, .of l6,YL (j:=2),m,_,2,_,rfl,rfl, .of zM,YL (j:=2),_,rfl,aF V9,fun m' yE=>?_⟩;have sm:=ax.upd (o:= .lst [.int (eM c), .int c.out, .int c.into, .int (gi c).least]) yE;have Uu:=sm _ _ l6;refine⟨_,rfl,a,_,3,_,rfl,rfl, .of Uu,YL (j:=3),aF V9,fun b hb=>?_⟩;have sb:=ax.upd (o:= .lst [.ref x1, .ref x2, .ref m', .ref l]) hb;have sA:=sm.trans sb;exact q _ b m' sA (sm.free hb) ae ⟨ae,sA _ _ C1.fi,sA _ _ C1.se,sb _ _ ae,sA _ _ C1.ne,C1.tr.same sA⟩
variable(dC:bK P w K mg base true 2 "_law_pairs" ["_law_found"] qr)
theorem lg:aM ["_law_found","_law_told"] ["_law_found"] (ar gv):=⟨rfl,rfl,rfl,by decide+kernel,rfl,by decide+kernel,by decide+kernel⟩
include T Fc bF dC in
theorem r_{f:Addr}{fd:FuncData}(F:jw K "_law_finding" "_law_finding" gv f fd):a7 P w K mg base (cW P w) true 3 f fd ["_law_found"] (tX ay):=by
 refine F.gM lg ZQ (fun bS A outer s H vs Q E hr h hX=>?_)
 ·obtain⟨y,P,d,dy,wy,rw,pr,lr,iz,rfl,_⟩:=h;rfl
 ·obtain⟨y,P,d,dy,wy,iF,pr,lr,iz,rfl,F,hl,eX,q⟩:=h;have hu:=hr.units;have JE:(A.deeper (Ψ "_law_finding" (ar gv) f bS)).units<cLine:=by lia
  refine⟨_,(Xc (Ξ (@PW.pt _ _ _ (Κ (@cL _ _ _ _ (Γ (Z5 bF aO (Z2 (ZW K))))) (Κ (@cL _ _ _ _ (Γ (Z5 dC aO (Z2 (ZW K))))) (@pw_or1 _ _ _ _ (@cL _ _ _ _ (Γ (Z5 dC aO (Z2 (ZW K))))))))) aQ) (Xc (Ξ (@PW.pt _ _ _ (Κ (@cL _ _ _ _ (Γ (γ (f6 K) T.cY PyProof.Rows.Boot.«isinstance» (ο (ZW K))))) (Κ (Zk vy (Z7 (aL K) T.cX (Z2 (ZW K))) (Z7 (aL K) T.cX (Z2 (ZW K))) (aV _)) (@pw_or1 _ _ _ _ (Zk (yI K JE) (ZW K) (@bR _ _ _ _ af) (aV _)))))) aQ) (Xc (Α hX.own (Β K (ZW K)) (Z1 (1) lg.nd) (WX (Ξ (@cL _ _ _ _ (Γ (Z5 bF aO (Z2 ZC)))) aQ))) (WX (ZS dU))))),?_⟩;have h1:lr≠[]:=fun z=>eX (List.length_eq_zero_iff.mp (by rw[←F.pw.1,z];rfl))
  refine⟨_,rfl,y,ay,dy,_,_,rfl,F.ob,Fc.cl,Fc.worth,jc d.worth wy iF pr,_,rfl,_,rfl,?_⟩;refine f_ ?_;refine⟨_,rfl,y,ay,dy,_,_,rfl,F.ob,Fc.cl,Fc.way,qC d.worth wy iF pr,wy,lr,d.way,rfl,F.hw,F.pw,_,rfl,?_⟩;refine f_ ?_;refine⟨_,rfl,y,ay,dy,_,_,rfl,F.ob,Fc.cl,Fc.pairs,ip d.worth wy iF pr,pr,iz,d.pairs,rfl,F.hp,F.pp,_,rfl,?_⟩;refine f_ ?_;refine⟨_,rfl,y,ay,dy,_,_,rfl,F.ob,Fc.cl,Fc.row,AF d.worth wy iF pr,_,_,_,true,_,rfl,rfl, .lst F.hr,rfl,_,rfl,?_⟩;refine f_ ?_;refine⟨_,rfl,y,ay,dy,_,_,rfl,F.ob,Fc.cl,Fc.row,AF d.worth wy iF pr,iF,_,rfl, .inl (.of F.hr),_,rfl,y,ay,dy,_,_,rfl,F.ob,Fc.cl,Fc.way,qC d.worth wy iF pr,wy,_,rfl, .inl (.of F.hw),rfl,_,rfl,?_⟩;have h2:(d.row.map V.int).length=lr.length:=by rw[List.length_map,hl,F.pw.1]
  rw[h2];refine bf (fun hh=>absurd hh V9) (fun _=>?_);refine⟨_,rfl,y,ay,dy,_,_,rfl,F.ob,Fc.cl,Fc.way,qC d.worth wy iF pr,aF V9,fun e he=>⟨wy,e,lr,[],fun _=>true,rfl,rfl, .of (ax.upd he _ _ F.hw), .of ae,(fun j x y _ h=>by simp at h),_,rfl,?_⟩⟩;refine bf (fun hh=>ZE hh (by simpa using h1)) (fun _=>?_);have s1:=ax.upd (o:= .lst []) he;generalize upd H e (.lst [])=H1 at s1;refine⟨_,rfl,y,ay,dy,_,_,rfl,s1 _ _ F.ob,Fc.cl,Fc.row,AF d.worth wy iF pr,iF,rfl,⟨_, .of (s1 _ _ F.hr)⟩,?_⟩;refine bU (xs:=d.row.map V.int) (fun i σ H'=>(∃u,σ=[some (.ref y),u])∧H'=H1) ⟨⟨_,rfl⟩,rfl⟩ ?_ ?_ ?_
  ·rintro i σ H' _ ⟨_,rfl⟩;exact .of (s1 _ _ F.hr)
  ·rintro i v σ H' hv ⟨⟨u,rfl⟩,rfl⟩;rw[List.getElem?_map]at hv;obtain⟨z,_,rfl⟩:=Option.map_eq_some_iff.mp hv;refine⟨_,rfl,_,rfl,_,rfl,?_⟩;refine f_ ?_;exact⟨⟨_,rfl⟩,rfl⟩
  ·rintro σ H' ⟨⟨u,rfl⟩,rfl⟩;exact q _ s1
theorem gC:aM ["_law_case_here","_law_way","_law_k","_law_i","_law_j"] ["_law_case_here","_law_way"] (ar hJ):=⟨rfl,rfl,rfl,by decide+kernel,rfl,by decide+kernel,by decide+kernel⟩
include T bI in
theorem ue{f:Addr}{fd:FuncData}(F:jw K "_law_is_way" "_law_is_way" hJ f fd):a7 P w K mg base (cW P w) true 2 f fd ["_law_case_here","_law_way"] tE:=by
 refine F.gM gC ZQ (fun bS A outer s H vs Q E hr h hX=>?_)
 ·obtain⟨a,w,c,f,g,m,l,us,ws,ps,rfl,_⟩:=h;rfl
 ·obtain⟨a,w,c,x1,x2,m,l,us,ws,ps,rfl,C1,hw,P1,hlen,q⟩:=h;have hu:=hr.units;have JE:(A.deeper (Ψ "_law_is_way" (ar hJ) f bS)).units<cLine:=by lia
  have Ii:=P1.1;have l6:=C1.ca;have zM:=C1.nu;have lx:(c.xs.map V.str).length=c.xs.length:=List.length_map ..;have ly:(c.ys.map V.str).length=c.ys.length:=List.length_map ..;refine⟨_,(Xc (τ hX.own (Z1 (2) gC.nd) (Xc (@zO _ _ _ _ _ _ (Z6 ZC (pv 2)) (η K (2) (by exact rfl) (Zz (Z1 (3) gC.nd) (Zz (Z1 (4) gC.nd) fJ))) (ZA) (ZA) (ZA)) (Xc (Ξ (@PW.pt _ _ _ (Κ (Zk mY (pv 3) ai (aV _)) (Κ (Zk mY (pv 4) ai (aV _)) (Κ (Zk Bg (pv 3) (Z7 (aL K) T.cX (Z2 (Z6 Xd ai))) (aV _)) (@pw_or1 _ _ _ _ (Zk Bg (pv 4) (Z7 (aL K) T.cX (Z2 (Z6 Xd ai))) (aV _))))))) aQ) (Xc (Ξ (Χ (@lF _ _ _ _ _ (Z5 bI aO (Z_ (Υ (pv 3)) (Z_ (Υ (pv 4)) (ρ (Υ ai))))))) aQ) (WX (Ξ (@PW.pt _ _ _ (@pw_and _ _ _ _ _ _ _ (Zk rq (pv 2) ai (aV _)) (@pw_and1 _ _ _ _ (@PW.pt _ _ _ (Κ (Zk Bf (pv 3) (Ζ (bT K) (Z6 ZC (XI cy (pv 2) ai)) ai) (aV _)) (@pw_or1 _ _ _ _ (Zk Bf (pv 4) (Ζ (bT K) (Z6 ZC (XI cy (pv 2) ai)) ai) (aV _)))))))) aQ)))))) (WX (ZS (@iI _ _ _ _ _ _ _ _ (tf K JE) (pv 1) (@bR _ _ _ _ af) (aV _))))),?_⟩;refine⟨_,rfl,w,_,rfl, .inl (.of hw),(ws.length:Int),rfl,by lia,by lia,?_⟩;refine ft (fun i σ H'=>(∃(u1 u2 u3:Option V),σ=[some (.ref a),some (.ref w),u1,u2,u3])∧H'=H∧lN c ps i) ⟨⟨_,_,_,rfl⟩,rfl,fun k hk=>by lia⟩ ?_ ?_
  ·rintro i σ H' hi ⟨⟨u1,u2,u3,rfl⟩,e0,Ha⟩;subst e0;have hi:i<ps.length:=by lia
   obtain⟨tt,yf,uE⟩:=P1.K1 hi;have bad:dF c ps i=false→Q (.bl false) H':=fun e=>by
    have:=q H' (.refl _);rw[ER hi e]at this;exact this
   have Gb:c.pw (pr ps i)=none→Q (.bl false) H':=fun e=>bad (by simp[dF,e])
   refine⟨_,rfl,_,rfl,w,_,_,_,rfl,rfl, .of hw,U9 yf,tt,_,rfl, .of uE,rfl,_,_,rfl,_,_,rfl,rfl,?_⟩;refine⟨_,rfl,_,_,rfl,rfl,_,rfl,?_⟩;refine bf (fun h1=>?_) (fun h1=>?_)
   ·have h1:(pr ps i).1<0:=by simpa using h1
    refine jV ?_;exact Gb (Case.pw_out Mm)
   have h1:¬(pr ps i).1<0:=by simpa using h1
   refine⟨_,rfl,_,_,rfl,rfl,_,rfl,?_⟩;refine bf (fun h2=>?_) (fun h2=>?_)
   ·have h2:(pr ps i).2<0:=by simpa using h2
    refine jV ?_;exact Gb (Case.pw_out Mm)
   have h2:¬(pr ps i).2<0:=by simpa using h2
   refine⟨_,rfl,_,rfl,a,_,0,_,rfl,rfl, .of l6,YL (j:=0),x1,_,rfl, .inl (.of C1.fi),_,_,rfl,rfl,_,rfl,?_⟩;rw[lx];refine bf (fun h3=>?_) (fun h3=>?_)
   ·have h3:(c.xs.length:Int)≤(pr ps i).1:=by simpa using h3
    refine jV ?_;exact Gb (Case.pw_out Mm)
   have h3:¬(c.xs.length:Int)≤(pr ps i).1:=by simpa using h3
   refine⟨_,rfl,_,rfl,a,_,1,_,rfl,rfl, .of l6,YL (j:=1),x2,_,rfl, .inl (.of C1.se),_,_,rfl,rfl,_,rfl,?_⟩;rw[ly];refine bf (fun h4=>?_) (fun h4=>?_)
   ·have h4:(c.ys.length:Int)≤(pr ps i).2:=by simpa using h4
    exact Gb (Case.pw_out Mm)
   have h4:¬(c.ys.length:Int)≤(pr ps i).2:=by simpa using h4
   obtain⟨x,lq,yh⟩:=vO (xs:=c.xs) (i:=(pr ps i).1) (by lia) (by lia);obtain⟨y,Gs,DK⟩:=vO (xs:=c.ys) (i:=(pr ps i).2) (by lia) (by lia);have ep:c.pw (pr ps i)=cI c.same c.fs x y:=Case.pw_of lq Gs;refine⟨_,rfl,a,_,0,_,rfl,rfl, .of l6,YL (j:=0),_,rfl,x1,_,_,_,rfl,rfl, .of C1.fi,yh,_,rfl,a,_,1,_,rfl,rfl, .of l6,YL (j:=1),_,rfl,x2,_,_,_,rfl,rfl, .of C1.se,DK,_,rfl,a,_,2,_,rfl,rfl, .of l6,YL (j:=2),m,_,0,_,rfl,rfl, .of zM,YL (j:=0),_,rfl,a,_,3,_,rfl,rfl, .of l6,YL (j:=3),x,y,c.same,l,us,c.fs,rfl,C1.ne,C1.tr,_,rfl,?_⟩;rw[←ep];refine bf (fun h5=>?_) (fun h5=>?_)
   ·refine Gb ?_;cases e:c.pw (pr ps i)with
    |none=>rfl
    |some v=>rw[e]at h5;simp[bC]at h5
   have h5:(c.pw (pr ps i)).isSome=true:=by
    cases e:c.pw (pr ps i)with
    |none=>rw[e]at h5;simp[bC]at h5
    |some v=>rfl
   refine⟨_,rfl,_,_,rfl,rfl,_,rfl,?_⟩;refine bf (fun h6=>?_) (fun h6=>?_)
   rotate_left
   ·have h6:i=0:=by
     have:¬(0:Int)<0+(i:Int):=by simpa using h6
     lia
    refine f_ ?_;exact⟨⟨_,_,_,rfl⟩,rfl,Ha.next (by simp[dF,h5,h6]at h5⊢;exact h5)⟩
   have h6:0<i:=by
    have:(0:Int)<0+(i:Int):=by simpa using h6
    lia
   obtain⟨j,rfl⟩:∃j,i=j+1:=⟨i-1,by lia⟩
   have e1:((0+((j+1:Nat):Int))-1)=((j:Nat):Int):=by lia
   obtain⟨t2,OW,FI⟩:=P1.K1 (show j<ps.length by lia);have v5:rP ws ((0+((j+1:Nat):Int))-1)=some (.ref t2):=by rw[e1];exact au OW
   refine⟨_,rfl,_,rfl,_,rfl,_,_,rfl,rfl,w,_,_,_,rfl,rfl, .of hw,v5,t2,_,0,_,rfl,rfl, .of FI,YL (j:=0),_,_,rfl,rfl,_,rfl,?_⟩;refine bf (fun h7=>?_) (fun h7=>?_)
   ·have h7:(pr ps (j+1)).1≤(pr ps j).1:=by simpa using h7
    refine jV ?_;refine bad ?_;have:stepOk (pr ps j) (pr ps (j+1))=false:=by simp[stepOk];lia
    simp[dF,this]
   have h7:¬(pr ps (j+1)).1≤(pr ps j).1:=by simpa using h7
   refine⟨_,rfl,_,rfl,_,rfl,_,_,rfl,rfl,w,_,_,_,rfl,rfl, .of hw,v5,t2,_,1,_,rfl,rfl, .of FI,YL (j:=1),_,_,rfl,rfl,_,rfl,?_⟩;refine bf (fun h8=>?_) (fun h8=>?_)
   ·have h8:(pr ps (j+1)).2≤(pr ps j).2:=by simpa using h8
    refine bad ?_;have:stepOk (pr ps j) (pr ps (j+1))=false:=by simp[stepOk];lia
    simp[dF,this]
   have h8:¬(pr ps (j+1)).2≤(pr ps j).2:=by simpa using h8
   refine⟨⟨_,_,_,rfl⟩,rfl,Ha.next ?_⟩;have:stepOk (pr ps j) (pr ps (j+1))=true:=by simp[stepOk];lia
   simp[dF,h5,this]
  ·rintro σ H' ⟨⟨u1,u2,u3,rfl⟩,e0,Ha⟩;subst e0;have e:((ws.length:Nat):Int).toNat=ps.length:=by lia
   rw[e]at Ha;refine⟨_,rfl,aF V9,fun pn MY=>⟨w,pn,_,rfl,rfl, .of (ax.upd MY _ _ hw), .of ae,?_⟩⟩;have hq:=q _ (ax.upd (o:= .lst []) MY);by_cases hz:ps=[]
   ·subst hz;have:ws=[]:=List.length_eq_zero_iff.mp Ii;subst this;exact hq
   ·rw[mz hz Ha]at hq;have:ws≠[]:=fun z=>hz (by subst z;exact List.length_eq_zero_iff.mp Ii.symm)
    have:(!ws.isEmpty)=true:=by simpa using this
    rw[this];exact hq
theorem fH:aM ["_law_case_here","_law_shut","_law_found","_law_i","_law_j","_law_gain"] ["_law_case_here","_law_shut"] (ar iQ):=⟨rfl,rfl,rfl,by decide+kernel,rfl,by decide+kernel,by decide+kernel⟩
include T bI in
theorem u0{f:Addr}{fd:FuncData}(F:jw K "_law_spots" "_law_spots" iQ f fd):a7 P w K mg base (cW P w) true 2 f fd ["_law_case_here","_law_shut"] tW:=by
 refine F.gM fH ZQ (fun bS A outer s H vs Q E hr h hX=>?_)
 ·obtain⟨a,s0,c,f,g,m,l,us,ws,sh,rfl,_⟩:=h;rfl
 ·obtain⟨a,s0,c,x1,x2,m,l,us,ws,sh,rfl,C1,hs,P1,hx,hy,q⟩:=h;have hu:=hr.units;have hu:(A.deeper (Ψ "_law_spots" (ar iQ) f bS)).units+1<cLine:=by lia
  have lx:(c.xs.map V.str).length=c.xs.length:=List.length_map ..;have ly:(c.ys.map V.str).length=c.ys.length:=List.length_map ..;refine⟨_,(Xc (Z0 (2) fH.nd (@bR _ _ _ _ af)) (Xc (Α hX.own (@eD _ _ _ _ _ _ (by exact rfl) T.fO (Z2 (Z7 (aL K) T.cX (Z2 (Z6 Xd ai)))) (ZA)) (Z1 (3) fH.nd) (WX (Α hX.own (@eD _ _ _ _ _ _ (by exact rfl) T.fO (Z2 (Z7 (aL K) T.cX (Z2 (Z6 Xd ai)))) (ZA)) (Z1 (4) fH.nd) (Xc (Z0 (5) fH.nd (Z5 bI aO (Z_ (Υ (pv 3)) (Z_ (Υ (pv 4)) (ρ (Υ ai)))))) (WX (Zr (@PW.pt _ _ _ (@pw_and _ _ _ _ _ _ _ (Χ (@oA _ _ _ _ _ (pv 5))) (@pw_and1 _ _ _ _ (Zk (m9 K hu) (@eF _ _ _ _ _ (Z_ (pv 3) (Z2 (pv 4)))) (pv 1) (by with_unfolding_all rfl))))) (WX (Zt (Λ K PySem.F.slot_list_append PySem.F.type_list_append bQ (pv 2) (Z2 (@eF _ _ _ _ _ (Z_ (pv 3) (Z_ (pv 4) (Z2 (pv 5))))))))) aQ)))))) (WX (ZS (pv 2))))),?_⟩;refine⟨aF V9,fun b hb=>?_⟩;have C2:=C1.keep (ax.upd (o:= .lst []) hb);refine⟨_,rfl,a,_,0,_,rfl,rfl, .of C2.ca,YL (j:=0),x1,_,rfl, .inl (.of C2.fi),((c.xs.map V.str).length:Int),rfl,by lia,by lia,?_⟩;refine ft (fun i σ H'=>(∃u1 u2 u3,σ=[some (.ref a),some (.ref s0),some (.ref b),u1,u2,u3])∧ax H H'∧∃xs,H' b=some (.lst xs)∧DI H' xs (kf c sh i)) ⟨⟨_,_,_,rfl⟩,ZF hb,[],ae, .nil⟩ ?_ ?_
  ·rintro i σ H' hi ⟨⟨u1,u2,u3,rfl⟩,s1,xs,jg,S1⟩;have hi:i<c.xs.length:=by rw[lx]at hi;lia
   have C3:=C1.keep s1;refine⟨_,rfl,a,_,1,_,rfl,rfl, .of C3.ca,YL (j:=1),x2,_,rfl, .inl (.of C3.se),((c.ys.map V.str).length:Int),rfl,by lia,by lia,?_⟩;refine ft (fun j σ H'=>(∃u2 u3,σ=[some (.ref a),some (.ref s0),some (.ref b),some (.int (0+(i:Int))),u2,u3])∧ax H H'∧∃xs,H' b=some (.lst xs)∧DI H' xs (kf c sh i++lR c sh i j)) ⟨⟨_,_,rfl⟩,s1,xs,jg,by rw[lR,List.append_nil];exact S1⟩ ?_ ?_
   ·clear s1 jg S1 xs u1 u2 u3 C3 H';rintro j σ H' hj ⟨⟨u2,u3,rfl⟩,s1,xs,jg,S1⟩;have hj:j<c.ys.length:=by rw[ly]at hj;lia
    have C3:=C1.keep s1;obtain⟨x,lq,yh⟩:=vO (xs:=c.xs) (i:=0+(i:Int)) (by lia) (by lia);obtain⟨y,Gs,DK⟩:=vO (xs:=c.ys) (i:=0+(j:Int)) (by lia) (by lia);have ez:(0+(i:Int),0+(j:Int))=aR (i,j):=Prod.ext (by simp[aR]) (by simp[aR]);have ep:c.pw (aR (i,j))=cI c.same c.fs x y:=by rw[←ez];exact Case.pw_of lq Gs
    have sl:=S1.1;have l1:=vX c sh i;have l2:=qH c sh i j;have l3:i*c.ys.length≤50*50:=Nat.mul_le_mul Mm hy;rw[List.length_append]at sl;refine⟨_,rfl,a,_,0,_,rfl,rfl, .of C3.ca,YL (j:=0),_,rfl,x1,_,_,_,rfl,rfl, .of C3.fi,yh,_,rfl,a,_,1,_,rfl,rfl, .of C3.ca,YL (j:=1),_,rfl,x2,_,_,_,rfl,rfl, .of C3.se,DK,_,rfl,a,_,2,_,rfl,rfl, .of C3.ca,YL (j:=2),m,_,0,_,rfl,rfl, .of C3.nu,YL (j:=0),_,rfl,a,_,3,_,rfl,rfl, .of C3.ca,YL (j:=3),x,y,c.same,l,us,c.fs,rfl,C3.ne,C3.tr,?_⟩;rw[←ep];refine⟨_,rfl,_,rfl,?_⟩;cases e:c.pw (aR (i,j))with
    |none=>
     refine bf (fun hh=>ZE hh (by simp[bC])) (fun _=>?_);refine f_ ?_;refine⟨⟨_,_,rfl⟩,s1,xs,jg,?_⟩;have:mM c sh (aR (i,j))=none:=by unfold mM;split;rfl;exact e
     rw[lR,this,List.append_nil];exact S1
    |some w=>
     refine bf (fun _=>?_) (fun hh=>ZE (by simp[bC]) hh);refine⟨_,rfl,_,rfl,aF V9,fun p hp=>?_⟩;have s2:=s1.trans (ax.upd (o:= .tup [.int (0+(i:Int)), .int (0+(j:Int))]) hp);have xk:=ax.upd (o:= .tup [.int (0+(i:Int)), .int (0+(j:Int))]) hp _ _ jg;have S2:=S1.cC (c7.same (ax.upd (o:= .tup [.int (0+(i:Int)), .int (0+(j:Int))]) hp));refine⟨_,rfl,p,s0,(0+(i:Int),0+(j:Int)),ws,sh,rfl,rfl,ae, .of (s2 _ _ hs),P1.same s2,_,rfl,?_⟩;generalize upd H' p (.tup [.int (0+(i:Int)), .int (0+(j:Int))])=H2 at s2 xk S2;rw[ez];refine bf (fun h1=>?_) (fun h1=>?_)
     ·have h1:aR (i,j)∉sh:=by simpa using h1
      refine⟨_,rfl, .inl ⟨rfl,_, .of xk⟩,_,rfl,_,rfl,_,rfl,aF V9,fun t ht=>⟨b,xs,_,rfl,rfl,ax.upd ht _ _ xk,a9 Mm,⟨_,_,rfl⟩,(s2.trans (ZF ht)).eI hb,_,ae,?_⟩⟩;have e2:mM c sh (aR (i,j))=some w:=by unfold mM;rw[Sn h1];exact e
      rw[lR,e2,←List.append_assoc];have S3:DI (upd H2 t (.tup [.int (0+(i:Int)), .int (0+(j:Int)), .int w])) (xs++[.ref t]) ((kf c sh i++lR c sh i j)++[(aR (i,j),w)]):=(S2.cC (c7.same (ZF ht))).snoc (by rw[←ez];exact ae);exact S3.cC (c7.lst (ax.upd ht _ _ xk))
     ·have h1:aR (i,j)∈sh:=by simpa using h1
      refine⟨⟨_,_,rfl⟩,s2,xs,xk,?_⟩;have:mM c sh (aR (i,j))=none:=by unfold mM;rw[U6 h1]
      rw[lR,this,List.append_nil];exact S2
   ·rintro σ H2 ⟨⟨u2,u3,rfl⟩,s2,Ga,xk,S2⟩;rw[ly,Int.toNat_natCast]at S2;exact⟨⟨_,_,_,rfl⟩,s2,Ga,xk,S2⟩
  ·rintro σ H2 ⟨⟨u1,u2,u3,rfl⟩,s2,Ga,xk,S2⟩;rw[lx,Int.toNat_natCast]at S2;exact⟨_,rfl,q _ b _ s2 hb xk S2⟩
variable(gD:bK P w K mg base true 3 "_law_finding" ["_law_found"] (tX ay))
variable(ig:bK P w K mg base true 2 "_law_is_way" ["_law_case_here","_law_way"] tE)
variable(iW:bK P w K mg base true 2 "_law_worth" ["_law_case_here","_law_way"] qt)
variable(iX:bK P w K mg base true 2 "_law_spots" ["_law_case_here","_law_shut"] tW)
theorem cB:aM ["_law_case_here","_law_told","_law_held","_law_one","_law_pair_here","_law_i","_law_j","_law_gain"] ["_law_case_here","_law_told"] (ar hU):=⟨rfl,rfl,rfl,by decide+kernel,rfl,by decide+kernel,by decide+kernel⟩
include T Fc gD ig iW iX in
theorem uf{f:Addr}{fd:FuncData}(F:jw K "_law_anchor" "_law_anchor" hU f fd):a7 P w K mg base (cW P w) true 4 f fd ["_law_case_here","_law_told"] (qI ay):=by
 refine F.gM cB ZQ (fun bS A outer s H vs Q E hr h hX=>?_)
 ·obtain⟨a,t,c,f,g,m,l,us,ws,es,rfl,_⟩:=h;rfl
 ·obtain⟨b,t,c,x1,x2,m,l,us,vs,es,rfl,C3,ok,ht,FL,TD,q⟩:=h;have hu:=hr.units;have hu:(A.deeper (Ψ "_law_anchor" (ar hU) f bS)).units+1<cLine:=by lia
  have Wo:=ok.x;have Wq:=ok.y;have PD:=FL.1;refine⟨_,(YM (Z0 (2) cB.nd j_) (YM (Α hX.own (Β K ZC) (Z1 (3) cB.nd) (YM (Ξ (@PW.pt _ _ _ (Κ (@cL _ _ _ _ (Γ (Z5 gD aO (Z2 (pv 3))))) (Κ (@cL _ _ _ _ (Γ (Z5 ig aO (Z_ Xd (Z2 (Ν K (pv 3))))))) (@pw_or1 _ _ _ _ (Zk mY (Ν K (pv 3)) (Υ ai) (aV _)))))) aQ) (YM (Ξ (Zk vy (Z5 iW aO (Z_ Xd (Z2 (Ν K (pv 3))))) (Ν K (pv 3)) (aV _)) aQ) (YM (Α hX.own (Β K (Ν K (pv 3))) (Z1 (4) cB.nd) (YM (Ξ (Χ (@qj _ _ _ _ _ hu (pv 4) (pv 2))) aQ) (WX (@kz _ _ _ _ _ _ _ _ _ hu (pv 2) (pv 4) dU Zv)))) (WX (Α hX.own (Β K (Ν K (pv 3))) (Z1 (4) cB.nd) (WX (Ξ (Zk (m9 K hu) (pv 4) (Ν K (pv 3)) (by with_unfolding_all rfl)) aQ)))))))) (YM (Α hX.own (Β K (Z5 iX aO (Z_ Xd (Z2 (@bR _ _ _ _ af))))) (η K (3) (by exact rfl) (Zz (Z1 (5) cB.nd) (Zz (Z1 (6) cB.nd) (Zz (Z1 (7) cB.nd) fJ)))) (WX (Ξ (@PW.pt _ _ _ (@pw_and _ _ _ _ _ _ _ (Zk Bg (pv 7) (Υ ai) (aV _)) (@pw_and1 _ _ _ _ (Χ (@vG _ _ _ _ _ hu (@eF _ _ _ _ _ (Z_ (pv 5) (Z2 (pv 6)))) (pv 2)))))) aQ))) (WX (ZS dU))))),?_⟩;refine⟨fun σ H4=>∃d,σ=[some (.ref b),some (.ref t),some (.ref d),none,none,none,none,none]∧ax H H4∧H d=none∧H4 d=some (.dT []),fun d hd=>⟨d,rfl,ZF hd,hd,ae⟩,?_⟩;rintro σ H4 ⟨D,rfl,s4,MJ,hD⟩;refine⟨fun σ H5=>(∃u1 u2,σ=[some (.ref b),some (.ref t),some (.ref D),u1,u2,none,none,none])∧ax H H5∧∃kvs,H5 D=some (.dT kvs)∧m7 kvs (lS es es.length),?_,?_⟩
  ·refine⟨_,rfl,t,rfl,⟨_, .of (s4 _ _ ht)⟩,?_⟩;refine bU (xs:=vs) (fun k σ H5=>(∃u1 u2,σ=[some (.ref b),some (.ref t),some (.ref D),u1,u2,none,none,none])∧ax H H5∧∃kvs,H5 D=some (.dT kvs)∧kvs.length≤(lS es k).length∧m7 kvs (lS es k)) ⟨⟨_,_,rfl⟩,s4,[],hD,Nat.zero_le _,fun p=>by simp[sO,lS]⟩ ?_ ?_ ?_
   ·rintro k σ H5 _ ⟨_,s5,_⟩;exact .of (s5 _ _ ht)
   ·rintro k v σ H5 hv ⟨⟨u1,u2,rfl⟩,s5,kvs,Gx,OQ,MZ⟩;have hk:k<es.length:=by rw[←PD];exact(Z' hv).1
    have ek:es[k]?=some es[k]:=by simp[hk]
    generalize es[k]=d at ek;obtain⟨y,dy,wy,iF,pr,lr,iz,e1,F3⟩:=FL.2 k d ek;rw[hv]at e1;cases e1;have lu:=TD.lu d (ZO ek);have FF:∀{H'},ax H H'→vW (fun _=>True) H' ay y d dy wy iF pr lr iz:=fun{H'} s'=>F3.keep (fun b o _ e=>s' b o e) (c7.same s') fun _ h=>h
    have iw:=FX lu.way;have nd:=qG lu.qz;have pl:=TD.LY ok (k+1);rw[y_ ek,List.length_append]at pl;have wl:d.way.length≤2500:=by
     have h6:=len_sub d.way d.pairs (lu.way.up.imp fun{a b} h e=>by
      rw[e]at h;have:=h.1
      lia) lu.sub
     lia
    refine⟨fun σ H6=>σ=[some (.ref b),some (.ref t),some (.ref D),some (.ref y),u2,none,none,none]∧ax H5 H6,?_,?_⟩
    ·have F:=FF s5;refine⟨_,rfl,y,_,d,dy,wy,iF,pr,lr,iz,rfl,F,by rw[lu.row,HV],lu.way.ne,fun H6 s6=>⟨_,rfl,?_⟩⟩;refine f_ ?_;have F:=FF (s5.trans s6);refine⟨_,rfl,_,rfl,y,ay,dy,_,_,rfl,F.ob,Fc.cl,Fc.way,qC d.worth wy iF pr,b,wy,c,x1,x2,m,l,us,lr,d.way,rfl,C3.keep (s5.trans s6),F.hw,F.pw,by lia,fun H7 s7=>⟨_,rfl,?_⟩⟩;rw[iw];refine f_ ?_;have Uv:=s6.trans s7;have F:=FF (s5.trans Uv);have C7:=C3.keep (s5.trans Uv);have l6:=C7.ca;refine⟨_,rfl,y,ay,dy,_,_,rfl,F.ob,Fc.cl,Fc.worth,jc d.worth wy iF pr,_,rfl,b,_,2,_,rfl,rfl, .of l6,YL (j:=2),m,_,3,_,rfl,rfl, .of C7.nu,YL (j:=3),_,_,rfl,rfl,_,rfl,?_⟩;have:=lu.least;exact bf (fun hh=>ZE hh (by simp;lia)) (fun _=>⟨rfl,Uv⟩)
    rintro σ H6 ⟨rfl,s6⟩;have s7:=s5.trans s6;have MV:=s6 _ _ Gx;have F:=FF s7;refine⟨fun σ H7=>σ=[some (.ref b),some (.ref t),some (.ref D),some (.ref y),u2,none,none,none]∧H7=H6,?_,?_⟩
    ·refine⟨_,rfl,_,rfl,y,ay,dy,_,_,rfl,F.ob,Fc.cl,Fc.way,qC d.worth wy iF pr,b,wy,c,x1,x2,m,l,us,lr,d.way,rfl,C3.keep s7,ok.num,F.hw,F.pw,by lia,iw,_,rfl,y,ay,dy,_,_,rfl,F.ob,Fc.cl,Fc.worth,jc d.worth wy iF pr,rfl,_,rfl,?_⟩;rw[(HU iw).2,lu.worth];exact bf (fun hh=>absurd hh V9) (fun _=>⟨rfl,rfl⟩)
    rintro σ H7 ⟨rfl,rfl⟩;refine⟨fun σ H8=>(∃u3,σ=[some (.ref b),some (.ref t),some (.ref D),some (.ref y),u3,none,none,none])∧ax H H8∧∃kvs,H8 D=some (.dT kvs)∧kvs.length≤(lS es (k+1)).length∧m7 kvs (lS es (k+1)),?_,?_⟩
    ·refine⟨_,rfl,y,ay,dy,_,_,rfl,F.ob,Fc.cl,Fc.pairs,ip d.worth wy iF pr,pr,rfl,⟨_, .of F.hp⟩,?_⟩;refine bU (xs:=iz) (fun i σ H8=>(∃u3,σ=[some (.ref b),some (.ref t),some (.ref D),some (.ref y),u3,none,none,none])∧ax H H8∧∃kvs,H8 D=some (.dT kvs)∧kvs.length≤(lS es k).length+i∧m7 kvs (lS es k++d.pairs.take i)) ⟨⟨_,rfl⟩,s7,kvs,MV,by lia,by simpa using MZ⟩ ?_ ?_ ?_
     ·rintro i σ H8 _ ⟨_,s8,_⟩;exact .of (FF s8).hp
     ·rintro i v σ H8 hv ⟨⟨u,rfl⟩,s8,Iy,M0,PF,Md⟩;have hi:i<d.pairs.length:=by rw[←F3.pp.1];exact(Z' hv).1
      have ei:d.pairs[i]?=some d.pairs[i]:=by simp[hi]
      generalize d.pairs[i]=g at ei;obtain⟨tt,g1,g2⟩:=F3.pp.2 i g ei;rw[hv]at g1;cases g1;have hn:g∉lS es k++d.pairs.take i:=fun z=>(List.mem_append.mp z).elim (TD.HX ek (ZO ei)) (HY nd ei)
      refine⟨fun σ H9=>σ=[some (.ref b),some (.ref t),some (.ref D),some (.ref y),some (.ref tt),none,none,none]∧H9=H8,?_,?_⟩
      ·refine⟨_,rfl,_,rfl,D,_,rfl, .t (k:=bb g) M0 (s8 _ _ g2),_,rfl,?_⟩;rw[Md];exact bf (fun hh=>ZE (by simpa using hh) hn) (fun _=>⟨rfl,rfl⟩)
      rintro σ H9 ⟨rfl,rfl⟩;refine⟨_,rfl,_,rfl,D,_,rfl, .t (k:=bb g) M0 (s8 _ _ g2) (a9 Mm),⟨_,rfl⟩,s8.eI MJ,_,ae,Nat.le_trans (eZ _ _ _) (by lia),?_⟩;have:=FZ Md g (.bl true);rw[List.append_assoc]at this;rw[List.take_succ,ei];exact this
     ·rintro σ H8 ⟨Uw,s8,Iy,M0,PF,Md⟩;rw[F3.pp.1]at PF;rw[F3.pp.1,List.take_length]at Md;rw[y_ ek];exact⟨Uw,s8,Iy,M0,by rw[List.length_append];exact PF,Md⟩
    rintro σ H8 ⟨⟨u4,rfl⟩,s8,Iy,M0,PF,Md⟩;have F:=FF s8;refine⟨_,rfl,y,ay,dy,_,_,rfl,F.ob,Fc.cl,Fc.way,qC d.worth wy iF pr,wy,rfl,⟨_, .of F.hw⟩,?_⟩;refine bU (xs:=lr) (fun i σ H9=>(∃u3,σ=[some (.ref b),some (.ref t),some (.ref D),some (.ref y),u3,none,none,none])∧H9=H8) ⟨⟨_,rfl⟩,rfl⟩ ?_ ?_ ?_
    ·rintro i σ H9 _ ⟨_,rfl⟩;exact .of F.hw
    ·rintro i v σ H9 hv ⟨⟨u,rfl⟩,rfl⟩;have hi:i<d.way.length:=by rw[←F.pw.1];exact(Z' hv).1
     have ei:d.way[i]?=some d.way[i]:=by simp[hi]
     generalize d.way[i]=g at ei;obtain⟨tt,g1,g2⟩:=F.pw.2 i g ei;rw[hv]at g1;cases g1;refine⟨_,rfl,_,rfl,y,ay,dy,_,_,rfl,F.ob,Fc.cl,Fc.pairs,ip d.worth wy iF pr,tt,pr,g,iz,d.pairs,rfl,rfl,g2, .of F.hp,F.pp,_,rfl,?_⟩;have:=lu.sub g (ZO ei);exact bf (fun hh=>ZE hh (by simp[this])) (fun _=>⟨⟨_,rfl⟩,rfl⟩)
    ·rintro σ H9 ⟨⟨u,rfl⟩,rfl⟩;exact⟨⟨_,_,rfl⟩,s8,Iy,M0,PF,Md⟩
   ·rintro σ H5 ⟨Uw,s5,kvs,Gx,_,MZ⟩;rw[PD]at MZ;exact⟨Uw,s5,kvs,Gx,MZ⟩
  rintro σ H5 ⟨⟨u1,u2,rfl⟩,s5,kvs,Gx,MZ⟩;refine⟨fun σ H4=>ax H H4,?_,fun σ H4 s4=>q _ s4⟩;refine⟨_,rfl,aF V9,fun e he=>?_⟩;have s6:=s5.trans (ax.upd (o:= .lst []) he);refine⟨b,e,c,x1,x2,m,l,us,[],[],rfl,C3.keep s6,ae, .nil,by lia,by lia,fun H7 r ws s7 rG h7 S7=>⟨r,rfl,⟨_, .of h7⟩,?_⟩⟩;have Wr:=s6.trans s7;have MV:=s7 _ _ (ax.upd (o:= .lst []) he _ _ Gx);refine bU (xs:=ws) (fun k σ H8=>(∃v1 v2 v3,σ=[some (.ref b),some (.ref t),some (.ref D),u1,u2,v1,v2,v3])∧ax H7 H8) ⟨⟨_,_,_,rfl⟩, .refl _⟩ ?_ ?_ (fun _ _ ⟨_,s8⟩=>Wr.trans s8)
  ·rintro k σ H8 _ ⟨_,s8⟩;exact .of (s8 _ _ h7)
  ·rintro k v σ H8 hv ⟨⟨v1,v2,v3,rfl⟩,s8⟩;have hk:k<(kf c [] c.xs.length).length:=by rw[←S7.1];exact(Z' hv).1
   have ek:(kf c [] c.xs.length)[k]?=some (kf c [] c.xs.length)[k]:=by simp[hk]
   generalize (kf c [] c.xs.length)[k]=x at ek;obtain⟨tt,k1,k2⟩:=S7.2 k x ek;rw[hv]at k1;cases k1;have Y9:=vZ (ZO ek);have C8:=C3.keep (Wr.trans s8);have l6:=C8.ca;refine⟨tt,_,rfl, .of (s8 _ _ k2),rfl,_,_,rfl,_,_,rfl,_,_,rfl,rfl,?_⟩;refine⟨_,rfl,_,rfl,b,_,2,_,rfl,rfl, .of l6,YL (j:=2),m,_,3,_,rfl,rfl, .of C8.nu,YL (j:=3),_,_,rfl,rfl,_,rfl,?_⟩;refine bf (fun h1=>?_) (fun _=>?_)
   ·have h1:c.least≤x.2:=by simpa using h1
    refine⟨_,rfl,_,rfl,aF V9,fun p hp=>⟨_,rfl,D,_,rfl, .t (k:=bb x.1) (ax.upd hp _ _ (s8 _ _ MV)) ae,_,rfl,?_⟩⟩;rw[MZ];obtain⟨d,hd,hq⟩:=TD.pair Y9 h1;refine bf (fun hh=>ZE hh (by simp;exact LX hd hq)) (fun _=>?_);exact⟨⟨_,_,_,rfl⟩,s8.trans (ZF hp)⟩
   ·refine f_ ?_;exact⟨⟨_,_,_,rfl⟩,s8⟩
variable(mL:bK P w K mg base true 8 "compare" ["first","second","terms"] (xl aU ay kg))
variable(iY:bK P w K mg base true 7 "_law_terms" ["_law_case_here"] (qp aU))
theorem u7:aM ["_law_case_here"] ["_law_case_here"] (ar kQ):=⟨rfl,rfl,rfl,by decide+kernel,rfl,by decide+kernel,by decide+kernel⟩
include T mL iY in
theorem u9{f:Addr}{fd:FuncData}(F:jw K "_law_asked" "_law_asked" kQ f fd):a7 P w K mg base (cW P w) true 9 f fd ["_law_case_here"] (xp ay):=by
 refine F.gM u7 ZQ (fun bS A outer s H vs Q E hr h hX=>?_)
 ·obtain⟨a,c,f,g,m,l,us,most,rfl,_⟩:=h;rfl
 ·obtain⟨a,c,x1,x2,m,l,us,most,rfl,C1,ok,hm,sT,q⟩:=h;refine⟨_,(WX (ZS (Z5 mL aO (Z_ (ν (fF K) (by exact rfl) T.jW PyProof.Rows.Boot.«list» (Z2 (Z6 Xd ai))) (Z_ (ν (fF K) (by exact rfl) T.jW PyProof.Rows.Boot.«list» (Z2 (Z6 Xd ai))) (Z2 (Z5 iY aO (Z2 Xd)))))))),?_⟩;have l6:=C1.ca;refine⟨_,rfl,a,_,0,_,rfl,rfl, .of l6,YL (j:=0),x1,_,rfl, .inl (.of C1.fi),fun y1 Gs=>?_⟩;have s1:=ax.upd (o:= .lst (c.xs.map V.str)) Gs;have Ux:=s1 _ _ l6;refine⟨_,rfl,a,_,1,_,rfl,rfl, .of Ux,YL (j:=1),x2,_,rfl, .inl (.of (s1 _ _ C1.se)),fun y2 DK=>?_⟩;have s2:=s1.trans (ax.upd (o:= .lst (c.ys.map V.str)) DK);refine⟨_,rfl,a,c,x1,x2,m,l,us,most,rfl,C1.keep s2,ok,fun H3 t s3 TF=>?_⟩;have MU:=s2.trans s3;have Wo:=ok.x;have Wq:=ok.y;refine⟨y1,y2,t,c,rfl,s3 _ _ (ax.upd DK _ _ ae),s3 _ _ ae,TF,by lia,by lia,fun es TD H4 r vs s4 hr h4 FL=>?_,fun ds f2 RC hl H4 s4=>?_⟩
  ·exact q es TD H4 r vs (MU.trans s4) (MU.free hr) h4 (FL.keep (fun _ _ _ h=>h) (fun _ _ h=>h) fun b hb=>trivial)
  ·have:=sT _ _ RC
   lia
theorem jK:aM ["_law_told","_law_due","_law_k"] ["_law_told","_law_due"] (ar fB):=⟨rfl,rfl,rfl,by decide+kernel,rfl,by decide+kernel,by decide+kernel⟩
include T Fc bF dC in
theorem pA{f:Addr}{fd:FuncData}(F:jw K "_law_same_list" "_law_same_list" fB f fd):a7 P w K mg base (cW P w) true 3 f fd ["_law_told","_law_due"] (tY ay):=by
 refine F.gM jK ZQ (fun bS A outer s H vs Q E hr h hX=>?_)
 ·obtain⟨t,d,us,ws,es,P,rfl,_⟩:=h;rfl
 ·obtain⟨t,d0,us,ws,es,P,rfl,ht,FL,hd,D,hl,q⟩:=h;have hu:=hr.units;have hu:(A.deeper (Ψ "_law_same_list" (ar fB) f bS)).units+1<cLine:=by lia
  have e1:=FL.1;have e2:=D.1;rw[List.length_map]at e2;refine⟨_,(Xc (Ξ (@PW.pt _ _ _ (Κ (@cL _ _ _ _ (Γ (γ (f6 K) T.cY PyProof.Rows.Boot.«isinstance» (ο Xd)))) (@pw_or1 _ _ _ _ (Zk vy (Z7 (aL K) T.cX (Z2 Xd)) (Z7 (aL K) T.cX (Z2 ZC)) (aV _))))) aQ) (Xc (τ hX.own (Z1 (2) jK.nd) (Xc (Ξ (@PW.pt _ _ _ (Κ (@cL _ _ _ _ (Γ (Z5 bF aO (Z2 (Ν K (Z6 Xd (pv 2))))))) (@pw_or1 _ _ _ _ (Zk vy (Ν K (Z6 Xd (pv 2))) (Ζ (bT K) (Z6 ZC (pv 2)) ai) (aV _))))) aQ) (WX (Ξ (@PW.pt _ _ _ (Κ (@cL _ _ _ _ (Γ (Z5 dC aO (Z2 (Ν K (Z6 Xd (pv 2))))))) (@pw_or1 _ _ _ _ (Zk (AO K hu) (Ν K (Z6 Xd (pv 2))) (Ζ (bT K) (Z6 ZC (pv 2)) ai) (aV _))))) aQ)))) (WX (ZS dU)))),?_⟩;refine⟨_,rfl,_,_,_,true,_,rfl,rfl, .lst ht,rfl,_,rfl,?_⟩;refine f_ ?_;refine⟨_,rfl,t,_,rfl, .inl (.of ht),_,rfl,d0,_,rfl, .inl (.of hd),rfl,_,rfl,?_⟩;refine bf (fun hh=>ZE hh (by simp;lia)) (fun _=>?_);refine⟨_,rfl,d0,_,rfl, .inl (.of hd),_,rfl,by lia,by lia,?_⟩;refine ft (fun i σ H'=>(∃u,σ=[some (.ref t),some (.ref d0),u])∧H'=H) ⟨⟨_,rfl⟩,rfl⟩ ?_ ?_
  ·rintro i σ H' hi ⟨⟨u,rfl⟩,rfl⟩;have hi:i<es.length:=by have:i<((ws.length:Nat):Int).toNat:=hi;lia
   have ei:es[i]?=some es[i]:=by simp[hi]
   generalize es[i]=d at ei;obtain⟨y,dy,wy,iF,pr,lr,iz,k1,F⟩:=FL.2 i d ei;obtain⟨tt,ll,Y_,k2,k3,k4,P4⟩:=D.2 i (lz d) (by rw[List.getElem?_map,ei];rfl);have v5:∀{vs:List V}{v},vs[i]?=some v→rP vs (0+(i:Int))=some v:=fun{vs v} h=>by rw[Int.zero_add];exact au h
   refine⟨_,rfl,_,rfl,t,_,_,_,rfl,rfl, .of ht,v5 k1,y,ay,dy,_,_,rfl,F.ob,Fc.cl,Fc.worth,jc d.worth wy iF pr,_,rfl,_,rfl,?_⟩;refine f_ ?_;refine⟨_,rfl,_,rfl,t,_,_,_,rfl,rfl, .of ht,v5 k1,y,ay,dy,_,_,rfl,F.ob,Fc.cl,Fc.worth,jc d.worth wy iF pr,_,rfl,_,rfl,d0,_,_,_,rfl,rfl, .of hd,v5 k2,tt,_,0,_,rfl,rfl, .of k3,YL (j:=0),rfl,_,rfl,?_⟩;refine bf (fun hh=>ZE hh (by simp[lz])) (fun _=>?_);refine⟨_,rfl,_,rfl,t,_,_,_,rfl,rfl, .of ht,v5 k1,y,ay,dy,_,_,rfl,F.ob,Fc.cl,Fc.pairs,ip d.worth wy iF pr,pr,iz,d.pairs,rfl,F.hp,F.pp,_,rfl,?_⟩;refine f_ ?_;refine⟨_,rfl,_,rfl,t,_,_,_,rfl,rfl, .of ht,v5 k1,y,ay,dy,_,_,rfl,F.ob,Fc.cl,Fc.pairs,ip d.worth wy iF pr,_,rfl,_,rfl,d0,_,_,_,rfl,rfl, .of hd,v5 k2,tt,_,1,_,rfl,rfl, .of k3,YL (j:=1),pr,ll,iz,Y_,d.pairs,rfl,rfl, .of F.hp, .of k4,F.pp,P4,_,rfl,?_⟩;refine f_ ?_;exact⟨⟨_,rfl⟩,rfl⟩
  ·rintro σ H' ⟨⟨u,rfl⟩,rfl⟩;exact q
variable(jL:bK P w K mg base true 3 "_law_case" ["_law_script","_law_most"] (t8 K))
variable(jM:bK P w K mg base true 2 "_law_calm" ["_law_case_here"] xm)
variable(gE:bK P w K mg base true 9 "_law_asked" ["_law_case_here"] (xp ay))
variable(fI:bK P w K mg base true 4 "_law_anchor" ["_law_case_here","_law_told"] (qI ay))
variable(fC:bK P w K mg base true 3 "_law_same_list" ["_law_told","_law_due"] (tY ay))
theorem gX:aM ["_law_script","_law_case_here","_law_many","_law_bank_here","_law_fresh","_law_first","_law_second","_law_near_here","_law_other","_law_told","_law_found","_law_due"] ["_law_script"] (ar la):=⟨rfl,rfl,rfl,by decide+kernel,rfl,by decide+kernel,by decide+kernel⟩
include T Fc aW dW jL jM gE fI fC in
theorem Me{f:Addr}{fd:FuncData}(F:jw K "law" "law" la f fd):a7 P w K mg base (cW P w) true 10 f fd ["_law_script"] (Bx K):=by
 refine F.gM gX ZQ (fun bS A outer s H vs Q E hr h hX=>?_)
 ·obtain⟨a,ns,rfl,_⟩:=h;rfl
 ·obtain⟨a,ns,rfl,hS,hlen,q⟩:=h;have hu:=hr.units;have hu:(A.deeper (Ψ "law" (ar la) f bS)).units+1<cLine:=by lia
  have JE:=Nat.lt_of_succ_lt hu;refine⟨_,(YM (Z0 (1) gX.nd (Z5 jM aO (Z2 (Z9 jL aO)))) (YM (Z0 (2) gX.nd (XI bA ai (XI bJ (Z9 aW aO) ai))) (YM (χ (3) gX.nd (Or.inr rfl)) (YM (χ (4) gX.nd (Or.inr rfl)) (YM (@aG _ _ (4) _ _ _ _ gX.nd Zv (Or.inr rfl) (XI KD (@ka _ _ _ _ _ _ _ _ _ _ (sZ K) (pv 4) (@kC _ _ _ (XI bJ (Z9 aW aO) (pv 2))) oE) (@ka _ _ _ _ _ _ _ _ _ _ (sZ K) (pv 4) oE (@kC _ _ _ (XI bJ (Z9 aW aO) (pv 2))))) (ZA) (by exact .inl rfl)) (YM (@iK _ _ _ _ _ _ _ _ _ _ _ _ _ _ _ (5) _ _ (by exact rfl) gX.nd Zv (by exact rfl) (show bh ["_law_script","_law_case_here","_law_many","_law_bank_here","_law_fresh","_law_first","_law_second","_law_near_here","_law_other","_law_told","_law_found","_law_due"] (ar la) _ ["_law_word"] [4,3] ["_law_fresh","_law_bank_here"]from⟨rfl,by decide+kernel,by decide+kernel,by decide+kernel,rfl,rfl,by decide+kernel,by decide+kernel,by decide+kernel⟩) (Β K (Z6 ZC ai)) (fun _ _ _ _ _=>(Z1 (0) (show(["_law_word","_law_fresh","_law_bank_here"]:List Str).Nodup by decide+kernel))) (fun _ _ _ _ _=>fL) (fun _ _ _ _ _=>(Z6 ZC (Λ K PySem.F.slot_list_index PySem.F.type_list_index oN (pv 2) (Z2 Xd)))) (ZA) (by intro _;rfl)) (YM (@iK _ _ _ _ _ _ _ _ _ _ _ _ _ _ _ (6) _ _ (by exact rfl) gX.nd Zv (by exact rfl) (show bh ["_law_script","_law_case_here","_law_many","_law_bank_here","_law_fresh","_law_first","_law_second","_law_near_here","_law_other","_law_told","_law_found","_law_due"] (ar la) _ ["_law_word"] [4,3] ["_law_fresh","_law_bank_here"]from⟨rfl,by decide+kernel,by decide+kernel,by decide+kernel,rfl,rfl,by decide+kernel,by decide+kernel,by decide+kernel⟩) (Β K (Z6 ZC ai)) (fun _ _ _ _ _=>(Z1 (0) (show(["_law_word","_law_fresh","_law_bank_here"]:List Str).Nodup by decide+kernel))) (fun _ _ _ _ _=>fL) (fun _ _ _ _ _=>(Z6 ZC (Λ K PySem.F.slot_list_index PySem.F.type_list_index oN (pv 2) (Z2 Xd)))) (ZA) (by intro _;rfl)) (YM (@iK _ _ _ _ _ _ _ _ _ _ _ _ _ _ _ (7) _ _ (by exact rfl) gX.nd Zv (by exact rfl) (show bh ["_law_script","_law_case_here","_law_many","_law_bank_here","_law_fresh","_law_first","_law_second","_law_near_here","_law_other","_law_told","_law_found","_law_due"] (ar la) _ ["_law_x","_law_y","_law_price"] [4,3] ["_law_fresh","_law_bank_here"]from⟨rfl,by decide+kernel,by decide+kernel,by decide+kernel,rfl,rfl,by decide+kernel,by decide+kernel,by decide+kernel⟩) (Β K (Z6 ZC ai)) (fun _ _ _ _ _=>(η K (3) (by exact rfl) (Zz (Z1 (0) (show(["_law_x","_law_y","_law_price","_law_fresh","_law_bank_here"]:List Str).Nodup by decide+kernel)) (Zz (Z1 (1) (show(["_law_x","_law_y","_law_price","_law_fresh","_law_bank_here"]:List Str).Nodup by decide+kernel)) (Zz (Z1 (2) (show(["_law_x","_law_y","_law_price","_law_fresh","_law_bank_here"]:List Str).Nodup by decide+kernel)) fJ))))) (fun _ _ _ _ _=>fL) (fun _ _ _ _ _=>(@eF _ _ _ _ _ (Z_ (Z6 (pv 3) (Λ K PySem.F.slot_list_index PySem.F.type_list_index oN (pv 4) (Z2 Xd))) (μ (Z6 (pv 3) (Λ K PySem.F.slot_list_index PySem.F.type_list_index oN (pv 4) (Z2 ZC))))))) (ZA) (by intro _;rfl)) (YM (Z0 (8) gX.nd (@bR _ _ _ _ (Z_ (pv 5) (Z_ (pv 6) (Z_ (Z6 ZC ai) (Z2 (pv 7))))))) (YM (Z0 (9) gX.nd (Z5 gE aO (Z2 ZC))) (YM (Z0 (10) gX.nd (Z5 gE aO (Z2 (pv 8)))) (YM (Ξ (@PW.pt _ _ _ (Κ (@cL _ _ _ _ (Γ (γ (f6 K) T.cY PyProof.Rows.Boot.«isinstance» (ο (pv 9))))) (@pw_or1 _ _ _ _ (@cL _ _ _ _ (Γ (γ (f6 K) T.cY PyProof.Rows.Boot.«isinstance» (ο (pv 10)))))))) aQ) (YM (Ξ (@PW.pt _ _ _ (Κ (@cL _ _ _ _ (Γ (Z5 fI aO (Z_ ZC (Z2 (pv 9)))))) (@pw_or1 _ _ _ _ (@cL _ _ _ _ (Γ (Z5 fI aO (Z_ (pv 8) (Z2 (pv 10))))))))) aQ) (YM (@iK _ _ _ _ _ _ _ _ _ _ _ _ _ _ _ (11) _ _ (by exact rfl) gX.nd Zv (by exact rfl) (show bh ["_law_script","_law_case_here","_law_many","_law_bank_here","_law_fresh","_law_first","_law_second","_law_near_here","_law_other","_law_told","_law_found","_law_due"] (ar la) _ ["_law_one"] [] []from⟨rfl,by decide+kernel,by decide+kernel,by decide+kernel,rfl,rfl,by decide+kernel,by decide+kernel,by decide+kernel⟩) (Β K (pv 9)) (fun _ _ _ _ _=>(Z1 (0) (show(["_law_one"]:List Str).Nodup by decide+kernel))) (fun _ _ _ _ _=>fL) (fun _ _ _ _ _=>(@eF _ _ _ _ _ (Z_ (ZW K) (Z2 (ν (fF K) (by exact rfl) T.jW PyProof.Rows.Boot.«list» (Z2 (ZW K))))))) (ZA) (by intro _;rfl)) (WX (ZS (Z5 fC aO (Z_ (pv 10) (Z2 (pv 11)))))))))))))))))))),?_⟩;refine⟨fun σ H1=>∃(b:Addr)(c:Case)(zs:List Str)(x1 x2 m l:Addr)(us:List V),σ=[some (.ref a),some (.ref b),none,none,none,none,none,none,none,none,none,none]∧ax H H1∧jB H1 b c x1 x2 m l us∧dM 12 c∧zs=zb (cell ns 0) (cell ns 1) (1+cell ns 2%5).toNat∧F2 c zs∧O2 c,?_,?_⟩
  ·refine⟨_,rfl,a,ns,12,rfl,hS,by lia,by lia,by lia,fun H1 b c x1 x2 m l us s1 hb C1 ok zs PH aac aag aaR W=>?_⟩;have hx:=ok.x;have hy:=ok.y;have Uy:dM 60 c:=⟨by lia,by lia,ok.good,ok.same,ok.out,ok.into,ok.least⟩
   have Uz:dM 12 c:=⟨by lia,by lia,ok.good,ok.same,ok.out,ok.into,ok.least⟩
   have Ws:=B6 Uz Mm;exact⟨b,c,x1,x2,m,l,us,rfl,C1,Uy,fun H2 b2 m2 s2 xk uJ C2=>⟨b2,gi c,zs,x1,x2,m2,l,us,rfl,s1.trans s2,C2,Ws,PH,⟨W.x,W.y,W.f⟩,F1 Ws⟩⟩
  rintro σ H1 ⟨b,c,zs,x1,x2,m,l,us,rfl,s1,C1,ok,PH,W,sT⟩;have Wo:=ok.x;have Wq:=ok.y;have Gy:=s1.seq hS;have z5:0≤cell ns 2%5∧cell ns 2%5<5:=⟨Int.emod_nonneg _ (by lia),Int.emod_lt_of_pos _ (by lia)⟩
  refine⟨fun σ H2=>σ=[some (.ref a),some (.ref b),some (.int (1+cell ns 2%5)),none,none,none,none,none,none,none,none,none]∧H2=H1,⟨_,rfl,a,ns,2,rfl,Gy,U7,_,_,rfl,rfl,(show(0:Int)<5 by decide),_,_,rfl,rfl,rfl,rfl⟩,?_⟩;rintro σ H1 ⟨rfl,rfl⟩;generalize Y':1+cell ns 2%5=many at PH;have m1:1≤many∧many≤5:=by lia
  clear Y' z5;refine⟨fun σ H2=>∃bn,σ=[some (.ref a),some (.ref b),some (.int many),some (.ref bn),none,none,none,none,none,none,none,none]∧ax H1 H2∧H2 bn=some (.lst (zs.map V.str))∧zs.length=many.toNat,?_,?_⟩
  ·exact⟨_,rfl,a,ns,0,rfl,Gy,U7,_,rfl,a,ns,1,rfl,Gy,U7,_,rfl,_,_,many,rfl,by lia,by lia,fun H' bn aaZ s2 hb jg hz hw hn he=>⟨bn,rfl,s2,by rw[PH,←he];exact jg,by rw[PH,←he];exact hz⟩⟩
  rintro σ H2 ⟨bn,rfl,s2,UA,ZY⟩;have Mc:=s2.seq Gy;refine⟨fun σ H3=>∃(fr:Addr)(rs:List Str),σ=[some (.ref a),some (.ref b),some (.int many),some (.ref bn),some (.ref fr),none,none,none,none,none,none,none]∧ax H2 H3∧H3 fr=some (.lst (rs.map V.str))∧rs.length=zs.length∧(∀z∈rs,ql z=true)∧rs.Nodup,?_,?_⟩
  ·exact⟨_,rfl,a,ns,12,rfl,Mc,U7,_,rfl,a,ns,13,rfl,Mc,U7,_,rfl,_,_,many,rfl,by lia,by lia,fun H' fr rs s3 hb jg hz hw hn he=>⟨fr,rs,rfl,s3,jg,by lia,hw,hn⟩⟩
  rintro σ H3 ⟨fr,rs,rfl,s3,Mf,BP,JJ,M4⟩;have Pz:=s3.seq Mc;refine⟨fun σ H4=>∃(fr:Addr)(rs:List Str),σ=[some (.ref a),some (.ref b),some (.int many),some (.ref bn),some (.ref fr),none,none,none,none,none,none,none]∧ax H3 H4∧H4 fr=some (.lst (rs.map V.str))∧rs.length=zs.length∧(∀z∈rs,ql z=true)∧rs.Nodup,?_,?_⟩
  ·have zk:0≤cell ns 14%many∧cell ns 14%many<many:=⟨Int.emod_nonneg _ (by lia),Int.emod_lt_of_pos _ (by lia)⟩
   obtain⟨k,hk⟩:=Int.eq_ofNat_of_zero_le zk.1;have OQ:k≤rs.length:=by lia
   obtain⟨c1,c2⟩:=H_ OQ;have rp:=F9 k rs;refine⟨_,rfl,_,rfl,a,ns,14,rfl,Pz,U7,_,rfl,_,_,rfl,rfl,(show(0:Int)<many by lia),_,rfl,fr,_,rfl, .of Mf,fun p1 CS=>?_⟩;rw[hk,c1];have t1:=ax.upd (o:= .lst ((rs.drop k).map V.str)) CS;refine⟨_,rfl,_,rfl,a,ns,14,rfl,t1.seq Pz,U7,_,rfl,_,_,rfl,rfl,(show(0:Int)<many by lia),_,rfl,fr,_,rfl, .of (t1 _ _ Mf),fun p2 zZ=>?_⟩;rw[hk,c2];have t2:=ax.upd (o:= .lst ((rs.take k).map V.str)) zZ;refine⟨p1,p2,_,_,rfl,rfl,t2 _ _ ae,ae,aF (by simp only[List.length_map,List.length_drop,List.length_take];lia),fun p3 QD=>⟨p3,L3 k rs,rfl,(t1.trans t2).trans (ZF QD),?_,?_,fun z hz=>JJ z (rp.mem_iff.mp hz),rp.nodup_iff.mpr M4⟩⟩
   ·rw[ae];unfold L3;rw[List.map_append]
   ·rw[rp.length_eq];exact BP
  clear Mf BP JJ M4 rs fr;rintro σ H4 ⟨fr,rs,rfl,s4,PK,BP,JJ,M4⟩;have Wt:=s3.trans s4;have C4:=(C1.keep s2).keep Wt;have Mg:=Wt _ _ UA;have UB:=C4.ca;have flb:(zs.map V.str).all iG=true:=by simp[List.all_map,iG]
  have look:∀{w:Str},w∈zs→∃j:Nat,(∃hj:j<(zs.map V.str).length,nF (zs.map V.str)[j] (.str w)=true)∧(∀m (hm:m<(zs.map V.str).length),m<j→nF (zs.map V.str)[m] (.str w)=false)∧(rs.map V.str)[j]?=some (.str (rF zs rs w)):=fun{w} hw=>by
   obtain⟨j,h1,h2,h3⟩:=xq BP hw;obtain⟨hj,e1⟩:=Z' h1;refine⟨j,⟨by rw[List.length_map];exact hj,?_⟩,fun m hm Za=>?_,?_⟩
   ·rw[List.getElem_map,e1];simp[nF]
   ·rw[List.getElem_map];have yE:m<zs.length:=by rw[List.length_map]at hm;exact hm
    have:zs[m]≠w:=fun e=>h3 m Za (by rw[Θ yE,e])
    simp[nF,this]
   ·rw[List.getElem?_map,h2];rfl
  refine⟨fun σ H5=>∃ff,σ=[some (.ref a),some (.ref b),some (.int many),some (.ref bn),some (.ref fr),some (.ref ff),none,none,none,none,none,none]∧ax H4 H5∧H5 ff=some (.lst ((c.xs.map (rF zs rs)).map V.str)),?_,?_⟩
  ·refine⟨_,rfl,b,_,0,_,rfl,rfl, .of UB,YL (j:=0),x1,rfl,⟨_, .of C4.fi⟩,fun D hD=>?_⟩;refine fv (xs:=c.xs.map V.str) (fun i ys bj H'=>(∃u,bj=[u,some (.ref fr),some (.ref bn)])∧H' D=some (.lst ys)∧ax H4 H'∧ys=((c.xs.take i).map (rF zs rs)).map V.str) ⟨⟨_,rfl⟩,ae,ZF hD,rfl⟩ ?_ ?_ ?_
   ·rintro i ys bj H' _ ⟨_,_,s5,_⟩;exact .of (s5 _ _ C4.fi)
   ·rintro i v ys bj H' hv ⟨⟨u,rfl⟩,B_,s5,rfl⟩;obtain⟨w,hw,rfl⟩:=jz hv;obtain⟨j,k1,k2,k3⟩:=look (W.x w (ZO hw));have et:c.xs.take (i+1)=c.xs.take i++[w]:=by rw[List.take_succ,hw];rfl
    refine lK ?_;refine⟨_,rfl,_,rfl, .inl ⟨rfl,_, .of (s5 _ _ Mg)⟩,_,rfl,bn,_,_,j,rfl,rfl,s5 _ _ Mg,rfl,flb,k1,k2,fr,_,_,_,rfl,rfl, .of (s5 _ _ PK),au k3,B_,a9 (by rw[List.length_map,List.length_map,List.length_take];lia),⟨_,rfl⟩,ae,s5.eI hD,?_⟩;rw[et,List.map_append,List.map_append];rfl
   ·rintro ys bj H' ⟨_,B_,s5,rfl⟩;rw[List.length_map,List.take_length]at B_;exact⟨D,rfl,s5,B_⟩
  rintro σ H5 ⟨ff,rfl,s5,Zb⟩;have C5:=C4.keep s5;have UC:=C5.ca;have Mh:=s5 _ _ Mg;have PL:=s5 _ _ PK;refine⟨fun σ H6=>∃fs,σ=[some (.ref a),some (.ref b),some (.int many),some (.ref bn),some (.ref fr),some (.ref ff),some (.ref fs),none,none,none,none,none]∧ax H5 H6∧H6 fs=some (.lst ((c.ys.map (rF zs rs)).map V.str)),?_,?_⟩
  ·refine⟨_,rfl,b,_,1,_,rfl,rfl, .of UC,YL (j:=1),x2,rfl,⟨_, .of C5.se⟩,fun D hD=>?_⟩;refine fv (xs:=c.ys.map V.str) (fun i ys bj H'=>(∃u,bj=[u,some (.ref fr),some (.ref bn)])∧H' D=some (.lst ys)∧ax H5 H'∧ys=((c.ys.take i).map (rF zs rs)).map V.str) ⟨⟨_,rfl⟩,ae,ZF hD,rfl⟩ ?_ ?_ ?_
   ·rintro i ys bj H' _ ⟨_,_,s6,_⟩;exact .of (s6 _ _ C5.se)
   ·rintro i v ys bj H' hv ⟨⟨u,rfl⟩,B_,s6,rfl⟩;obtain⟨w,hw,rfl⟩:=jz hv;obtain⟨j,k1,k2,k3⟩:=look (W.y w (ZO hw));have et:c.ys.take (i+1)=c.ys.take i++[w]:=by rw[List.take_succ,hw];rfl
    refine lK ?_;refine⟨_,rfl,_,rfl, .inl ⟨rfl,_, .of (s6 _ _ Mh)⟩,_,rfl,bn,_,_,j,rfl,rfl,s6 _ _ Mh,rfl,flb,k1,k2,fr,_,_,_,rfl,rfl, .of (s6 _ _ PL),au k3,B_,a9 (by rw[List.length_map,List.length_map,List.length_take];lia),⟨_,rfl⟩,ae,s6.eI hD,?_⟩;rw[et,List.map_append,List.map_append];rfl
   ·rintro ys bj H' ⟨_,B_,s6,rfl⟩;rw[List.length_map,List.take_length]at B_;exact⟨D,rfl,s6,B_⟩
  rintro σ H6 ⟨fs,rfl,s6,Zc⟩;have C6:=C5.keep s6;have UD:=C6.ca;have IA:=s6 _ _ Mh;have PM:=s6 _ _ PL;have ZZ:=(tm ok.good).1;refine⟨fun σ H7=>∃(L:Addr)(ls:List V),σ=[some (.ref a),some (.ref b),some (.int many),some (.ref bn),some (.ref fr),some (.ref ff),some (.ref fs),some (.ref L),none,none,none,none]∧ax H6 H7∧H7 L=some (.lst ls)∧cZ H7 ls (c.fs.map (zc zs rs)),?_,?_⟩
  ·refine⟨_,rfl,b,_,3,_,rfl,rfl, .of UD,YL (j:=3),l,rfl,⟨_, .of C6.ne⟩,fun D hD=>?_⟩;refine fv (xs:=us) (fun i ys bj H'=>(∃u1 u2 u3,bj=[u1,u2,u3,some (.ref fr),some (.ref bn)])∧cZ H' ys ((c.fs.take i).map (zc zs rs))∧H' D=some (.lst ys)∧ax H6 H') ⟨⟨_,_,_,rfl⟩, .nil,ae,ZF hD⟩ ?_ ?_ ?_
   ·rintro i ys bj H' _ ⟨_,_,_,s7⟩;exact .of (s7 _ _ C6.ne)
   ·rintro i v ys bj H' hv ⟨⟨u1,u2,u3,rfl⟩,Ty,B_,s7⟩;have hi:i<c.fs.length:=by rw[←C6.tr.1];exact(Z' hv).1
    have hf:c.fs[i]?=some c.fs[i]:=by simp[hi]
    generalize c.fs[i]=f0 at hf;obtain⟨t0,h1,h2⟩:=C6.tr.2 i f0 hf;rw[hv]at h1;cases h1;have PB:=W.f f0 (ZO hf);obtain⟨x,y,p⟩:=f0;obtain⟨j,k1,k2,k3⟩:=look PB.1;obtain⟨j',Zd,Ze,Zf⟩:=look PB.2;refine⟨t0,_,rfl, .of (s7 _ _ h2),rfl,_,_,rfl,_,_,rfl,_,_,rfl,rfl,?_⟩;refine sr ?_;refine⟨_,rfl,_,rfl, .inl ⟨rfl,_, .of (s7 _ _ IA)⟩,_,rfl,bn,_,_,j,rfl,rfl,s7 _ _ IA,rfl,flb,k1,k2,fr,_,_,_,rfl,rfl, .of (s7 _ _ PM),au k3,_,rfl,_,rfl, .inl ⟨rfl,_, .of (s7 _ _ IA)⟩,_,rfl,bn,_,_,j',rfl,rfl,s7 _ _ IA,rfl,flb,Zd,Ze,fr,_,_,_,rfl,rfl, .of (s7 _ _ PM),au Zf,_,rfl,aF V9,fun p1 CS=>⟨ax.upd CS _ _ B_,a9 ?_,⟨_,_,_,rfl⟩,?_,ae,(s7.trans (ZF CS)).eI hD⟩⟩
    ·have:=Ty.1;rw[List.length_map,List.length_take]at this
     lia
    ·have e:(c.fs.take (i+1)).map (zc zs rs)=(c.fs.take i).map (zc zs rs)++[zc zs rs (x,y,p)]:=by rw[List.take_succ,hf,List.map_append];rfl
     rw[e];have T3:cZ (upd H' p1 (.tup (Hg (zc zs rs (x,y,p))))) (ys++[.ref p1]) ((c.fs.take i).map (zc zs rs)++[zc zs rs (x,y,p)]):=(Ty.same (ZF CS)).snoc ae;exact T3.cC (c7.lst (ax.upd CS _ _ B_))
   ·rintro ys bj H' ⟨_,Ty,B_,s7⟩;have el:c.fs.take us.length=c.fs:=by rw[C6.tr.1,List.take_length]
    rw[el]at Ty;exact⟨D,ys,rfl,s7,B_,Ty⟩
  rintro σ H7 ⟨L,ls,rfl,s7,hL,T7⟩;have C7:=C6.keep s7;have UE:=C7.ca;refine⟨fun σ H8=>∃g,σ=[some (.ref a),some (.ref b),some (.int many),some (.ref bn),some (.ref fr),some (.ref ff),some (.ref fs),some (.ref L),some (.ref g),none,none,none]∧ax H7 H8∧jB H8 g (DJ zs rs c) ff fs m L ls,?_,?_⟩
  ·refine⟨_,rfl,_,rfl,_,rfl,b,_,2,_,rfl,rfl, .of UE,YL (j:=2),_,rfl,aF V9,fun g hg=>?_⟩;have sb:=ax.upd (o:= .lst [.ref ff, .ref fs, .ref m, .ref L]) hg;exact⟨g,rfl,sb,ae,sb _ _ ((s6.trans s7) _ _ Zb),sb _ _ (s7 _ _ Zc),sb _ _ C7.nu,sb _ _ hL,T7.same sb⟩
  rintro σ H8 ⟨g,rfl,s8,G8⟩;have C8:=C7.keep s8;have Rj:=O4 BP M4 W JJ ok;have UG:=L1 BP M4 W sT;have eo:=F8 BP M4 W;have UH:dM 50 c:=⟨Nat.le_trans ok.x Mm,Nat.le_trans ok.y Mm,ok.good,ok.same,ok.out,ok.into,ok.least⟩
  have PN:dM 50 (DJ zs rs c):=⟨Nat.le_trans Rj.x Mm,Nat.le_trans Rj.y Mm,Rj.good,ok.same,ok.out,ok.into,ok.least⟩
  refine⟨fun σ H9=>∃(t:Addr)(vs:List V)(es:List Fd),σ=[some (.ref a),some (.ref b),some (.int many),some (.ref bn),some (.ref fr),some (.ref ff),some (.ref fs),some (.ref L),some (.ref g),some (.ref t),none,none]∧ax H8 H9∧H9 t=some (.lst vs)∧b_ (fun _=>True) H9 ay vs es∧bN (jm c []) c.out c.into c.least es,?_,?_⟩
  ·exact⟨_,rfl,b,c,x1,x2,m,l,us,12,rfl,C8,ok,by lia,sT,fun es TD H9 t vs s9 _ h9 FL=>⟨t,vs,es,rfl,s9,h9,FL,TD⟩⟩
  rintro σ H9 ⟨t,vs,es,rfl,s9,ht,FL,TD⟩;refine⟨fun σ Gi=>∃(r:Addr)(ws:List V)(yk:List Fd),σ=[some (.ref a),some (.ref b),some (.int many),some (.ref bn),some (.ref fr),some (.ref ff),some (.ref fs),some (.ref L),some (.ref g),some (.ref t),some (.ref r),none]∧ax H9 Gi∧Gi r=some (.lst ws)∧b_ (fun _=>True) Gi ay ws yk∧bN (jm (DJ zs rs c) []) (DJ zs rs c).out (DJ zs rs c).into (DJ zs rs c).least yk,?_,?_⟩
  ·exact⟨_,rfl,g,DJ zs rs c,ff,fs,m,L,ls,12,rfl,G8.keep s9,Rj,by lia,UG,fun es TD Gi t vs IZ _ Zg FL=>⟨t,vs,es,rfl,IZ,Zg,FL,TD⟩⟩
  rintro σ Gi ⟨r,ws,yk,rfl,IZ,hr,FR,TR⟩;have Mi:=IZ _ _ ht;have PQ:=s9.trans IZ;have PR:=FL.keep (P':=fun _=>True) (fun b o _ e=>IZ b o e) (c7.same IZ) fun _ h=>h
  refine⟨fun σ I0=>σ=[some (.ref a),some (.ref b),some (.int many),some (.ref bn),some (.ref fr),some (.ref ff),some (.ref fs),some (.ref L),some (.ref g),some (.ref t),some (.ref r),none]∧I0=Gi,?_,?_⟩
  ·refine⟨_,rfl,_,_,_,true,_,rfl,rfl, .lst Mi,rfl,_,rfl,?_⟩;refine f_ ?_;refine⟨_,rfl,_,_,_,true,_,rfl,rfl, .lst hr,rfl,_,rfl,?_⟩;exact f_ ⟨rfl,rfl⟩
  rintro σ Gi ⟨rfl,rfl⟩;refine⟨fun σ I0=>σ=[some (.ref a),some (.ref b),some (.int many),some (.ref bn),some (.ref fr),some (.ref ff),some (.ref fs),some (.ref L),some (.ref g),some (.ref t),some (.ref r),none]∧ax Gi I0,?_,?_⟩
  ·refine⟨_,rfl,_,rfl,b,t,c,x1,x2,m,l,us,vs,es,rfl,C8.keep PQ,UH,Mi,PR,TD,fun I0 Cw=>⟨_,rfl,?_⟩⟩;refine f_ ?_;refine⟨_,rfl,_,rfl,g,r,DJ zs rs c,ff,fs,m,L,ls,ws,yk,rfl,G8.keep (PQ.trans Cw),PN,Cw _ _ hr,FR.keep (fun b o _ e=>Cw b o e) (c7.same Cw) (fun _ h=>h),TR,fun DP uF=>⟨_,rfl,?_⟩⟩;exact f_ ⟨rfl,Cw.trans uF⟩
  rintro σ I0 ⟨rfl,Cw⟩;have PU:=Cw _ _ Mi;have UI:=Cw _ _ hr;have PV:=PR.keep (P':=fun _=>True) (fun b o _ e=>Cw b o e) (c7.same Cw) fun _ h=>h
  have UJ:=FR.keep (P':=fun _=>True) (fun b o _ e=>Cw b o e) (c7.same Cw) fun _ h=>h
  have PD:=PV.1;have Wu:=TD.sT;have aaG:=TR.sT;refine⟨fun σ DP=>∃D ys,σ=[some (.ref a),some (.ref b),some (.int many),some (.ref bn),some (.ref fr),some (.ref ff),some (.ref fs),some (.ref L),some (.ref g),some (.ref t),some (.ref r),some (.ref D)]∧ax I0 DP∧DP D=some (.lst ys)∧L0 DP ys (es.map lz),?_,?_⟩
  ·refine⟨_,rfl,t,rfl,⟨_, .of PU⟩,fun D hD=>?_⟩;refine fv (xs:=vs) (fun i ys bj DP=>(∃u,bj=[u])∧DP D=some (.lst ys)∧ax I0 DP∧lT DP D ys ((es.take i).map lz)) ⟨⟨_,rfl⟩,ae,ZF hD, .nil⟩ ?_ ?_ ?_
   ·rintro i ys bj DP _ ⟨_,_,uF,_⟩;exact .of (uF _ _ PU)
   ·rintro i v ys bj DP hv ⟨⟨u,rfl⟩,Gd,uF,DN⟩;have hi:i<es.length:=by rw[←PD];exact(Z' hv).1
    have ei:es[i]?=some es[i]:=by simp[hi]
    generalize es[i]=d at ei;obtain⟨y,dy,wy,iF,pr,lr,iz,e1,F6⟩:=PV.2 i d ei;rw[hv]at e1;cases e1;have F:=F6.keep (P':=fun _=>True) (fun b o _ e=>uF b o e) (c7.same uF) fun _ h=>h
    have et:es.take (i+1)=es.take i++[d]:=by rw[List.take_succ,ei];rfl
    have dl:=DN.1;rw[List.length_map,List.length_take]at dl;refine lK ?_;refine⟨_,rfl,y,ay,dy,_,_,rfl,F.ob,Fc.cl,Fc.worth,jc d.worth wy iF pr,_,rfl,y,ay,dy,_,_,rfl,F.ob,Fc.cl,Fc.pairs,ip d.worth wy iF pr,pr,_,rfl, .inl (.of F.hp),fun z hz=>⟨aF V9,fun p hp=>?_⟩⟩;have sz:=ax.upd (o:= .lst iz) hz;have sp:=ax.upd (o:= .tup [.int d.worth, .ref z]) hp;have nz:z≠D:=fun e=>by rw[e,Gd]at hz;cases hz
    have sA:=sz.trans sp;refine⟨sA _ _ Gd,a9 Mm,⟨_,rfl⟩,ae,(uF.trans sA).eI hD,?_⟩;rw[et,List.map_append];have D2:=(DN.keep (fun b o _ e=>sA b o e) (c7.same sA)).snoc (x:=lz d) (t:=p) (l:=z) (us:=iz) ae (sp _ _ ae) (F.pp.same sA) nz;exact D2.keep (fun b o hb e=>by rw[ak hb];exact e) (c7.lst (sA _ _ Gd))
   ·rintro ys bj DP ⟨_,Gd,uF,DN⟩;rw[PD,List.take_length]at DN;exact⟨D,ys,rfl,uF,Gd,DN.Tq⟩
  rintro σ DP ⟨D,ys,rfl,uF,hD,DU⟩;rw[eo]at TR;rw[TD.uniq TR]at DU;exact⟨_,rfl,_,rfl,r,D,ws,ys,yk,_,rfl,uF _ _ UI,UJ.keep (P':=fun _=>True) (fun b o _ e=>uF b o e) (c7.same uF) (fun _ h=>h),hD,DU,by lia,q _⟩
end
theorem all_mk{l:W.OpenLaw}{w:World}{K:W.Frag}{h:Heap}{mg:Str→Option Value}{fa:Addr}(X:K.In h)(G:h.Ns mainGlobals mg)(Zh:mg "law"=some (.ref fa))
  {pB jN:Option Addr} {pC:Array (Option Value)} {pD jO jP jQ gF jR:Value}
  {gG:Addr} {pE:Value} {pF:Option Addr} {pG:Nat} {pH:Array (Option Value)} {pI:Tok}
  {aU:Addr} (xA:O1 K "Terms" aU)
  {aA:Addr} (ug:O1 K "Trails" aA)
  {ay:Addr} (qM:O1 K "Finding" ay)
  {aI:Addr} (uh:O1 K "Groups" aI)
  {az:Addr} (l7:O1 K "Gathering" az)
  {jS:Addr} (pJ:W.nsIn K mainGlobals "is_small_letter"=some (some (.ref jS)))
  (pK:fQ K "is_small_letter" "is_small_letter" gj jS)
  {v7:Addr} (Dq:W.nsIn K mainGlobals "is_word"=some (some (.ref v7)))
  (Dr:fQ K "is_word" "is_word" mG v7)
  {pL:Addr} (xB:W.nsIn K mainGlobals "is_between"=some (some (.ref pL)))
  (xC:fQ K "is_between" "is_between" kJ pL)
  {l8:Addr} (ui:W.nsIn K mainGlobals "check_number"=some (some (.ref l8)))
  (uj:fQ K "check_number" "check_number" je l8)
  {jT:Addr} (pM:W.nsIn K mainGlobals "check_near_form"=some (some (.ref jT)))
  (pN:fQ K "check_near_form" "check_near_form" gk jT)
  {nh:Addr} (u_:W.nsIn K mainGlobals "near_prices"=some (some (.ref nh)))
  (va:fQ K "near_prices" "near_prices" g_ nh)
  {fD:Addr} (qN:W.findIn K (.ref aU) "__init__"=some (some (.ref fD))) (qO:W.isFn K (.ref fD)=true)
  (qQ:K.lookup fD=some ⟨pD,pB, .func (W.fnOf "__init__" "Terms.__init__" (fK bu) (eL bu) (ar bu) (.ref gG) jO jP jQ jN gF jR),pC⟩)
  (qR:W.codeIn K gF "Terms.__init__"=true) (qS:W.keepIn K (.ref fD)=true)
  (pO:K.lookup gG=some ⟨pE,pF, .seq #[.int 50 pI, .none] pG,pH⟩)
  {fX:Addr} (n8:W.findIn K (.ref aU) "pair_worth"=some (some (.ref fX))) (n9:W.isFn K (.ref fX)=true)
  (n_:fQ K "pair_worth" "Terms.pair_worth" dZ fX)
  {uk:Addr} (A0:W.nsIn K mainGlobals "greatest"=some (some (.ref uk)))
  (A3:fQ K "greatest" "greatest" kK uk)
  {Ge:Addr} (Mj:W.nsIn K mainGlobals "less"=some (some (.ref Ge)))
  (Ml:fQ K "less" "less" AQ Ge)
  {jk:Addr} (oa:W.nsIn K mainGlobals "begun_or_gone_on"=some (some (.ref jk)))
  (oe:fQ K "begun_or_gone_on" "begun_or_gone_on" fU jk)
  {dQ:Addr} (kq:W.findIn K (.ref aA) "brought_behind"=some (some (.ref dQ))) (kr:W.isFn K (.ref dQ)=true)
  (ku:fQ K "brought_behind" "Trails.brought_behind" dO dQ)
  {gH:Addr} (pQ:W.findIn K (.ref aA) "__init__"=some (some (.ref gH))) (pR:W.isFn K (.ref gH)=true)
  (pS:fQ K "__init__" "Trails.__init__" eO gH)
  {gY:Addr} (qT:W.findIn K (.ref aA) "goes_on"=some (some (.ref gY))) (qU:W.isFn K (.ref gY)=true)
  (qV:fQ K "goes_on" "Trails.goes_on" gW gY)
  {eh:Addr} (kW:W.findIn K (.ref aA) "is_brought_by"=some (some (.ref eh))) (kX:W.isFn K (.ref eh)=true)
  (kY:fQ K "is_brought_by" "Trails.is_brought_by" d6 eh)
  {cS:Addr} (jq:W.findIn K (.ref aA) "crossings_before"=some (some (.ref cS))) (jr:W.isFn K (.ref cS)=true)
  (jt:fQ K "crossings_before" "Trails.crossings_before" cR cS)
  {fo:Addr} (l_:W.findIn K (.ref aA) "pair_before"=some (some (.ref fo))) (l':W.isFn K (.ref fo)=true)
  (ma:fQ K "pair_before" "Trails.pair_before" e8 fo)
  {iD:Addr} (sf:W.findIn K (.ref aA) "way_to"=some (some (.ref iD))) (sg:W.isFn K (.ref iD)=true)
  (si:fQ K "way_to" "Trails.way_to" iC iD)
  {fY:Addr} (oh:W.findIn K (.ref ay) "__init__"=some (some (.ref fY))) (oj:W.isFn K (.ref fY)=true)
  (om:fQ K "__init__" "Finding.__init__" fV fY)
  {um:Addr} (A4:W.nsIn K mainGlobals "order_of"=some (some (.ref um)))
  (A5:fQ K "order_of" "order_of" nQ um)
  {me:Addr} (uo:W.nsIn K mainGlobals "make_finding"=some (some (.ref me)))
  (uq:fQ K "make_finding" "make_finding" e_ me)
  {gI:Addr} (pT:W.findIn K (.ref aI) "__init__"=some (some (.ref gI))) (pU:W.isFn K (.ref gI)=true)
  (pV:fQ K "__init__" "Groups.__init__" gm gI)
  {kZ:Addr} (xD:W.findIn K (.ref aI) "has"=some (some (.ref kZ))) (xE:W.isFn K (.ref kZ)=true)
  (xF:fQ K "has" "Groups.has" iO kZ)
  {gZ:Addr} (qW:W.findIn K (.ref aI) "take_in"=some (some (.ref gZ))) (qX:W.isFn K (.ref gZ)=true)
  (qY:fQ K "take_in" "Groups.take_in" fz gZ)
  {jl:Addr} (ur:W.findIn K (.ref aI) "unite"=some (some (.ref jl))) (uv:W.isFn K (.ref jl)=true)
  (uw:fQ K "unite" "Groups.unite" fe jl)
  {j6:Addr} (vc:W.findIn K (.ref aI) "told"=some (some (.ref j6))) (ve:W.isFn K (.ref j6)=true)
  (vf:fQ K "told" "Groups.told" hG j6)
  {fq:Addr} (mf:W.findIn K (.ref az) "__init__"=some (some (.ref fq))) (mh:W.isFn K (.ref fq)=true)
  (mi:fQ K "__init__" "Gathering.__init__" fg fq)
  {g7:Addr} (qZ:W.findIn K (.ref az) "mark"=some (some (.ref g7))) (q_:W.isFn K (.ref g7)=true)
  (rf:fQ K "mark" "Gathering.mark" fA g7)
  {fE:Addr} (mT:W.findIn K (.ref az) "go_over"=some (some (.ref fE))) (mU:W.isFn K (.ref fE)=true)
  (mV:fQ K "go_over" "Gathering.go_over" dI fE)
  {gJ:Addr} (pW:W.findIn K (.ref az) "visit"=some (some (.ref gJ))) (pX:W.isFn K (.ref gJ)=true)
  (pY:fQ K "visit" "Gathering.visit" eP gJ)
  {ni:Addr} (vh:W.nsIn K mainGlobals "best_groups"=some (some (.ref ni)))
  (vi:fQ K "best_groups" "best_groups" j1 ni)
  {v8:Addr} (Ds:W.nsIn K mainGlobals "shut_by"=some (some (.ref v8)))
  (Dt:fQ K "shut_by" "shut_by" mH v8)
  {nj:Addr} (vj:W.nsIn K mainGlobals "open_worths"=some (some (.ref nj)))
  (vk:fQ K "open_worths" "open_worths" fG nj)
  {pZ:Addr} (xG:W.nsIn K mainGlobals "make_round"=some (some (.ref pZ)))
  (xH:fQ K "make_round" "make_round" gq pZ)
  {p4:Addr} (xI:W.nsIn K mainGlobals "shut_pairs"=some (some (.ref p4)))
  (xJ:fQ K "shut_pairs" "shut_pairs" kL p4)
  {v9:Addr} (Du:W.nsIn K mainGlobals "compare"=some (some (.ref v9)))
  (Dv:fQ K "compare" "compare" qJ v9)
  {v_:Addr} (Dx:W.nsIn K mainGlobals "_law_at"=some (some (.ref v_)))
  (Dy:fQ K "_law_at" "_law_at" qK v_)
  {p5:Addr} (xK:W.nsIn K mainGlobals "_law_whole"=some (some (.ref p5)))
  (xM:fQ K "_law_whole" "_law_whole" kM p5)
  {rH:Addr} (zi:W.nsIn K mainGlobals "_law_bank"=some (some (.ref rH)))
  (zj:fQ K "_law_bank" "_law_bank" lU rH)
  {rJ:Addr} (zl:W.nsIn K mainGlobals "_law_book"=some (some (.ref rJ)))
  (zm:fQ K "_law_book" "_law_book" lV rJ)
  {p6:Addr} (xN:W.nsIn K mainGlobals "_law_quote"=some (some (.ref p6)))
  (xO:fQ K "_law_quote" "_law_quote" iP p6)
  {mj:Addr} (ux:W.nsIn K mainGlobals "_law_numbers"=some (some (.ref mj)))
  (uy:fQ K "_law_numbers" "_law_numbers" gu mj)
  {rK:Addr} (zo:W.nsIn K mainGlobals "_law_near"=some (some (.ref rK)))
  (zp:fQ K "_law_near" "_law_near" lW rK)
  {rL:Addr} (zq:W.nsIn K mainGlobals "_law_case"=some (some (.ref rL)))
  (zr:fQ K "_law_case" "_law_case" lX rL)
  {rM:Addr} (zt:W.nsIn K mainGlobals "_law_pair"=some (some (.ref rM)))
  (zu:fQ K "_law_pair" "_law_pair" lY rM)
  {p7:Addr} (xP:W.nsIn K mainGlobals "_law_worth"=some (some (.ref p7)))
  (xQ:fQ K "_law_worth" "_law_worth" kN p7)
  {p8:Addr} (xR:W.nsIn K mainGlobals "_law_pairs"=some (some (.ref p8)))
  (xS:fQ K "_law_pairs" "_law_pairs" kO p8)
  {p9:Addr} (xT:W.nsIn K mainGlobals "_law_terms"=some (some (.ref p9)))
  (xU:fQ K "_law_terms" "_law_terms" kP p9)
  {rN:Addr} (zv:W.nsIn K mainGlobals "_law_calm"=some (some (.ref rN)))
  (zw:fQ K "_law_calm" "_law_calm" lZ rN)
  {mn:Addr} (uz:W.nsIn K mainGlobals "_law_finding"=some (some (.ref mn)))
  (uA:fQ K "_law_finding" "_law_finding" gv mn)
  {nk:Addr} (vm:W.nsIn K mainGlobals "_law_is_way"=some (some (.ref nk)))
  (vn:fQ K "_law_is_way" "_law_is_way" hJ nk)
  {p_:Addr} (xV:W.nsIn K mainGlobals "_law_spots"=some (some (.ref p_)))
  (xW:fQ K "_law_spots" "_law_spots" iQ p_)
  {nq:Addr} (vo:W.nsIn K mainGlobals "_law_anchor"=some (some (.ref nq)))
  (vp:fQ K "_law_anchor" "_law_anchor" hU nq)
  {qb:Addr} (xX:W.nsIn K mainGlobals "_law_asked"=some (some (.ref qb)))
  (xY:fQ K "_law_asked" "_law_asked" kQ qb)
  {kx:Addr} (rg:W.nsIn K mainGlobals "_law_same_list"=some (some (.ref kx)))
  (rh:fQ K "_law_same_list" "_law_same_list" fB kx)
  {JN:Addr} (PX:W.nsIn K mainGlobals "law"=some (some (.ref JN)))
  (PY:fQ K "law" "law" la JN)
  (Tc:EB K aU)
  (Rc:BD K aA)
  (Fc:Js K ay)
  (Gc:OL K aI)
  (Hc:Jw K az)
  (zz:TZ K)
  {zx:Tok} (zy:W.nsIn K mainGlobals "WORD_MOST"=some (some (.int 12 zx)))
  {xZ:Tok} (x_:W.nsIn K mainGlobals "WORTH_MOST"=some (some (.int 999999 xZ)))
  {zA:Tok} (zB:W.nsIn K mainGlobals "NEAR_MOST"=some (some (.int 60 zA)))
  {zC:Tok} (zD:W.nsIn K mainGlobals "PART_MOST"=some (some (.int 100 zC)))
  {sj:Tok} (sk:W.nsIn K mainGlobals "FINDINGS_MOST"=some (some (.int 20 sj)))
  {d7:Addr} (A6:O0 K "BadTerms" d7)
  {cT:Addr} (Dz:O0 K "BadNear" cT)
  {kg:Addr} (DA:O0 K "TooMany" kg)
  (A7:W.nsIn K mainGlobals "reversed"=some none)
  (Gf:W.nsIn K mainGlobals "sorted"=some none)
  :∃fd:FuncData,(∀(s:Shared)(v:Value),BindsTo s fd ⟨[v],[]⟩ [("_law_script",v)])∧∀base:Heap,K.In base→base.Ns mainGlobals mg→a7 l.prog w K mg base (cW l.prog w) true 10 fa fd ["_law_script"] (Bx K):=by
 have e:=Zh.symm.trans (W.mg_of X G PX);cases e;have T:=zz.tb X G;have jF:D5 mg "WORD_MOST" (.int 12):=⟨_,W.mg_of X G zy,_,rfl⟩
 have bO:D5 mg "WORTH_MOST" (.int 999999):=⟨_,W.mg_of X G x_,_,rfl⟩
 have iy:D5 mg "NEAR_MOST" (.int 60):=⟨_,W.mg_of X G zB,_,rfl⟩
 have jG:D5 mg "PART_MOST" (.int 100):=⟨_,W.mg_of X G zD,_,rfl⟩
 have eA:D5 mg "FINDINGS_MOST" (.int 20):=⟨_,W.mg_of X G sk,_,rfl⟩
 have jf:=A6.er X G;have cb:=Dz.er X G;have ko:=DA.er X G;have aah:mg "reversed"=none:=W.mg_none_of X G A7;have ji:mg "sorted"=none:=W.mg_none_of X G Gf;obtain @⟨_,k1,k2,k3,k4,k5,_,k6,_,l9,c9,k9⟩:=PY;refine⟨W.fnOf "law" "law" (fK la) (eL la) (ar la) .none k1 k2 k3 k6 k4 k5,fun s v=> .of_eq rfl,fun base _ _=>?_⟩;have eQ:=pK.df X G pJ (fun _ F=>nU (P:=l.prog) (w:=w) (base:=base) T F) (B7 fun _ _ _ _ _ _ _=>rfl);have kh:=Dr.df X G Dq (fun _ F=>AS (P:=l.prog) (w:=w) (base:=base) T jF eQ F) (B7 fun _ _ _ _ _ _ _=>rfl);have d8:=xC.df X G xB (fun _ F=>uP (P:=l.prog) (w:=w) (base:=base) T F) (AN fun _ _ _ _ _ _ _ _ _=>rfl);have cA:=uj.df X G ui (fun _ F=>rW (P:=l.prog) (w:=w) (base:=base) T d8 jf F) (To fun _ _ _ _ _ _ _ _ _ _=>rfl);have eR:=pN.df X G pM (fun _ F=>nW (P:=l.prog) (w:=w) (base:=base) T d8 bO kh cb F) (AN fun _ _ _ _ _ _ _ _ _=>rfl);have hV:=va.df X G u_ (fun _ F=>t9 (P:=l.prog) (w:=w) (base:=base) T cb iy eR F) (B7 fun _ _ _ _ _ _ _=>rfl);have rj:=Bt (st:=bu) qQ qR qS;have rk:=o_ (P:=l.prog) (w:=w) (base:=base) T bO jG cA hV Tc rj;have A8:Binds K (W.fnOf "__init__" "Terms.__init__" (fK bu) (eL bu) (ar bu) (.ref gG) jO jP jQ jN gF jR) ["self","same","out","into","least","part","near"] []:=fun s us hK hl=>by
  obtain⟨_,_,_,_,_,_,_,rfl⟩:=QF.Sl us (by simpa using hl);exact BindsTo.of_defaults rfl (hK _ _ pO) rfl rfl rfl
 have pz:m3 l.prog w K mg base true 5 "Terms" aU ["self","same","out","into","least","part","near"] [] (sD aU d7 cT):=yF rk ⟨xA.b,qN,qO,xA.c⟩ (W.mg_of X G xA.a) A8 (.nil);have ed:=n_.mt Tc.cl n8 n9 (fun _ F=>mO (P:=l.prog) (w:=w) (base:=base) T Tc F) (AN fun _ _ _ _ _ _ _ _ _=>rfl);have fj:=A3.df X G A0 (fun _ F=>zf (P:=l.prog) (w:=w) (base:=base) T F) (B7 fun _ _ _ _ _ _ _=>rfl);have kR:=Ml.df X G Mj (fun _ F=>Ib (P:=l.prog) (w:=w) (base:=base) T F) (xn fun _ _ _ _ _ _ _ _=>rfl);have d_:=oe.df X G oa (fun _ F=>mQ (P:=l.prog) (w:=w) (base:=base) T F) (xn fun _ _ _ _ _ _ _ _=>rfl);have cD:=ku.mt Rc.cl kq kr (fun _ F=>j4 (P:=l.prog) (w:=w) (base:=base) T fj kR Rc F) (AN fun _ _ _ _ _ _ _ _ _=>rfl);have mK:=pS.nw (W.mg_of X G ug.a) ug.b ug.c pQ pR (fun _ F=>nX (P:=l.prog) (w:=w) (base:=base) T Tc Rc d_ cD F) (AN fun _ _ _ _ _ _ _ _ _=>rfl);have cc:=qV.mt Rc.cl qT qU (fun _ F=>pd (P:=l.prog) (w:=w) (base:=base) T Rc F) (xn fun _ _ _ _ _ _ _ _=>rfl);have bg:=kY.mt Rc.cl kW kX (fun _ F=>kj (P:=l.prog) (w:=w) (base:=base) T Rc F) (AN fun _ _ _ _ _ _ _ _ _=>rfl);have aY:=jt.mt Rc.cl jq jr (fun _ F=>jh (P:=l.prog) (w:=w) (base:=base) T kR Rc F) (xn fun _ _ _ _ _ _ _ _=>rfl);have dw:=ma.mt Rc.cl l_ l' (fun _ F=>lA (P:=l.prog) (w:=w) (base:=base) T Rc bg aY F) (xn fun _ _ _ _ _ _ _ _=>rfl);have fR:=si.mt Rc.cl sf sg (fun _ F=>qL (P:=l.prog) (w:=w) (base:=base) T Rc cc dw F) (xn fun _ _ _ _ _ _ _ _=>rfl);have kT:=om.nw (W.mg_of X G qM.a) qM.b qM.c oh oj (fun _ F=>mS (P:=l.prog) (w:=w) (base:=base) T Fc F) (Vt fun _ _ _ _ _ _ _ _ _ _ _=>rfl);have kU:=A5.df X G A4 (fun _ F=>zh (P:=l.prog) (w:=w) (base:=base) T Fc F) (B7 fun _ _ _ _ _ _ _=>rfl);have gy:=uq.df X G uo (fun _ F=>rZ (P:=l.prog) (w:=w) (base:=base) T Rc fR kT F) (AN fun _ _ _ _ _ _ _ _ _=>rfl);have mI:=pV.nw (W.mg_of X G uh.a) uh.b uh.c pT pU (fun _ F=>nZ (P:=l.prog) (w:=w) (base:=base) T Gc F) (B7 fun _ _ _ _ _ _ _=>rfl);have iR:=xF.mt Gc.cl xD xE (fun _ F=>uR (P:=l.prog) (w:=w) (base:=base) T Gc F) (xn fun _ _ _ _ _ _ _ _=>rfl);have cf:=qY.mt Gc.cl qW qX (fun _ F=>ph (P:=l.prog) (w:=w) (base:=base) T Gc F) (xn fun _ _ _ _ _ _ _ _=>rfl);have cO:=uw.mt Gc.cl ur uv (fun _ F=>r6 (P:=l.prog) (w:=w) (base:=base) T Gc F) (AN fun _ _ _ _ _ _ _ _ _=>rfl);have hZ:=vf.mt Gc.cl vc ve (fun _ F=>ua (P:=l.prog) (w:=w) (base:=base) T Gc ji F) (B7 fun _ _ _ _ _ _ _=>rfl);have iS:=mi.nw (W.mg_of X G l7.a) l7.b l7.c mf mh (fun _ F=>lC (P:=l.prog) (w:=w) (base:=base) T mI Hc F) (AN fun _ _ _ _ _ _ _ _ _=>rfl);have cj:=rf.mt Hc.cl qZ q_ (fun _ F=>px (P:=l.prog) (w:=w) (base:=base) T Hc cO F) (AN fun _ _ _ _ _ _ _ _ _=>rfl);have dJ:=mV.mt Hc.cl mT mU (fun _ F=>l5 (P:=l.prog) (w:=w) (base:=base) T bg aY Hc cO cf cj F) (AN fun _ _ _ _ _ _ _ _ _=>rfl);have eU:=pY.mt Hc.cl pW pX (fun _ F=>n5 (P:=l.prog) (w:=w) (base:=base) T Rc cc Hc cf cj iR dJ F) (AN fun _ _ _ _ _ _ _ _ _=>rfl);have h_:=vi.df X G vh (fun _ F=>ub (P:=l.prog) (w:=w) (base:=base) T Rc Hc iS eU hZ F) (xn fun _ _ _ _ _ _ _ _=>rfl);have mJ:=Dt.df X G Ds (fun _ F=>AW (P:=l.prog) (w:=w) (base:=base) T F) (B7 fun _ _ _ _ _ _ _=>rfl);have ie:=vk.df X G vj (fun _ F=>uc (P:=l.prog) (w:=w) (base:=base) T Tc mJ ed F) (To fun _ _ _ _ _ _ _ _ _ _=>rfl);have gz:=xH.df X G xG (fun _ F=>uS (P:=l.prog) (w:=w) (base:=base) T Tc fj Rc mK h_ gy F) (xn fun _ _ _ _ _ _ _ _=>rfl);have iT:=xJ.df X G xI (fun _ F=>uT (P:=l.prog) (w:=w) (base:=base) T Fc F) (xn fun _ _ _ _ _ _ _ _=>rfl);have mL:=Dv.df X G Du (fun _ F=>AX (P:=l.prog) (w:=w) (base:=base) T ji eA ie gz iT kU ko F) (AN fun _ _ _ _ _ _ _ _ _=>rfl);have aW:=Dy.df X G Dx (fun _ F=>AZ (P:=l.prog) (w:=w) (base:=base) T F) (xn fun _ _ _ _ _ _ _ _=>rfl);have bF:=xM.df X G xK (fun _ F=>uV (P:=l.prog) (w:=w) (base:=base) T F) (B7 fun _ _ _ _ _ _ _=>rfl);have dW:=zj.df X G zi (fun _ F=>xt (P:=l.prog) (w:=w) (base:=base) T F) (AN fun _ _ _ _ _ _ _ _ _=>rfl);have jI:=zm.df X G zl (fun _ F=>xu (P:=l.prog) (w:=w) (base:=base) T aW F) (Vt fun _ _ _ _ _ _ _ _ _ _ _=>rfl);have iU:=xO.df X G xN (fun _ F=>uW (P:=l.prog) (w:=w) (base:=base) T aW F) (XT fun _ _ _ _ _ _ _ _ _ _ _ _=>rfl);have gB:=uy.df X G ux (fun _ F=>r9 (P:=l.prog) (w:=w) (base:=base) T aW F) (xn fun _ _ _ _ _ _ _ _=>rfl);have jJ:=zp.df X G zo (fun _ F=>xv (P:=l.prog) (w:=w) (base:=base) T F) (AN fun _ _ _ _ _ _ _ _ _=>rfl);have jL:=zr.df X G zq (fun _ F=>xw (P:=l.prog) (w:=w) (base:=base) T aW dW jI iU gB jJ F) (xn fun _ _ _ _ _ _ _ _=>rfl);have bI:=zu.df X G zt (fun _ F=>xx (P:=l.prog) (w:=w) (base:=base) T F) (To fun _ _ _ _ _ _ _ _ _ _=>rfl);have iW:=xQ.df X G xP (fun _ F=>uX (P:=l.prog) (w:=w) (base:=base) T bI F) (xn fun _ _ _ _ _ _ _ _=>rfl);have dC:=xS.df X G xR (fun _ F=>uY (P:=l.prog) (w:=w) (base:=base) T bF F) (B7 fun _ _ _ _ _ _ _=>rfl);have iY:=xU.df X G xT (fun _ F=>uZ (P:=l.prog) (w:=w) (base:=base) T pz F) (B7 fun _ _ _ _ _ _ _=>rfl);have jM:=zw.df X G zv (fun _ F=>xy (P:=l.prog) (w:=w) (base:=base) T bI F) (B7 fun _ _ _ _ _ _ _=>rfl);have gD:=uA.df X G uz (fun _ F=>r_ (P:=l.prog) (w:=w) (base:=base) T Fc bF dC F) (B7 fun _ _ _ _ _ _ _=>rfl);have ig:=vn.df X G vm (fun _ F=>ue (P:=l.prog) (w:=w) (base:=base) T bI F) (xn fun _ _ _ _ _ _ _ _=>rfl);have iX:=xW.df X G xV (fun _ F=>u0 (P:=l.prog) (w:=w) (base:=base) T bI F) (xn fun _ _ _ _ _ _ _ _=>rfl);have fI:=vp.df X G vo (fun _ F=>uf (P:=l.prog) (w:=w) (base:=base) T Fc gD ig iW iX F) (xn fun _ _ _ _ _ _ _ _=>rfl);have gE:=xY.df X G xX (fun _ F=>u9 (P:=l.prog) (w:=w) (base:=base) T mL iY F) (B7 fun _ _ _ _ _ _ _=>rfl);have fC:=rh.df X G rg (fun _ F=>pA (P:=l.prog) (w:=w) (base:=base) T Fc bF dC F) (xn fun _ _ _ _ _ _ _ _=>rfl);exact Me T Fc aW dW jL jM gE fI fC (En (st:=la) l9 c9 k9)
theorem walk{l:W.OpenLaw}{q:Program}{loose:List Str}{XP:(Str→Option Value)→Heap→Prop}{YP:World→Heap→Prop}{d:DefRec}{K:Params→W.Frag}(hn:l.most=some 63)(NX:d.params.defaults=[])
  (hY:∀(w:World)(h:Heap),YP w h→(K w.params).In h)
  (F:∀(w:World)(mg:Str→Option Value)(fa:Addr)(h:Heap),(K w.params).In h→h.Ns mainGlobals mg→mg d.name=some (.ref fa)→
   ∃fd:FuncData,(∀(s:Shared)(u:Value),BindsTo s fd ⟨[u],[]⟩ [("_law_script",u)])∧∀base:Heap,(K w.params).In base→base.Ns mainGlobals mg→a7 l.prog w (K w.params) mg base (cW l.prog w) true 10 fa fd ["_law_script"] (Bx (K w.params))):
  W.WalkO q loose XP YP l.row.toRowW d [] (fun f vs=>PySem.call f vs):=
 L2.G6 (n:=63) (k:=10) (x:="_law_script") (CX:=fun w=>cW l.prog w) (sp:=fun w=>Bx (K w.params)) hn (U7) NX ⟨(fun _=>rfl),U7,U7⟩ hY F (fun _ _ a ns hl _ hS=>⟨a,ns,rfl,hS,hl,fun _=>rfl⟩) fun _ _ _ _ _ z=>by obtain⟨_,_,_,_,_,_,_,_,_,_,_,_,_,z⟩:=z;exact z
end Tr
open PySem PySem.W PyProof.Rows
set_option maxRecDepth 100000 in
set_option maxHeartbeats 0 in
theorem PySem.Challenge.cw_quotefind_k27_other_words_holds : PySem.Challenge.rw_quotefind_k27_other_words.Holds := by
 w_on;refine holds_law HD.ws fun said=>?_;k_head
 (case hw=>w_witness2)
 refine Tr.walk (l:=PySem.Challenge.rw_quotefind_k27_other_words) rfl rfl (fun w h Y=>PySem.W.kIn_of Y) ?F
 case F=>
  intro w mg fa h KX G NY
  refine' Tr.all_mk KX G NY ?_ ?_ ?_ ?_ ?_ ?_ ?_ ?_ ?_ ?_ ?_ ?_ ?_ ?_ ?_ ?_ ?_ ?_ ?_ ?_ ?_ ?_ ?_ ?_ ?_ ?_ ?_ ?_ ?_ ?_ ?_ ?_ ?_ ?_ ?_ ?_ ?_ ?_ ?_ ?_ ?_ ?_ ?_ ?_ ?_ ?_ ?_ ?_ ?_ ?_ ?_ ?_ ?_ ?_ ?_ ?_ ?_ ?_ ?_ ?_ ?_ ?_ ?_ ?_ ?_ ?_ ?_ ?_ ?_ ?_ ?_ ?_ ?_ ?_ ?_ ?_ ?_ ?_ ?_ ?_ ?_ ?_ ?_ ?_ ?_ ?_ ?_ ?_ ?_ ?_ ?_ ?_ ?_ ?_ ?_ ?_ ?_ ?_ ?_ ?_ ?_ ?_ ?_ ?_ ?_ ?_ ?_ ?_ ?_ ?_ ?_ ?_ ?_ ?_ ?_ ?_ ?_ ?_ ?_ ?_ ?_ ?_ ?_ ?_ ?_ ?_ ?_ ?_ ?_ ?_ ?_ ?_ ?_ ?_ ?_ ?_ ?_ ?_ ?_ ?_ ?_ ?_ ?_ ?_ ?_ ?_ ?_ ?_ ?_ ?_ ?_ ?_ ?_ ?_ ?_
  all_goals first|k_is|(show(_:Prop);constructor<;>first|(show _=_;k_is)|k_exc|(constructor<;>(show _=_;k_is)))|skip
#print axioms PySem.Challenge.cw_quotefind_k27_other_words_holds
